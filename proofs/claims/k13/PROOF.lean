import PyProof.Rows.All
import Wide.All
import OpenK.AllK
import Wide.FinOn
import HandS.ForMost
import HandS.Exc
import HandS.TryOnly
import HandS.ExcOwn
import HandS.WordsExc
import HandS.IsInst
import HandS.Wide
import HandS.Flow
import HandS.More
import HandS.Codes
import HandS.Walk
import HandS.TupLe
import HandS.WordsDict
import HandS.Conv
import HandS.TryMany
import HandS.ExcIs
import KE.KBits
import HandS.CallLocal
import HandS.Strs
import HandS.SetFor
import HandS.Set
import HandS.Property
import KE.GoesMore
import KE.KTurns
import KE.KDictZip
import HandS.Keys
import HandS.Replace
import HandS.Text
import HandS.NoneIn
import HandS.Remove
import HandS.Deep
import KE.KExcSuper
import KE.RegKSuper
import KE.KExcIs
import HandS.ExcInit
import HandS.ExcField
import HandS.ExcInitHot
import HandS.RaiseFrom
import HandS.SuiteRaise
import KE.KStateDown
import HandS.Head0
import HandS.Head1
import HandS.Head2
import PySem.Challenge.RW_sillwatch_k13_refused_requests
set_option Elab.async false
set_option linter.all false
set_option maxRecDepth 100000
set_option maxHeartbeats 4000000
namespace My
open PySem L2
section
/-! ### a def whose first statement is super().__init__(e, ..), in an own exception (our own rule) -/
open PySem PySem.Spec PyProof.Rows
structure SupScope (N P : List Str) (sc : Scope) : Prop where
  kind : sc.kind = .function
  co : sc.isCoroutine = false
  gen : sc.isGenerator = false
  nd : N.Nodup
  pre : N.take P.length = P
  par : ∀ x ∈ P, sc.names.lookup x = some .local
  nocell : ∀ y ∈ sc.names, y.2 ≠ .cell
  free : ∀ y ∈ sc.names, y.2 = .free → y.1 = "__class__"
  cls : sc.names.lookup ("__class__" : Str) = some .free
  sup : sc.names.lookup ("super" : Str) = some .globalImplicit
abbrev envSup (qual : Str) (scope : Scope) (L f : Addr) (cd : Value) (cc : Addr) : Env := PySem.W.envX qual scope L f cd [("__class__", cc)]
def cxSup (CX : CXT) (P : Program) (w : World) (K : PySem.W.Frag) (mg : Str → Option Value) (base : Heap) (N : List Str) (qual : Str) (scope : Scope) (f : Addr) (cd : Value) (cc : Addr) (A : Around) (outer : List Env) (s : Shared) (H : Hp) (E : XK) : Cx where
  prog := P
  w := w
  K := K
  mg := mg
  base := base
  A := A.deeper (envSup qual scope s.heap.objs.size f cd cc)
  N := N
  s_0 := s
  H_0 := H
  env := envSup qual scope s.heap.objs.size f cd cc
  outer := outer
  stack := envSup qual scope s.heap.objs.size f cd cc :: outer
  ex := []
  calm := true
  fn := fun x => x != ("__class__" : Str)
  pn := []
  xe := fun e s' => wpAny (model P w) (A.deeper (envSup qual scope s.heap.objs.size f cd cc)) (leaving (envSup qual scope s.heap.objs.size f cd cc) e) (fun _ s'' => CX outer H s E e s'') (fun e' s'' => CX outer H s E e' s'') s'
theorem zip_rev_out {x : Str} : ∀ {ps : List Str} {us : List Value}, x ∉ ps → ((ps.zip us).reverse.lookup x) = none := by
  intro ps us h
  rw [List.lookup_eq_none_iff]
  intro p hp
  rw [List.mem_reverse] at hp
  have := (List.of_mem_zip (a := p.1) (b := p.2) hp).1
  simp only [beq_eq_false_iff_ne, bne_iff_ne, ne_eq]
  intro e
  rw [e] at h
  exact h this
theorem zip_rev_get {x : Str} {u : Value} : ∀ {ps : List Str} {us : List Value} {i : Nat}, ps.Nodup → ps[i]? = some x → us[i]? = some u → (ps.zip us).reverse.lookup x = some u
  | [], _, _, _, h, _ => by simp at h
  | _ :: _, [], _, _, _, h => by simp at h
  | p :: ps, v :: us, 0, nd, h1, h2 => by
    simp at h1 h2; subst h1; subst h2
    rw [List.zip_cons_cons, List.reverse_cons, List.lookup_append, zip_rev_out (List.nodup_cons.mp nd).1]
    simp [List.lookup]
  | p :: ps, v :: us, i + 1, nd, h1, h2 => by
    rw [List.zip_cons_cons, List.reverse_cons, List.lookup_append, zip_rev_get (i := i) (List.nodup_cons.mp nd).2 (by simpa using h1) (by simpa using h2)]
    rfl
theorem sup_cell {x : Str} {c cc : Addr} (h : List.lookup x [(("__class__" : Str), cc)] = some c) : x = "__class__" ∧ c = cc := by
  rw [List.lookup_cons] at h
  cases e : (x == ("__class__" : Str)) with
  | true =>
    rw [e] at h
    exact ⟨by simpa using e, by cases h; rfl⟩
  | false => rw [e] at h; cases h
theorem inv_sup {CX : CXT} {P : Program} {w : World} {K : PySem.W.Frag} {mg : Str → Option Value} {base : Heap} {N ps : List Str} {qual : Str} {scope : Scope} {f cc : Addr} {cd : Value} {A : Around} {outer : List Env} {s : Shared} {H : Hp} {E : XK} {us : List Value} {vs : List V} {h1 : Heap} {tk : Nat}
    {cl : Value} {cld : Option Addr} {cv : Option Value} {csl : Array (Option Value)} (S : SupScope N ps scope) (hd : A.handled = none) (e0 : Env0 P w K mg base A outer s H) (hl : vs.length = ps.length) (r : Vals vs us) (hcc : K.lookup cc = some ⟨cl, cld, .cell cv, csl⟩)
    (hns : h1.Ns s.heap.objs.size (fun x => (ps.zip us).reverse.lookup x)) (hk : ∀ b o, s.heap.get? b = some o → h1.get? b = some o) :
    Inv (cxSup CX P w K mg base N qual scope f cd cc A outer s H E) [] (L2.start N vs) H { s with heap := h1, toks := tk } := by
  have hpl : ps.length ≤ N.length := by have := congrArg List.length S.pre; rw [List.length_take] at this; omega
  have noA : ∀ b : Addr, b ∉ (cxSup CX P w K mg base N qual scope f cd cc A outer s H E).ex := fun b z => absurd (show b ∈ ([] : List Addr) from z) (by simp)
  have hcb : base.get? cc = some ⟨cl, cld, .cell cv, csl⟩ := e0.mod.kin _ _ hcc
  have hcs := (e0.bs _ _ hcb).1
  refine ⟨⟨e0.mod, S.kind, rfl, rfl, Nat.le_refl _, fun y z c a b => ?_, fun y hy => ?_, fun y c hf h => ?_, fun _ => hd, Around.frames_deeper e0.frames, .inr ⟨rfl, rfl⟩, fun b z => absurd z (noA b), e0.bs, e0.bsz, fun b _ _ => noA b, fun b z => absurd z (noA b), e0.funs, e0.frf⟩,
    rfl, e0.bare, Un.kept hk, ⟨_, hns, fun i y v a b c => ?_⟩, fun y c h => ?_, e0.hok.fresh (Nat.le_refl _), fun y c h => ?_, fun p hp => absurd (show p ∈ ([] : List (Addr × Obj)) from hp) (by simp), e0.hok.kept hk, ?_⟩
  · rw [(sup_cell a).1, (sup_cell b).1]
  · have hy : scope.names.lookup y = some .cell ∨ scope.names.lookup y = some .free := hy
    rcases hy with hy | hy
    · exact absurd rfl (S.nocell _ (PySem.mem_of_lookup hy))
    · have e := S.free _ (PySem.mem_of_lookup hy) rfl
      refine ⟨cc, ?_⟩
      show List.lookup y [(("__class__" : Str), cc)] = some cc
      rw [show y = "__class__" from e]
      exact List.lookup_cons_self
  · have := (sup_cell h).1
    subst this
    exact absurd hf (by show ¬ ((("__class__" : Str) != ("__class__" : Str)) = true); decide)
  · have hi : i < vs.length := by
      unfold L2.start at b
      by_cases hi : i < vs.length
      · exact hi
      · rw [List.getElem?_append_right (by simpa using hi)] at b
        rw [List.getElem?_replicate] at b
        split at b <;> cases b
    have ha : vs[i]? = some v := by
      unfold L2.start at b
      rw [List.getElem?_append_left (by simpa using hi), List.getElem?_map] at b
      cases e : vs[i]? with
      | none => rw [e] at b; cases b
      | some a => rw [e] at b; cases b; rfl
    obtain ⟨u, hu, rv⟩ := r.get ha
    have hp : ps[i]? = some y := by
      rw [← S.pre, List.getElem?_take_of_lt (by omega)]; exact a
    have ndP : ps.Nodup := by rw [← S.pre]; exact S.nd.sublist (List.take_sublist _ _)
    exact ⟨u, rv, .inl ⟨S.par y (List.mem_of_getElem? hp), zip_rev_get ndP hp hu⟩⟩
  · obtain ⟨_, rfl⟩ := sup_cell h
    exact ⟨cv, _, hk _ _ hcs, rfl⟩
  · obtain ⟨_, rfl⟩ := sup_cell h
    exact (e0.bs _ _ hcb).2
  · unfold L2.start
    show _ = N.length
    rw [List.length_append, List.length_map, List.length_replicate]
    omega
/-- ValueError's __init__ called through the wrapper that super() gave -/
theorem sup_call {X : Cx} {pins : List (Addr × Obj)} {σ : L2.St} {H : Hp} {s : Shared} {a C u : Addr} {us : List Value} {Q : Value → Shared → Prop} {E : Value → Shared → Prop} {A : Around} (T : OexC X.K C) (I : Inv X pins σ H s) (e : H a = some (exo a C none))
    (hu : s.heap.get? u = some (PySem.W.kxs_mw "ValueError.__init__" a)) (hl : us.length ≤ sizeLine) (h : ∀ s', Inv X pins σ H s' → Q .none s') :
    wpAny (model X.prog X.w) A (call (.ref u) us) Q E s := by
  obtain ⟨nm, q, N, bs, bm, sn, sub, ab, col, dd, k0, k1, k2, k3, k5, hC, hbm⟩ := T.cls
  obtain ⟨t1, ho⟩ := exo_at I.hok e
  have hCs := I.kIn _ _ hC
  obtain ⟨hp, g, d, t, os⟩ := s
  refine wpAny_call (codeAny_of_tree ?_)
  show wpAny _ A.in1 (callAny (.ref u) ⟨us, []⟩) _ _ _
  simp only [callAny]
  refine wpAny_bind (wpAny_load hu ?_)
  simp only [PySem.W.kxs_mw, show (Value.type "method-wrapper" == Value.type "method" || Value.type "method-wrapper" == Value.type "builtin_function_or_method" || Value.type "method-wrapper" == Value.type "method-wrapper") = true by decide, if_true]
  refine PySem.W.KFB.if_so (by decide) ?_
  refine wpAny_bind (PySem.W.check_bound_init F.excBase_ValueError.toExcCallFacts hCs ho rfl ?_)
  refine wpAny_bind (wpAny_pure (wpAny_pure ?_))
  refine ⟨PySem.plainId_quiet F.excBase_ValueError.init.plain _, codeAny_builtin F.excBase_ValueError.initEntry ?_⟩
  refine PySem.W.exc_init_tree (cls := .ref C) (t0 := t1) (dv := none) (c2 := .none) (c3 := .none) (b4 := .bool false) ho hl (fun h' k hx _ => ?_)
  have J := I.write (t' := t) (x := a) (e := a) (o := exo a C none) (by rw [e]; exact True.intro) (.inl rfl) k ⟨_, hx⟩ (exo_ok hx)
  have eu : upd H a (exo a C none) = H := by
    funext b
    by_cases hb : b = a
    · rw [hb, upd_same, e]
    · rw [upd_ne hb]
  rw [eu] at J
  exact h _ J
/-- what the written part says of an own exception's class C whose __init__ D has -/
structure SupC (K : PySem.W.Frag) (C D : Addr) : Prop where
  ox : OexC K C
  up : PySem.W.mroIn K C (.ref D) = some true
  get : PySem.W.ks_superIn K C D "__init__" = some (some (.builtin "ValueError.__init__"))
  ve : PySem.W.subIn K (.ref C) (.type "ValueError") = some true
  tp : PySem.W.nsIn K PySem.cStatics "thirdparty.any" = some none
theorem fn_sup {CX : CXT} {P : Program} {w : World} {K : PySem.W.Frag} {mg : Str → Option Value} {base : Heap} {k : Nat} {f cc cda D : Addr} {name qual : Str} {params : Arguments} {e : Expr} {es : List Expr} {p0 p1 p2 p3 p4 : Pos} {rest : List Stmt} {scope : Scope} {dV kV doc pm ct oc cl ccl : Value} {an od cld cdd : Option Addr}
    {osl csl ccs : Array (Option Value)} {N ps : List Str} {sp : Sp} {ar : Arg} {fvs : Array Value} {file : Str} {tf : Tok} {cdD : ClassData}
    (lk : K.lookup f = some ⟨oc, od, .func (PySem.W.fnX name qual params (.Expr (.Call (.Attribute (.Call (.Name "super" p0) [] [] p1) "__init__" p2) (e :: es) [] p3) p4 :: rest) scope [("__class__", cc)] dV kV doc pm an (.ref cda) ct), osl⟩)
    (hcd : PySem.W.codeIn K (.ref cda) qual = true) (S : SupScope N ps scope) (len : ∀ vs H Q E, sp vs H Q E → vs.length = ps.length)
    (hpar : (params.posonlyargs ++ params.args).head? = some ar) (har : ps[0]? = some ar.arg)
    (hcode : K.lookup cda = some ⟨ccl, cdd, .fields fvs, ccs⟩) (hvs : fvs[2]? = some (.str file tf)) (hfile : ((P.main.file : Str) == file) = true)
    (hcc : K.lookup cc = some ⟨cl, cld, .cell (some (.ref D)), csl⟩) (hD : PySem.W.clsIn K D = some cdD) (hsuper : mg "super" = none) (htop : (P.main.scope.names.lookup ("super" : Str)).isSome = false)
    (pl : Addr → Sem Bool) (hev : ∀ L : Addr, eval (.Call (.Attribute (.Call (.Name "super" p0) [] [] p1) "__init__" p2) (e :: es) [] p3) (envSup qual scope L f (.ref cda) cc) = (do
      let ov ← attributeBase (.Call (.Name "super" p0) [] [] p1) "__init__" (envSup qual scope L f (.ref cda) cc) (eval (.Call (.Name "super" p0) [] [] p1) (envSup qual scope L f (.ref cda) cc))
      standAt p2.atName
      let (fx, first) ← holding [ov] (getMethod ov "__init__" (pl L))
      callWith p3 fx first (backTo p3 (starEach (e :: es) (envSup qual scope L f (.ref cda) cc))) []))
    (he : ∀ X : Cx, starEach (e :: es) X.env = (false, eval e X.env) :: starEach es X.env) (hpl : ∀ X : Cx, (backTo p3 (starEach es X.env)).any (·.1) = false)
    (hbody : ∀ (A : Around) (outer : List Env) (s : Shared) (H : Hp) (vs : List V) (Q : VK) (E : XK), Room k (A.deeper (envSup qual scope s.heap.objs.size f (.ref cda) cc)) → sp vs H Q E →
      ∃ (ta : TA) (t : TS) (a C : Addr) (ws : List V), PA (cxSup CX P w K mg base N qual scope f (.ref cda) cc A outer s H E) (e :: es) ta ∧ PSs (cxSup CX P w K mg base N qual scope f (.ref cda) cc A outer s H E) rest t ∧ vs = .ref a :: ws ∧ H a = some (exo a C none) ∧ SupC K C D ∧
        ta (L2.start N vs) H fun us H1 => us.length ≤ 1000 ∧ H1 a = some (exo a C none) ∧ t { nx := fun _ H' => Q .non H', rt := Q } (L2.start N vs) H1) :
    FnOk P w K mg base CX (k + 1) f (PySem.W.fnX name qual params (.Expr (.Call (.Attribute (.Call (.Name "super" p0) [] [] p1) "__init__" p2) (e :: es) [] p3) p4 :: rest) scope [("__class__", cc)] dV kV doc pm an (.ref cda) ct) ps sp := by
  refine ⟨len, fun A outer s H args us vs Q E hr e0 hb r hsp => ?_⟩
  have hl := len _ _ _ _ hsp
  have KX : K.In s.heap := e0.mod.kin.keeps fun b o e => (e0.bs b o e).1
  have lim : s.heap.NoLimit := e0.mod.nolimit.keeps fun b o e => (e0.bs b o e).1
  refine PySem.ks_codeAny_call_defAt (fd := PySem.W.fnX name qual params (.Expr (.Call (.Attribute (.Call (.Name "super" p0) [] [] p1) "__init__" p2) (e :: es) [] p3) p4 :: rest) scope [("__class__", cc)] dV kV doc pm an (.ref cda) ct) (binds := ps.zip us)
    hr.depth (KX _ _ lk) rfl lim (PySem.W.codeRec_of KX hcd) rfl hb S.nocell (fun ⟨n, v⟩ hy => S.par n (List.of_mem_zip hy).1) (fun h₀ hns hk => ?_) S.co S.gen S.kind
  obtain ⟨ta, t, a, C, ws, hPA, hPS, rfl, ea, T, hq⟩ := hbody A outer s H vs Q E (hr.deeper _) hsp
  have I : Inv (cxSup CX P w K mg base N qual scope f (.ref cda) cc A outer s H E) [] (L2.start N (.ref a :: ws)) H { s with heap := h₀, toks := s.toks + (ps.zip us).length } := inv_sup S hr.hd e0 hl r hcc hns hk
  have ndP : ps.Nodup := by rw [← S.pre]; exact S.nd.sublist (List.take_sublist _ _)
  have hus : ∃ ur, us = .ref a :: ur := by
    cases r with
    | cons h _ => obtain rfl := (show _ = Value.ref a from h); exact ⟨_, rfl⟩
  obtain ⟨ur, rfl⟩ := hus
  have hself : (ps.zip (.ref a :: ur)).reverse.lookup ar.arg = some (.ref a) := zip_rev_get (i := 0) ndP har rfl
  obtain ⟨t1, ho⟩ := exo_at I.hok ea
  have K0 : K.In h₀ := I.kIn
  obtain ⟨oD, hD1, hD2⟩ : ∃ oD, h₀.get? D = some oD ∧ oD.data = .cls cdD := by
    unfold PySem.W.clsIn at hD
    split at hD
    · rename_i c d cd' sl ho
      cases hD
      exact ⟨_, K0 _ _ ho, rfl⟩
    · cases hD
  show PySem.wpAt (model P w) (A.deeper (envSup qual scope s.heap.objs.size f (.ref cda) cc)) (.func (.Expr (.Call (.Attribute (.Call (.Name "super" p0) [] [] p1) "__init__" p2) (e :: es) [] p3) p4 :: rest) (envSup qual scope s.heap.objs.size f (.ref cda) cc)) (execs (.Expr (.Call (.Attribute (.Call (.Name "super" p0) [] [] p1) "__init__" p2) (e :: es) [] p3) p4 :: rest) (envSup qual scope s.heap.objs.size f (.ref cda) cc)) _ _ _
  refine PySem.ks_wpAt_execs_cons (PySem.ks_wpAt_Expr_any (PySem.ks_wpAt_MethodCall ?_ (hev _)) I.quiet)
  refine PySem.ks_wpAt_super_base (f := f) (cc := cda) (ar := ar) (vs := fvs) (file := file) (tf := tf) (env := envSup qual scope s.heap.objs.size f (.ref cda) cc) S.sup S.cls (by decide) rfl (K0 _ _ lk) rfl hpar rfl (K0 _ _ hcode) rfl hvs hfile htop ?_
  obtain ⟨mb, hb1, hb2⟩ := I.mod.blt
  refine PySem.W.ks_loadName_global S.kind S.sup (Calls.loadGlobal_builtin (I.mod.glob.keeps I.bk) hsuper (hb1.keeps I.bk) ((hb2 _ (by decide)).trans (by first | rfl | kernel_rfl | decide +kernel)) ⟨rfl, ?_⟩)
  refine wpAny_loadName_free S.kind S.cls (c := cc) rfl ⟨_, K0 _ _ hcc, rfl⟩ ?_
  refine wpAny_loadName_local S.kind (S.par _ (List.mem_of_getElem? har)) hns hself ?_
  refine PySem.ks_wpAny_isType_cls hD1 hD2 ⟨rfl, ?_⟩
  refine PySem.ks_wpAny_call_super hD1 hD2 ho rfl (fun c z => by cases z) (PySem.W.looks_mroIn K0 T.up) (fun h' eso k => ?_)
  have I' := I.kept (t' := s.toks + (ps.zip (Value.ref a :: ur)).length) k
  have K' : K.In h' := I'.kIn
  have ho' := k _ _ ho
  obtain ⟨nm, q, N', bs, bm, sn, sub, ab, col, dd, k0, k1, k2, k3, k5, hC, hbm⟩ := T.ox.cls
  have hcl : PySem.W.clsIn K C = some { name := nm, bases := bs, mro := .ref C :: bm, ns := N', qualname := q, hasDict := true, slotNames := sn, subclasses := sub, abstract := ab, collection := col, hasDel := false } := by unfold PySem.W.clsIn; rw [hC] <;> rfl
  have hget := T.get
  unfold PySem.W.ks_superIn at hget
  rw [hcl, Option.bind_some] at hget
  have haC : a ≠ C := fun z => by
    have := (e0.bs _ _ (e0.mod.kin _ _ hC)).2
    rw [← z, ea] at this; cases this
  have IA : PySem.W.InstAt h' a { cls := .ref C, dict := none, data := .fields #[.ref t1, .none, .none, .none, .bool false, .none] } C none := ⟨ho', rfl, rfl, trivial⟩
  refine PySem.W.kxs_getMethod PySem.W.kxs_ValueError eso (PySem.W.looks_opaque K' T.tp) ((PySem.W.looks_clsIn K' hcl).andThen .now) rfl K' hget (IA.type.andThen (PySem.W.looks_subIn K' T.ve)) haC (by decide) ?_
  have I2 := I'.kept (t' := s.toks + (ps.zip (Value.ref a :: ur)).length + 1) (h' := h'.push (PySem.W.kxs_mw "ValueError.__init__" a)) (fun b o e => Heap.get?_push_of_some _ e)
  have I3 : Inv (cxSup CX P w K mg base N qual scope f (.ref cda) cc A outer s H E) [(h'.objs.size, PySem.W.kxs_mw "ValueError.__init__" a)] (L2.start N (.ref a :: ws)) H { s with heap := h'.push (PySem.W.kxs_mw "ValueError.__init__" a), toks := s.toks + (ps.zip (Value.ref a :: ur)).length + 1 } :=
    I2.pins_of fun p hp => by
      rw [List.mem_singleton.mp hp]
      exact ⟨Heap.get?_push_at rfl rfl, I'.hok.fresh (Nat.le_refl _), Nat.ne_of_gt I'.lt, I'.nofs (Nat.le_refl _), fun v z => by cases z⟩
  have hX := he (cxSup CX P w K mg base N qual scope f (.ref cda) cc A outer s H E)
  have hpl2 := hpl (cxSup CX P w K mg base N qual scope f (.ref cda) cc A outer s H E)
  have hrun := hPA.run p3 _ _ _ _ _ I3 hq
  show wpAny _ _ (callWith p3 (Value.ref h'.objs.size) [] (backTo p3 (starEach (e :: es) (cxSup CX P w K mg base N qual scope f (.ref cda) cc A outer s H E).env)) []) _ _ _
  rw [hX] at hrun ⊢
  refine PySem.W.kxs_callWith (i := "ValueError.__init__") (x := a) (by show (false || (backTo p3 (starEach es _)).any (·.1)) = false; rw [hpl2]; rfl) (Calls.evalArgs_plain (wpAny_mono hrun (fun ws' s1 hh => ?_) fun _ _ z => z))
  obtain ⟨vs1, H1, I4, r1, hl1, e1, ht⟩ := hh
  refine ⟨(I4.pin _ (List.mem_append_right _ (List.mem_singleton.mpr rfl))).1, ?_⟩
  refine sup_call T.ox I4 e1 (I4.pin _ (List.mem_append_right _ (List.mem_singleton.mpr rfl))).1 (by rw [List.nil_append, ← Paired.length r1, sizeLine_eq]; omega) (fun s2 J => ?_)
  refine wpAt_of_wpAny ?_
  refine wpAny_mono (hPS.run _ s2 _ H1 _ J ht) (fun fl s' hs => ?_) fun e s' hs => hs
  have fin : ∀ {σ' : L2.St} {H' : Hp} {v : V} {u : Value}, Inv (cxSup CX P w K mg base N qual scope f (.ref cda) cc A outer s H E) [(h'.objs.size, PySem.W.kxs_mw "ValueError.__init__" a)] σ' H' s' → RelV v u → Q v H' → CE outer P w H s Q u s' :=
    fun {σ' H' v u} J rv q => ⟨v, H', J.os, J.bare, J.base, J.hok, rv, q⟩
  cases fl with
  | ret u =>
    obtain ⟨v, σ', H', J, rv, q⟩ := hs
    exact fin J rv q
  | next =>
    obtain ⟨σ', H', J, q⟩ := hs
    exact fin (v := V.non) (u := Value.none) J rfl q
  | brk =>
    obtain ⟨_, _, _, q⟩ := hs
    exact False.elim q
  | cont =>
    obtain ⟨_, _, _, q⟩ := hs
    exact False.elim q
/-- what the program says of its own file, and of the name super -/
structure Prg (P : Program) : Prop where
  file : ((P.main.file : Str) == ("/claim/cut.py" : Str)) = true
  top : (P.main.scope.names.lookup ("super" : Str)).isSome = false
/-- such a def of the text as it stands behind the top -/
structure FunSup (K : PySem.W.Frag) (x qual : Str) (st : Stmt) (f : Addr) (fd : FuncData) (D : Addr) : Prop where
  ex : ∃ (oc : Value) (od : Option Addr) (kV doc pm : Value) (an : Option Addr) (cda : Addr) (ct : Value) (osl : Array (Option Value)) (cc : Addr) (cl ccl : Value) (cld cdd : Option Addr) (csl ccs : Array (Option Value)) (fvs : Array Value) (tf : Tok) (cdD : ClassData),
    fd = PySem.W.fnX x qual (defArgs st) (defBody st) (defScope st) [("__class__", cc)] .none kV doc pm an (.ref cda) ct ∧ K.lookup f = some ⟨oc, od, .func fd, osl⟩ ∧ PySem.W.codeIn K (.ref cda) qual = true ∧ K.lookup cda = some ⟨ccl, cdd, .fields fvs, ccs⟩ ∧
    fvs[2]? = some (.str "/claim/cut.py" tf) ∧ K.lookup cc = some ⟨cl, cld, .cell (some (.ref D)), csl⟩ ∧ PySem.W.clsIn K D = some cdD
theorem FunSup.ok {CX : CXT} {P : Program} {w : World} {K : PySem.W.Frag} {mg : Str → Option Value} {base : Heap} {x qual : Str} {st : Stmt} {f D : Addr} {fd : FuncData} {N ps : List Str} {k : Nat} {sp : Sp} {ar : Arg} {e : Expr} {es : List Expr} {p0 p1 p2 p3 p4 : Pos} {rest : List Stmt}
    (F : FunSup K x qual st f fd D) (hP : Prg P) (S : SupScope N ps (defScope st)) (len : ∀ vs H Q E, sp vs H Q E → vs.length = ps.length)
    (hst : defBody st = .Expr (.Call (.Attribute (.Call (.Name "super" p0) [] [] p1) "__init__" p2) (e :: es) [] p3) p4 :: rest) (hpar : ((defArgs st).posonlyargs ++ (defArgs st).args).head? = some ar) (har : ps[0]? = some ar.arg) (hsuper : mg "super" = none)
    {pl : Addr → Addr → Addr → Sem Bool} (hev : ∀ cc cda L : Addr, eval (.Call (.Attribute (.Call (.Name "super" p0) [] [] p1) "__init__" p2) (e :: es) [] p3) (envSup qual (defScope st) L f (.ref cda) cc) = (do
      let ov ← attributeBase (.Call (.Name "super" p0) [] [] p1) "__init__" (envSup qual (defScope st) L f (.ref cda) cc) (eval (.Call (.Name "super" p0) [] [] p1) (envSup qual (defScope st) L f (.ref cda) cc))
      standAt p2.atName
      let (fx, first) ← holding [ov] (getMethod ov "__init__" (pl cc cda L))
      callWith p3 fx first (backTo p3 (starEach (e :: es) (envSup qual (defScope st) L f (.ref cda) cc))) []))
    (he : ∀ X : Cx, starEach (e :: es) X.env = (false, eval e X.env) :: starEach es X.env) (hpl : ∀ X : Cx, (backTo p3 (starEach es X.env)).any (·.1) = false)
    (hbody : ∀ (cc cda : Addr) (A : Around) (outer : List Env) (s : Shared) (H : Hp) (vs : List V) (Q : VK) (E : XK), Room k (A.deeper (envSup qual (defScope st) s.heap.objs.size f (.ref cda) cc)) → sp vs H Q E →
      ∃ (ta : TA) (t : TS) (a C : Addr) (ws : List V), PA (cxSup CX P w K mg base N qual (defScope st) f (.ref cda) cc A outer s H E) (e :: es) ta ∧ PSs (cxSup CX P w K mg base N qual (defScope st) f (.ref cda) cc A outer s H E) rest t ∧ vs = .ref a :: ws ∧ H a = some (exo a C none) ∧ SupC K C D ∧
        ta (L2.start N vs) H fun us H1 => us.length ≤ 1000 ∧ H1 a = some (exo a C none) ∧ t { nx := fun _ H' => Q .non H', rt := Q } (L2.start N vs) H1) :
    FnOk P w K mg base CX (k + 1) f fd ps sp := by
  obtain ⟨oc, od, kV, doc, pm, an, cda, ct, osl, cc, cl, ccl, cld, cdd, csl, ccs, fvs, tf, cdD, rfl, lk, hcd, hcode, hvs, hcc, hD⟩ := F.ex
  rw [hst] at lk ⊢
  exact fn_sup lk hcd S len hpar har hcode hvs hP.file hcc hD hsuper hP.top (pl cc cda) (hev cc cda) he hpl (fun A outer s H vs Q E => hbody cc cda A outer s H vs Q E)
end
section
/-! ### an own exception that was made with its own __init__, as a value (our own rules) -/
open PySem PySem.Spec PyProof.Rows
/-- its object and its dict -/
structure ExV (H : Hp) (a C dx : Addr) (fs : List (Str × V)) : Prop where
  ob : H a = some (exo a C (some dx))
  di : H dx = some (exd dx fs)
theorem ExV.to {H H' : Hp} {a C dx : Addr} {fs : List (Str × V)} (h : ExV H a C dx fs) (s : Same H H') : ExV H' a C dx fs := ⟨s _ _ h.ob, s _ _ h.di⟩
theorem exv_inst {X : Cx} {pins : List (Addr × Obj)} {σ : L2.St} {H : Hp} {s : Shared} {a C dx : Addr} {fs : List (Str × V)} (I : Inv X pins σ H s) (h : ExV H a C dx fs) :
    ∃ (ox od : Obj) (mA : Str → Option Value), PySem.W.InstAt s.heap a ox C (some od) ∧ (∀ f, RelO (fs.lookup f) (mA f)) ∧ ∀ n, PySem.W.lookIn n od = some (mA n) := by
  obtain ⟨t1, ho⟩ := exo_at I.hok h.ob
  obtain ⟨mA, hns, hr⟩ := exd_at I.hok h.di
  obtain ⟨od, hod, hl⟩ := lookIn_ns hns
  exact ⟨_, od, mA, ⟨ho, rfl, rfl, hod⟩, hr, hl⟩
/-- isinstance(x, c) of such an exception -/
def rIsExo (K : PySem.W.Frag) : List V → Hp → VK → Prop := fun xs H Q => ∃ (a C dx : Addr) (fs : List (Str × V)) (c : V) (cv : Value) (b : Bool), xs = [.ref a, c] ∧ ExV H a C dx fs ∧ ExcC K C ∧ (∀ u, RelV c u → u = cv) ∧ PySem.W.kitOne K (.ref C) cv = some b ∧ Q (.bl b) H
theorem call_isExo {X : Cx} : CallR X (.builtin "isinstance") (rIsExo X.K) := by
  intro pins s σ H xs us Q I r h
  obtain ⟨a, C, dx, fs, c, cv, b, rfl, ev, T, hcv, e, q⟩ := h
  cases r with
  | cons rx rr =>
    cases rr with
    | cons rt rr =>
      cases rr
      cases rx
      have ec := hcv _ rt
      subst ec
      obtain ⟨ox, od, mA, J, _, _⟩ := exv_inst I ev
      have hcl : (PySem.W.clsIn X.K C).isSome = true := by
        have := T.hd
        unfold PySem.W.hasDictIn at this
        cases z : PySem.W.clsIn X.K C with
        | none => rw [z] at this; cases this
        | some cd => rfl
      exact PySem.W.kia_one (PySem.W.kitx_exc hcl T.hg T.hk T.hs T.ha T.hn T.ht T.hm) I.kIn J e (fun z => nomatch z) fun tk => ⟨.bl b, H, I.kept (t' := tk) fun _ _ z => z, rfl, q⟩
/-- e.f of such an exception -/
def tExf (K : PySem.W.Frag) (n : Str) (te : TE) : TE := fun σ H Q => te σ H fun x H1 => ∃ (a C dx : Addr) (fs : List (Str × V)) (v : V), x = .ref a ∧ ExV H1 a C dx fs ∧ XfC K C ∧ PySem.W.findIn K (.ref C) n = some none ∧ fs.lookup n = some v ∧ Q v H1
theorem pe_exf {X : Cx} {e : Expr} {te : TE} {pos : Pos} {n : Str} (he : PE X e te) (hb : attributeBase e n X.env (eval e X.env) = eval e X.env := by rfl) : PE X (.Attribute e n pos) (tExf X.K n te) := by
  refine ⟨fun pins s σ H Q I h => ?_⟩
  refine attr_of hb (thn (he.run pins s σ H _ I h) fun u s1 hh => ?_)
  obtain ⟨x, H1, I1, rx, a, C, dx, fs, v, ex, ev, T, hno, l, q⟩ := hh
  subst ex
  obtain rfl : u = Value.ref a := rx
  obtain ⟨ox, od, mA, J, hr, hl⟩ := exv_inst I1 ev
  obtain ⟨u, hu, ru⟩ := RelO.some_of (v := v) (o := mA n) (by rw [← l]; exact hr n)
  exact HandSPX.exc_get I1.kIn J T.ga T.gg T.exC (PySem.W.findObj_own T.hdC hno rfl (by rw [hl, hu])) (handed_of ru) ⟨v, H1, I1.tok _, ru, q⟩
/-- C(e, ..) as a value, C's own __init__ keeping sp -/
def tMkV (C : Addr) (sp : Sp) (dvs : List V) (ta : TA) : TE := fun σ H Q => ta σ H fun vs H1 => vs.length ≤ 1000 ∧ ∀ a, H1 a = none → sp (.ref a :: (vs ++ dvs)) (upd H1 a (exo a C none)) (fun v H2 => v = .non ∧ Q (.ref a) H2) (fun _ _ _ => False)
theorem pe_mkv {X : Cx} {e : Expr} {es : List Expr} {ta : TA} {p pos : Pos} {CX : CXT} {x : Str} {C fI : Addr} {k : Nat} {fd : FuncData} {ps : List Str} {sp : Sp} {ds : List Value} {dvs : List V} (T : OexC X.K C) (iC : PySem.W.findIn X.K (.ref C) "__init__" = some (some (.ref fI))) (tI : PySem.W.typeIn X.K (.ref fI) = some (.type "function"))
    (F1 : FnOk X.prog X.w X.K X.mg X.base CX k fI fd ps sp) (hr : Room (k + 1) X.A) (hb : Binds X.K fd ps ds) (hd : Vals dvs ds) (hx : Passes CX X (fun _ _ _ => False)) (hg : Gl X x) (hm : X.mg x = some (.ref C)) (ha : PA X (e :: es) ta)
    (hdb : (x == ("__debug__" : Str)) = false := by decide) (he : starEach (e :: es) X.env = (false, eval e X.env) :: starEach es X.env := by rfl) (hpl : (backTo pos (starEach es X.env)).any (·.1) = false := by rfl) :
    PE X (.Call (.Name x p) (e :: es) [] pos) (tMkV C sp dvs ta) := by
  refine ⟨fun pins s σ H Q I h => ?_⟩
  obtain ⟨nm, q, N, bs, bm, sn, sub, ab, col, dd, k0, k1, k2, k3, k5, hC, hbm⟩ := T.cls
  refine wpAny_Call_Name_kw (ld_glob I hg hm ?_ hdb)
  refine PySem.W.callWith_K (h₀ := X.base) I.ok.mod.kin T.kC (thn (ha.run pos pins s σ H _ I h) fun us s1 ⟨vs, H1, I1, r1, hz, q1⟩ => ⟨I1.kIn, ?_⟩) he hpl
  show wpAny _ _ (call (.ref C) us) _ _ _
  obtain ⟨hp, g, dr, tk, os⟩ := s1
  have hsz : hp.objs.size ≤ hp.objs.size + 1 := Nat.le_succ _
  have hn : H1 (hp.objs.size + 1) = none := I1.hok.fresh hsz
  have hq := q1 (hp.objs.size + 1) hn
  have kk : ∀ b o, hp.get? b = some o → ((hp.push (PySem.W.kdv_tup us)).push (PySem.HandSPX.excO C hp.objs.size)).get? b = some o := fun b o e => Heap.get?_push_of_some _ (Heap.get?_push_of_some _ e)
  have hget : ((hp.push (PySem.W.kdv_tup us)).push (PySem.HandSPX.excO C hp.objs.size)).get? (hp.objs.size + 1) = some (PySem.HandSPX.excO C hp.objs.size) := by heap_get
  have I2 : Inv X pins σ (upd H1 (hp.objs.size + 1) (exo (hp.objs.size + 1) C none)) ⟨(hp.push (PySem.W.kdv_tup us)).push (PySem.HandSPX.excO C hp.objs.size), g, dr, tk, os⟩ :=
    I1.laid (t' := tk) (a := hp.objs.size + 1) (o := exo (hp.objs.size + 1) C none) (h' := (hp.push (PySem.W.kdv_tup us)).push (PySem.HandSPX.excO C hp.objs.size)) kk hsz (exo_ok hget)
  have r2 : Vals (V.ref (hp.objs.size + 1) :: (vs ++ dvs)) (Value.ref (hp.objs.size + 1) :: (us ++ ds)) := .cons rfl (r1.append hd)
  have hl : (Value.ref (hp.objs.size + 1) :: us ++ ds).length = ps.length := by
    have e := r2.length
    rw [F1.len _ _ _ _ hq] at e
    exact e.symm
  have hus : us.length ≤ sizeLine := by
    rw [← Paired.length r1, sizeLine_eq]
    omega
  refine wpAny_call (PySem.HandSPX.call_own F.excBase_ValueError (fun Y => PySem.HandSPX.refsVE_contains Y bm hbm) (I1.kIn _ _ hC) (PySem.W.looks_findIn I1.kIn iC) (fun self => PySem.W.bind_fn I1.kIn self tI) hus
    (codeAny_mono (F1.run _ X.stack _ _ ⟨Value.ref (hp.objs.size + 1) :: us, []⟩ (Value.ref (hp.objs.size + 1) :: (us ++ ds)) _ _ (fun _ _ _ => False) (hr.make C us []) (I2.env0.make C us []) (hb _ (Value.ref (hp.objs.size + 1) :: us) I2.kIn hl) r2 hq) fun r s' hq' => ?_))
  cases r with
  | error er => exact hx pins σ _ _ er s' I2 hq'
  | ok fl =>
    cases fl with
    | ret u =>
      obtain ⟨v, H2, J, rv, ev, q2⟩ := I2.after hq'
      subst ev
      exact ⟨rv, V.ref (hp.objs.size + 1), H2, J, rfl, q2⟩
    | next => exact False.elim hq'
    | brk => exact False.elim hq'
    | cont => exact False.elim hq'
end
/-! ### a dict of the module with text keys: get with a default, where the key is there; list -/
/-- all the keys of such a dict -/
def KKeys (K : PySem.W.Frag) (w : World) (a : Addr) (ks : List Str) : Prop := ∃ es n us, K.lookup a = some ⟨.type "dict", none, .dict es n, #[]⟩ ∧ PySem.W.KeysLit w.params es.toList ∧ es.toList.map (fun e : DictEntry => e.key) = us ∧ Vals (ks.map V.str) us ∧ (a == sysModules) = false
theorem find_none {es : List DictEntry} {n : Str} : ∀ {ks : List Str} {us : List Value}, es.map (fun e : DictEntry => e.key) = us → Vals (ks.map V.str) us → n ∉ ks → es.find? (fun e : DictEntry => Value.isStrOf n e.key) = none := by
  induction es with
  | nil => intro _ _ _ _ _; rfl
  | cons e es ih =>
    intro ks us hu hv hn
    subst hu
    cases ks with
    | nil => cases hv
    | cons k ks =>
      cases hv with
      | cons h1 h2 =>
        obtain ⟨t, ht⟩ := h1
        have ht' : e.key = .str k t := ht
        have hne : k ≠ n := fun z => hn (by rw [z]; exact List.mem_cons_self ..)
        rw [List.find?_cons_of_neg (by show ¬ Value.isStrOf n e.key = true; rw [ht']; show ¬ (k == n) = true; rw [beq_eq_false_iff_ne.mpr hne]; exact fun z => by cases z)]
        exact ih rfl h2 (fun z => hn (List.mem_cons_of_mem _ z))
def KGet (K : PySem.W.Frag) (w : World) (a : Addr) (n : Str) : Option V → Prop
  | some v => KDct K w a n v
  | none => ∃ ks, KKeys K w a ks ∧ n ∉ ks
def tKGet2 (K : PySem.W.Frag) (w : World) (td ty tx : TE) : TE := fun σ H Q => td σ H fun x H1 => ∃ a n o, x = .ref a ∧ (a == sysModules) = false ∧ KGet K w a n o ∧ ty σ H1 fun y H2 => y = .str n ∧ tx σ H2 fun z H3 => Q (o.getD z) H3
theorem kget_type {X : Cx} {pins : List (Addr × Obj)} {σ : St} {H : Hp} {s : Shared} {a : Addr} {n : Str} {o : Option V} (I : Inv X pins σ H s) (h : KGet X.K X.w a n o) :
    ∃ es, s.heap.MapOf (strKind X.prog X.w) a (fun k => findBy Value.isStrOf es k) ∧ match o with | some v => ∃ u, findBy Value.isStrOf es n = some u ∧ RelV v u | none => findBy Value.isStrOf es n = none := by
  cases o with
  | some v =>
    obtain ⟨es, m, u0, hl, hk, e, ru⟩ := h
    exact ⟨es, PySem.W.mapOf_K (prog := X.prog) (w := X.w) I.kIn hl hk, u0, PySem.W.find_K hl e, ru⟩
  | none =>
    obtain ⟨ks, ⟨es, m, us, hl, hk, hu, hv, _⟩, hn⟩ := h
    refine ⟨es, PySem.W.mapOf_K (prog := X.prog) (w := X.w) I.kIn hl hk, ?_⟩
    obtain ⟨l⟩ := es
    show findBy Value.isStrOf ⟨l⟩ n = none
    unfold findBy
    rw [List.find?_toArray, find_none hu hv hn]; rfl
theorem pe_kget2 {X : Cx} {o e f : Expr} {apos cpos : Pos} {td ty tx : TE} (ho : PE X o td) (he : PE X e ty) (hf : PE X f tx) (m : M2 X o "get" apos e f cpos) : PE X (.Call (.Attribute o "get" apos) [e, f] [] cpos) (tKGet2 X.K X.w td ty tx) := by
  refine ⟨fun pins s σ H Q I h => ?_⟩
  refine wpAny_Call_method m.base m.few m.line PySem.F.plainAttrs_dict PySem.F.slot_dict_get PySem.F.type_dict_get (thn (ho.run pins s σ H _ I h) fun u s1 ⟨x, H1, I1, rx, a, n, v, ex, hs, d, q1⟩ => ?_)
  subst ex
  obtain rfl : u = Value.ref a := rx
  obtain ⟨es0, hm0, _⟩ := kget_type I1 d
  refine ⟨hm0.typeIs, fun b q => ?_, ?_⟩
  · cases q
    obtain ⟨ob, _, _, h1, h2, _⟩ := hm0
    exact ⟨ob, h1, h2.2.1⟩
  rw [m.trees]
  refine Calls.callWith_builtin rfl (Calls.evalArgs_plain (Calls.spliced_cons (thn (he.run pins s1 σ H1 _ I1 q1) fun iv s2 ⟨y, H2, I2, ry, ey, q2⟩ =>
    Calls.spliced_cons (thn (hf.run pins s2 σ H2 _ I2 q2) fun fv s3 ⟨z, H3, I3, rz, q3⟩ => Calls.spliced_nil ?_))))
  subst ey
  obtain ⟨t, rfl⟩ := ry
  obtain ⟨es, hm, hf⟩ := kget_type I3 d
  refine call_meetsIn PySem.F.slot_dict_get hm.typeIs PySem.F.entry_dict_get (PySem.F.args_dict_get_3 _ _ _) (meets_dict_get_default (strKind X.prog X.w) a (strKind_is X.prog X.w n t) hs fv) ⟨_, hm, ?_⟩
  cases v with
  | some v =>
    obtain ⟨u, h1, h2⟩ := hf
    rw [h1]
    exact ⟨v, H3, I3.tok _, h2, q3⟩
  | none =>
    rw [show findBy Value.isStrOf es n = none from hf]
    exact ⟨z, H3, I3.tok _, rz, q3⟩
theorem pairs_of {P : Program} {w : World} : ∀ {es : List DictEntry} {ks : List Str} {us : List Value}, es.map (fun e : DictEntry => e.key) = us → Vals (ks.map V.str) us → ∃ kvs : List (Str × Value), Pairs (strKind P w) es kvs ∧ kvs.map (·.1) = ks
  | [], [], _, rfl, _ => ⟨[], .nil, rfl⟩
  | [], _ :: _, _, rfl, h => by cases h
  | _ :: _, [], _, rfl, h => by cases h
  | e :: es, k :: ks, _, rfl, h => by
    cases h with
    | cons h1 h2 =>
      obtain ⟨t, ht⟩ := h1
      obtain ⟨kvs, p, hk⟩ := pairs_of (P := P) (w := w) (es := es) (ks := ks) rfl h2
      have ht' : e.key = .str k t := ht
      exact ⟨(k, e.val) :: kvs, .cons (by show (strKind P w).is k e.key = true; rw [ht']; exact strKind_is P w k t) rfl p, by rw [List.map_cons, hk]⟩
theorem call_listK {X : Cx} (hcalm : X.calm = true) : CallR X (.type "list") (fun xs H Q => ∃ (a : Addr) (ks : List Str), xs = [.ref a] ∧ KKeys X.K X.w a ks ∧ ks.Nodup ∧ ks.length ≤ 1000 ∧ ∀ p, H p = none → Q (.ref p) (upd H p (.lst (ks.map V.str)))) := by
  intro pins s σ H xs us Q I r q
  obtain ⟨a, ks, ex, ⟨es, n, us0, hl, hk, hu, hv, lo⟩, hnd, hz, q⟩ := q
  subst ex
  obtain ⟨u, eu, rx⟩ := vals1 r
  subst eu
  cases rx
  obtain ⟨kvs, hp, hks⟩ := pairs_of (P := X.prog) (w := X.w) hu hv
  have hat : s.heap.DictAt (strKind X.prog X.w) a kvs n := ⟨_, es, I.kIn _ _ hl, ⟨rfl, rfl, rfl⟩, rfl, fun e he => by
    obtain ⟨x, t, e1, e2⟩ := hk.all e (Array.mem_toList_iff.mpr he)
    exact ⟨x, by rw [e1]; exact strKind_is X.prog X.w x t, e2⟩, hp, by rw [hks]; exact hnd⟩
  have hlen : kvs.length = ks.length := by rw [← hks, List.length_map]
  refine PySem.W.kdl_call (PySem.W.kdl_dict (knd := strKind X.prog X.w) (kvs := kvs) (ep := n) lo) (I.ok.hd hcalm) hat (by rw [hlen]; exact Nat.le_trans hz (by show 1000 ≤ sizeLine; decide)) fun h' tk acc c' hk' hD hacc => ?_
  have hv2 : Vals (ks.map V.str) acc.toList := by
    have : ∀ (ks : List Str) (vs : List Value), vs.length = ks.length → (∀ (j : Nat) (v : Value) (k : Str), vs[j]? = some v → ks[j]? = some k → ∃ t, v = .str k t) → Vals (ks.map V.str) vs := by
      intro ks
      induction ks with
      | nil => intro vs hl _; cases vs with
        | nil => exact .nil
        | cons _ _ => cases hl
      | cons k ks ih => intro vs hl h; cases vs with
        | nil => cases hl
        | cons v vs => exact .cons (h 0 v k rfl rfl) (ih vs (Nat.succ.inj hl) fun j v' k' h1 h2 => h (j + 1) v' k' h1 h2)
    refine this ks acc.toList (by rw [Array.length_toList, hacc.1, hlen]) fun j v k hj hkj => ?_
    obtain ⟨k', x, e1, e2⟩ := hacc.2 j v (by rw [← Array.getElem?_toList]; exact hj)
    have ek : k' = k := by
      rw [← hks, List.getElem?_map, e1] at hkj
      exact Option.some.inj hkj
    subst ek
    cases v with
    | str y t => exact ⟨t, by
        have := (strKind X.prog X.w).inj (.str y t) y k' (strKind_is X.prog X.w y t) e2
        rw [this]⟩
    | _ => exact absurd e2 (by intro z; cases z)
  refine ⟨.ref s.heap.objs.size, upd H s.heap.objs.size (.lst (ks.map V.str)), I.laid (t' := tk) hk' (Nat.le_refl _)
    (show ObjOk X.prog X.w _ _ _ (.lst (ks.map V.str)) from ⟨by rw [List.length_map]; exact Nat.le_trans hz (by show 1000 ≤ sizeLine; decide), acc.toList, c', hv2, by rw [Array.toArray_toList]; exact hD⟩), rfl, q _ (I.hok.fresh (Nat.le_refl _))⟩
def topS (i : Nat) : Stmt := PySem.Challenge.pw_sillwatch_k13_refused_requests.main.body.getD i (.Pass ⟨0, 0, 0, 0⟩)
abbrev s_is_integer : Stmt := topS 26
abbrev s_is_text : Stmt := topS 27
abbrev s_number_octets : Stmt := topS 28
abbrev s_number_at : Stmt := topS 29
abbrev s_field_octets : Stmt := topS 30
abbrev s_read_arguments : Stmt := topS 31
abbrev s__is_code : Stmt := topS 32
abbrev s__is_of : Stmt := topS 33
abbrev s__are_octets : Stmt := topS 34
abbrev s__is_bound : Stmt := topS 35
abbrev s__text_octets : Stmt := topS 36
abbrev s__padded : Stmt := topS 37
abbrev s__read : Stmt := topS 38
abbrev s__read_number : Stmt := topS 39
abbrev s__read_named : Stmt := topS 40
abbrev s__read_text : Stmt := topS 41
abbrev s__read_octets : Stmt := topS 42
abbrev s__demand : Stmt := topS 43
abbrev s__behind_padding : Stmt := topS 44
abbrev s_encode_message : Stmt := topS 50
abbrev s_request_row : Stmt := topS 53
abbrev s_request_opcode : Stmt := topS 54
abbrev s__row_at : Stmt := topS 55
abbrev s__opcode_of : Stmt := topS 56
abbrev s_look_at : Stmt := topS 59
abbrev s_new_object : Stmt := topS 60
abbrev s__kind_and_interface : Stmt := topS 61
abbrev s__arguments : Stmt := topS 62
abbrev s__check_named : Stmt := topS 63
abbrev s__check_new : Stmt := topS 64
abbrev s__law_cell : Stmt := topS 66
abbrev s__law_row : Stmt := topS 67
abbrev s__law_rows : Stmt := topS 68
abbrev s__law_list : Stmt := topS 69
abbrev s__law_split : Stmt := topS 70
abbrev s__law_table : Stmt := topS 71
abbrev s__law_world : Stmt := topS 72
abbrev s__law_pick : Stmt := topS 73
abbrev s__law_free : Stmt := topS 74
abbrev s__law_argument : Stmt := topS 75
abbrev s__law_bad : Stmt := topS 76
abbrev s__law_due : Stmt := topS 77
abbrev s__law_told : Stmt := topS 78
abbrev s__law_asked : Stmt := topS 79
abbrev s_law : Stmt := topS 80
abbrev s_Fault___init__ : Stmt := inClass (topS 9) 0
abbrev s_Objects___init__ : Stmt := inClass (topS 15) 0
abbrev s_Objects_interface_of : Stmt := inClass (topS 15) 1
abbrev s_Objects_numbers : Stmt := inClass (topS 15) 2
abbrev s_Objects_may_give : Stmt := inClass (topS 15) 3
abbrev s_Objects_is_full : Stmt := inClass (topS 15) 4
abbrev s_Objects_give : Stmt := inClass (topS 15) 5
abbrev s_Objects_make : Stmt := inClass (topS 15) 6
abbrev s_Request___init__ : Stmt := inClass (topS 58) 0
structure Adr where
  fis_integer : Addr
  dis_integer : FuncData
  fis_text : Addr
  dis_text : FuncData
  fnumber_octets : Addr
  dnumber_octets : FuncData
  fnumber_at : Addr
  dnumber_at : FuncData
  ffield_octets : Addr
  dfield_octets : FuncData
  fread_arguments : Addr
  dread_arguments : FuncData
  f_is_code : Addr
  d_is_code : FuncData
  f_is_of : Addr
  d_is_of : FuncData
  f_are_octets : Addr
  d_are_octets : FuncData
  f_is_bound : Addr
  d_is_bound : FuncData
  f_text_octets : Addr
  d_text_octets : FuncData
  f_padded : Addr
  d_padded : FuncData
  f_read : Addr
  d_read : FuncData
  f_read_number : Addr
  d_read_number : FuncData
  f_read_named : Addr
  d_read_named : FuncData
  f_read_text : Addr
  d_read_text : FuncData
  f_read_octets : Addr
  d_read_octets : FuncData
  f_demand : Addr
  d_demand : FuncData
  f_behind_padding : Addr
  d_behind_padding : FuncData
  fencode_message : Addr
  dencode_message : FuncData
  frequest_row : Addr
  drequest_row : FuncData
  frequest_opcode : Addr
  drequest_opcode : FuncData
  f_row_at : Addr
  d_row_at : FuncData
  f_opcode_of : Addr
  d_opcode_of : FuncData
  flook_at : Addr
  dlook_at : FuncData
  fnew_object : Addr
  dnew_object : FuncData
  f_kind_and_interface : Addr
  d_kind_and_interface : FuncData
  f_arguments : Addr
  d_arguments : FuncData
  f_check_named : Addr
  d_check_named : FuncData
  f_check_new : Addr
  d_check_new : FuncData
  f_law_cell : Addr
  d_law_cell : FuncData
  f_law_row : Addr
  d_law_row : FuncData
  f_law_rows : Addr
  d_law_rows : FuncData
  f_law_list : Addr
  d_law_list : FuncData
  f_law_split : Addr
  d_law_split : FuncData
  f_law_table : Addr
  d_law_table : FuncData
  f_law_world : Addr
  d_law_world : FuncData
  f_law_pick : Addr
  d_law_pick : FuncData
  f_law_free : Addr
  d_law_free : FuncData
  f_law_argument : Addr
  d_law_argument : FuncData
  f_law_bad : Addr
  d_law_bad : FuncData
  f_law_due : Addr
  d_law_due : FuncData
  f_law_told : Addr
  d_law_told : FuncData
  f_law_asked : Addr
  d_law_asked : FuncData
  flaw : Addr
  dlaw : FuncData
  fFault___init__ : Addr
  dFault___init__ : FuncData
  fObjects___init__ : Addr
  dObjects___init__ : FuncData
  fObjects_interface_of : Addr
  dObjects_interface_of : FuncData
  fObjects_numbers : Addr
  dObjects_numbers : FuncData
  fObjects_may_give : Addr
  dObjects_may_give : FuncData
  fObjects_is_full : Addr
  dObjects_is_full : FuncData
  fObjects_give : Addr
  dObjects_give : FuncData
  fObjects_make : Addr
  dObjects_make : FuncData
  fRequest___init__ : Addr
  dRequest___init__ : FuncData
  tDISPLAY : Tok
  tLEAST_GIVEN : Tok
  tGREATEST_GIVEN : Tok
  tMOST_OBJECTS : Tok
  tGREATEST_NUMBER : Tok
  tLEAST_INT : Tok
  tGREATEST_INT : Tok
  tLONGEST_TEXT : Tok
  tMOST_OCTETS : Tok
  t_FIRST_CODE : Tok
  t_LAST_CODE : Tok
  t_PERCENT_CODE : Tok
  t_CHARACTERS : Tok
  tHEADER_SIZE : Tok
  tGREATEST_SIZE : Tok
  tGREATEST_OPCODE : Tok
  tMOST_ARGUMENTS : Tok
  a_REQUESTS : Addr
  a_REQUESTS_k0 : Addr
  a_REQUESTS_k0_0 : Addr
  a_REQUESTS_k0_0_1 : Addr
  a_REQUESTS_k0_1 : Addr
  a_REQUESTS_k0_1_1 : Addr
  a_REQUESTS_k1 : Addr
  a_REQUESTS_k2 : Addr
  a_REQUESTS_k2_0 : Addr
  a_REQUESTS_k2_0_1 : Addr
  a_REQUESTS_k3 : Addr
  a_REQUESTS_k3_0 : Addr
  a_REQUESTS_k3_0_1 : Addr
  a_REQUESTS_k3_1 : Addr
  a_REQUESTS_k3_1_1 : Addr
  a_REQUESTS_k4 : Addr
  a_REQUESTS_k4_0 : Addr
  a_REQUESTS_k4_0_1 : Addr
  a_REQUESTS_k4_1 : Addr
  a_REQUESTS_k4_1_1 : Addr
  a_REQUESTS_k4_2 : Addr
  a_REQUESTS_k4_2_1 : Addr
  a_REQUESTS_k5 : Addr
  a_REQUESTS_k5_0 : Addr
  a_REQUESTS_k5_0_1 : Addr
  a_REQUESTS_k5_1 : Addr
  a_REQUESTS_k5_1_1 : Addr
  a_REQUESTS_k5_2 : Addr
  a_REQUESTS_k5_2_1 : Addr
  a_REQUESTS_k6 : Addr
  a_REQUESTS_k6_0 : Addr
  a_REQUESTS_k6_0_1 : Addr
  a_REQUESTS_k6_1 : Addr
  a_REQUESTS_k6_1_1 : Addr
  a_REQUESTS_k6_2 : Addr
  a_REQUESTS_k6_2_1 : Addr
  a_REQUESTS_k7 : Addr
  a_REQUESTS_k7_0 : Addr
  a_REQUESTS_k7_0_1 : Addr
  a_REQUESTS_k7_1 : Addr
  a_REQUESTS_k7_1_1 : Addr
  a_REQUESTS_k7_2 : Addr
  a_REQUESTS_k7_2_1 : Addr
  a_REQUESTS_k7_3 : Addr
  a_REQUESTS_k7_3_1 : Addr
  a_REQUESTS_k7_4 : Addr
  a_REQUESTS_k7_4_1 : Addr
  a_REQUESTS_k7_5 : Addr
  a_REQUESTS_k7_5_1 : Addr
  a_REQUESTS_k7_6 : Addr
  a_REQUESTS_k7_6_1 : Addr
  a_REQUESTS_k8 : Addr
  a_REQUESTS_k8_0 : Addr
  a_REQUESTS_k8_0_1 : Addr
  a_REQUESTS_k8_1 : Addr
  a_REQUESTS_k8_1_1 : Addr
  a_REQUESTS_k9 : Addr
  a_REQUESTS_k9_0 : Addr
  a_REQUESTS_k9_0_1 : Addr
  a_REQUESTS_k9_1 : Addr
  a_REQUESTS_k9_1_1 : Addr
  a_REQUESTS_k9_2 : Addr
  a_REQUESTS_k9_2_1 : Addr
  a_REQUESTS_k9_3 : Addr
  a_REQUESTS_k9_3_1 : Addr
  a_REQUESTS_k9_4 : Addr
  a_REQUESTS_k9_4_1 : Addr
  a_REQUESTS_k9_5 : Addr
  a_REQUESTS_k9_5_1 : Addr
  a_REQUESTS_k10 : Addr
  a_REQUESTS_k10_0 : Addr
  a_REQUESTS_k10_0_1 : Addr
  a_REQUESTS_k11 : Addr
  a_REQUESTS_k11_0 : Addr
  a_REQUESTS_k11_0_1 : Addr
  a_REQUESTS_k11_1 : Addr
  a_REQUESTS_k11_1_1 : Addr
  a_REQUESTS_k12 : Addr
  a_REQUESTS_k12_0 : Addr
  a_REQUESTS_k12_0_1 : Addr
  a_REQUESTS_k12_1 : Addr
  a_REQUESTS_k12_1_1 : Addr
  a_REQUESTS_k12_2 : Addr
  a_REQUESTS_k12_2_1 : Addr
  a_REQUESTS_k12_3 : Addr
  a_REQUESTS_k12_3_1 : Addr
  a_REQUESTS_k12_4 : Addr
  a_REQUESTS_k12_4_1 : Addr
  a_REQUESTS_k12_5 : Addr
  a_REQUESTS_k12_5_1 : Addr
  a_REQUESTS_k12_6 : Addr
  a_REQUESTS_k12_6_1 : Addr
  a_REQUESTS_k12_7 : Addr
  a_REQUESTS_k12_7_1 : Addr
  a_REQUESTS_k12_8 : Addr
  a_REQUESTS_k12_8_1 : Addr
  a_REQUESTS_k12_9 : Addr
  a_REQUESTS_k12_9_1 : Addr
  a_REQUESTS_k12_10 : Addr
  a_REQUESTS_k12_10_1 : Addr
  a_REQUESTS_k12_11 : Addr
  a_REQUESTS_k12_11_1 : Addr
  a_REQUESTS_k13 : Addr
  a_REQUESTS_k13_0 : Addr
  a_REQUESTS_k13_0_1 : Addr
  a_REQUESTS_k13_1 : Addr
  a_REQUESTS_k13_1_1 : Addr
  a_REQUESTS_k14 : Addr
  a_REQUESTS_k14_0 : Addr
  a_REQUESTS_k14_0_1 : Addr
  a_REQUESTS_k14_1 : Addr
  a_REQUESTS_k14_1_1 : Addr
  a_REQUESTS_k15 : Addr
  a_REQUESTS_k15_0 : Addr
  a_REQUESTS_k15_0_1 : Addr
  a_REQUESTS_k15_1 : Addr
  a_REQUESTS_k15_1_1 : Addr
  a_REQUESTS_k16 : Addr
  a_REQUESTS_k16_0 : Addr
  a_REQUESTS_k16_0_1 : Addr
  a_REQUESTS_k17 : Addr
  a_REQUESTS_k17_0 : Addr
  a_REQUESTS_k17_0_1 : Addr
  a_REQUESTS_k17_1 : Addr
  a_REQUESTS_k17_1_1 : Addr
  a_REQUESTS_k17_2 : Addr
  a_REQUESTS_k17_2_1 : Addr
  a_REQUESTS_k17_3 : Addr
  a_REQUESTS_k17_3_1 : Addr
  a_REQUESTS_k17_4 : Addr
  a_REQUESTS_k17_4_1 : Addr
  a_REQUESTS_k17_5 : Addr
  a_REQUESTS_k17_5_1 : Addr
  a_REQUESTS_k17_6 : Addr
  a_REQUESTS_k17_6_1 : Addr
  a_REQUESTS_k17_7 : Addr
  a_REQUESTS_k17_7_1 : Addr
  a_REQUESTS_k17_8 : Addr
  a_REQUESTS_k17_8_1 : Addr
  a_REQUESTS_k18 : Addr
  a_REQUESTS_k18_0 : Addr
  a_REQUESTS_k18_0_1 : Addr
  a_REQUESTS_k18_1 : Addr
  a_REQUESTS_k18_1_1 : Addr
  a_REQUESTS_k19 : Addr
  a_REQUESTS_k19_0 : Addr
  a_REQUESTS_k19_0_1 : Addr
  a_REQUESTS_k19_1 : Addr
  a_REQUESTS_k19_1_1 : Addr
  a_REQUESTS_k20 : Addr
  a_REQUESTS_k20_0 : Addr
  a_REQUESTS_k20_0_1 : Addr
  a_REQUESTS_k20_1 : Addr
  a_REQUESTS_k20_1_1 : Addr
  a_REQUESTS_k21 : Addr
  a_REQUESTS_k21_0 : Addr
  a_REQUESTS_k21_0_1 : Addr
  a_REQUESTS_k21_1 : Addr
  a_REQUESTS_k21_1_1 : Addr
  a_REQUESTS_k22 : Addr
  a_REQUESTS_k22_0 : Addr
  a_REQUESTS_k22_0_1 : Addr
  CObjects : Addr
  CRequest : Addr
  CBadMessage : Addr
  CMessageTooLong : Addr
  CBadLength : Addr
  CBadText : Addr
  CBadPadding : Addr
  CObjectMissing : Addr
  CFault : Addr
structure Txt0 (P : Program) (K : PySem.W.Frag) (mg : Str → Option Value) (A : Adr) : Prop where
  prg : Prg P
  Fis_integer : Fun K "is_integer" "is_integer" s_is_integer A.fis_integer A.dis_integer
  bis_integer : Binds K A.dis_integer ["value", "least", "greatest"] []
  gis_integer : mg "is_integer" = some (.ref A.fis_integer)
  kis_integer : PySem.W.keepIn K (.ref A.fis_integer) = true
  Fis_text : Fun K "is_text" "is_text" s_is_text A.fis_text A.dis_text
  bis_text : Binds K A.dis_text ["value"] []
  gis_text : mg "is_text" = some (.ref A.fis_text)
  kis_text : PySem.W.keepIn K (.ref A.fis_text) = true
  Fnumber_octets : Fun K "number_octets" "number_octets" s_number_octets A.fnumber_octets A.dnumber_octets
  bnumber_octets : Binds K A.dnumber_octets ["number", "count"] []
  gnumber_octets : mg "number_octets" = some (.ref A.fnumber_octets)
  knumber_octets : PySem.W.keepIn K (.ref A.fnumber_octets) = true
  Fnumber_at : Fun K "number_at" "number_at" s_number_at A.fnumber_at A.dnumber_at
  bnumber_at : Binds K A.dnumber_at ["octets", "at", "count"] []
  gnumber_at : mg "number_at" = some (.ref A.fnumber_at)
  knumber_at : PySem.W.keepIn K (.ref A.fnumber_at) = true
  Ffield_octets : Fun K "field_octets" "field_octets" s_field_octets A.ffield_octets A.dfield_octets
  bfield_octets : Binds K A.dfield_octets ["kind", "value"] []
  gfield_octets : mg "field_octets" = some (.ref A.ffield_octets)
  kfield_octets : PySem.W.keepIn K (.ref A.ffield_octets) = true
  Fread_arguments : Fun K "read_arguments" "read_arguments" s_read_arguments A.fread_arguments A.dread_arguments
  bread_arguments : Binds K A.dread_arguments ["kinds", "octets"] []
  gread_arguments : mg "read_arguments" = some (.ref A.fread_arguments)
  kread_arguments : PySem.W.keepIn K (.ref A.fread_arguments) = true
  F_is_code : Fun K "_is_code" "_is_code" s__is_code A.f_is_code A.d_is_code
  b_is_code : Binds K A.d_is_code ["code"] []
  g_is_code : mg "_is_code" = some (.ref A.f_is_code)
  k_is_code : PySem.W.keepIn K (.ref A.f_is_code) = true
  F_is_of : Fun K "_is_of" "_is_of" s__is_of A.f_is_of A.d_is_of
  b_is_of : Binds K A.d_is_of ["kind", "value"] []
  g_is_of : mg "_is_of" = some (.ref A.f_is_of)
  k_is_of : PySem.W.keepIn K (.ref A.f_is_of) = true
  F_are_octets : Fun K "_are_octets" "_are_octets" s__are_octets A.f_are_octets A.d_are_octets
  b_are_octets : Binds K A.d_are_octets ["value"] []
  g_are_octets : mg "_are_octets" = some (.ref A.f_are_octets)
  k_are_octets : PySem.W.keepIn K (.ref A.f_are_octets) = true
  F_is_bound : Fun K "_is_bound" "_is_bound" s__is_bound A.f_is_bound A.d_is_bound
  b_is_bound : Binds K A.d_is_bound ["value"] []
  g_is_bound : mg "_is_bound" = some (.ref A.f_is_bound)
  k_is_bound : PySem.W.keepIn K (.ref A.f_is_bound) = true
  F_text_octets : Fun K "_text_octets" "_text_octets" s__text_octets A.f_text_octets A.d_text_octets
  b_text_octets : Binds K A.d_text_octets ["text"] []
  g_text_octets : mg "_text_octets" = some (.ref A.f_text_octets)
  k_text_octets : PySem.W.keepIn K (.ref A.f_text_octets) = true
  F_padded : Fun K "_padded" "_padded" s__padded A.f_padded A.d_padded
  b_padded : Binds K A.d_padded ["octets"] []
  g_padded : mg "_padded" = some (.ref A.f_padded)
  k_padded : PySem.W.keepIn K (.ref A.f_padded) = true
  F_read : Fun K "_read" "_read" s__read A.f_read A.d_read
  b_read : Binds K A.d_read ["kind", "octets", "at"] []
  g_read : mg "_read" = some (.ref A.f_read)
  k_read : PySem.W.keepIn K (.ref A.f_read) = true
  F_read_number : Fun K "_read_number" "_read_number" s__read_number A.f_read_number A.d_read_number
  b_read_number : Binds K A.d_read_number ["octets", "at"] []
  g_read_number : mg "_read_number" = some (.ref A.f_read_number)
  k_read_number : PySem.W.keepIn K (.ref A.f_read_number) = true
  F_read_named : Fun K "_read_named" "_read_named" s__read_named A.f_read_named A.d_read_named
  b_read_named : Binds K A.d_read_named ["octets", "at"] []
  g_read_named : mg "_read_named" = some (.ref A.f_read_named)
  k_read_named : PySem.W.keepIn K (.ref A.f_read_named) = true
  F_read_text : Fun K "_read_text" "_read_text" s__read_text A.f_read_text A.d_read_text
  b_read_text : Binds K A.d_read_text ["octets", "at"] []
  g_read_text : mg "_read_text" = some (.ref A.f_read_text)
  k_read_text : PySem.W.keepIn K (.ref A.f_read_text) = true
  F_read_octets : Fun K "_read_octets" "_read_octets" s__read_octets A.f_read_octets A.d_read_octets
  b_read_octets : Binds K A.d_read_octets ["octets", "at"] []
  g_read_octets : mg "_read_octets" = some (.ref A.f_read_octets)
  k_read_octets : PySem.W.keepIn K (.ref A.f_read_octets) = true
  F_demand : Fun K "_demand" "_demand" s__demand A.f_demand A.d_demand
  b_demand : Binds K A.d_demand ["octets", "end"] []
  g_demand : mg "_demand" = some (.ref A.f_demand)
  k_demand : PySem.W.keepIn K (.ref A.f_demand) = true
  F_behind_padding : Fun K "_behind_padding" "_behind_padding" s__behind_padding A.f_behind_padding A.d_behind_padding
  b_behind_padding : Binds K A.d_behind_padding ["octets", "end"] []
  g_behind_padding : mg "_behind_padding" = some (.ref A.f_behind_padding)
  k_behind_padding : PySem.W.keepIn K (.ref A.f_behind_padding) = true
  Fencode_message : Fun K "encode_message" "encode_message" s_encode_message A.fencode_message A.dencode_message
  bencode_message : Binds K A.dencode_message ["number", "opcode", "arguments"] []
  gencode_message : mg "encode_message" = some (.ref A.fencode_message)
  kencode_message : PySem.W.keepIn K (.ref A.fencode_message) = true
  Frequest_row : Fun K "request_row" "request_row" s_request_row A.frequest_row A.drequest_row
  brequest_row : Binds K A.drequest_row ["interface", "opcode"] []
  grequest_row : mg "request_row" = some (.ref A.frequest_row)
  krequest_row : PySem.W.keepIn K (.ref A.frequest_row) = true
  Frequest_opcode : Fun K "request_opcode" "request_opcode" s_request_opcode A.frequest_opcode A.drequest_opcode
  brequest_opcode : Binds K A.drequest_opcode ["interface", "name"] []
  grequest_opcode : mg "request_opcode" = some (.ref A.frequest_opcode)
  krequest_opcode : PySem.W.keepIn K (.ref A.frequest_opcode) = true
  F_row_at : Fun K "_row_at" "_row_at" s__row_at A.f_row_at A.d_row_at
  b_row_at : Binds K A.d_row_at ["rows", "opcode"] []
  g_row_at : mg "_row_at" = some (.ref A.f_row_at)
  k_row_at : PySem.W.keepIn K (.ref A.f_row_at) = true
  F_opcode_of : Fun K "_opcode_of" "_opcode_of" s__opcode_of A.f_opcode_of A.d_opcode_of
  b_opcode_of : Binds K A.d_opcode_of ["rows", "name"] []
  g_opcode_of : mg "_opcode_of" = some (.ref A.f_opcode_of)
  k_opcode_of : PySem.W.keepIn K (.ref A.f_opcode_of) = true
  Flook_at : Fun K "look_at" "look_at" s_look_at A.flook_at A.dlook_at
  blook_at : Binds K A.dlook_at ["objects", "message"] []
  glook_at : mg "look_at" = some (.ref A.flook_at)
  klook_at : PySem.W.keepIn K (.ref A.flook_at) = true
  Fnew_object : Fun K "new_object" "new_object" s_new_object A.fnew_object A.dnew_object
  bnew_object : Binds K A.dnew_object ["request"] []
  gnew_object : mg "new_object" = some (.ref A.fnew_object)
  knew_object : PySem.W.keepIn K (.ref A.fnew_object) = true
  F_kind_and_interface : Fun K "_kind_and_interface" "_kind_and_interface" s__kind_and_interface A.f_kind_and_interface A.d_kind_and_interface
  b_kind_and_interface : Binds K A.d_kind_and_interface ["part"] []
  g_kind_and_interface : mg "_kind_and_interface" = some (.ref A.f_kind_and_interface)
  k_kind_and_interface : PySem.W.keepIn K (.ref A.f_kind_and_interface) = true
  F_arguments : Fun K "_arguments" "_arguments" s__arguments A.f_arguments A.d_arguments
  b_arguments : Binds K A.d_arguments ["number", "parts", "body"] []
  g_arguments : mg "_arguments" = some (.ref A.f_arguments)
  k_arguments : PySem.W.keepIn K (.ref A.f_arguments) = true
  F_check_named : Fun K "_check_named" "_check_named" s__check_named A.f_check_named A.d_check_named
  b_check_named : Binds K A.d_check_named ["objects", "request", "parts"] []
  g_check_named : mg "_check_named" = some (.ref A.f_check_named)
  k_check_named : PySem.W.keepIn K (.ref A.f_check_named) = true
  F_check_new : Fun K "_check_new" "_check_new" s__check_new A.f_check_new A.d_check_new
  b_check_new : Binds K A.d_check_new ["objects", "request"] []
  g_check_new : mg "_check_new" = some (.ref A.f_check_new)
  k_check_new : PySem.W.keepIn K (.ref A.f_check_new) = true
  F_law_cell : Fun K "_law_cell" "_law_cell" s__law_cell A.f_law_cell A.d_law_cell
  b_law_cell : Binds K A.d_law_cell ["script", "k"] []
  g_law_cell : mg "_law_cell" = some (.ref A.f_law_cell)
  k_law_cell : PySem.W.keepIn K (.ref A.f_law_cell) = true
  F_law_row : Fun K "_law_row" "_law_row" s__law_row A.f_law_row A.d_law_row
  b_law_row : Binds K A.d_law_row ["script", "k"] []
  g_law_row : mg "_law_row" = some (.ref A.f_law_row)
  k_law_row : PySem.W.keepIn K (.ref A.f_law_row) = true
  F_law_rows : Fun K "_law_rows" "_law_rows" s__law_rows A.f_law_rows A.d_law_rows
  b_law_rows : Binds K A.d_law_rows [] []
  g_law_rows : mg "_law_rows" = some (.ref A.f_law_rows)
  k_law_rows : PySem.W.keepIn K (.ref A.f_law_rows) = true
  F_law_list : Fun K "_law_list" "_law_list" s__law_list A.f_law_list A.d_law_list
  b_law_list : Binds K A.d_law_list ["text"] []
  g_law_list : mg "_law_list" = some (.ref A.f_law_list)
  k_law_list : PySem.W.keepIn K (.ref A.f_law_list) = true
  F_law_split : Fun K "_law_split" "_law_split" s__law_split A.f_law_split A.d_law_split
  b_law_split : Binds K A.d_law_split ["text"] []
  g_law_split : mg "_law_split" = some (.ref A.f_law_split)
  k_law_split : PySem.W.keepIn K (.ref A.f_law_split) = true
  F_law_table : Fun K "_law_table" "_law_table" s__law_table A.f_law_table A.d_law_table
  b_law_table : Binds K A.d_law_table [] []
  g_law_table : mg "_law_table" = some (.ref A.f_law_table)
  k_law_table : PySem.W.keepIn K (.ref A.f_law_table) = true
  F_law_world : Fun K "_law_world" "_law_world" s__law_world A.f_law_world A.d_law_world
  b_law_world : Binds K A.d_law_world ["script", "shift"] []
  g_law_world : mg "_law_world" = some (.ref A.f_law_world)
  k_law_world : PySem.W.keepIn K (.ref A.f_law_world) = true
  F_law_pick : Fun K "_law_pick" "_law_pick" s__law_pick A.f_law_pick A.d_law_pick
  b_law_pick : Binds K A.d_law_pick ["objects", "wanted", "row"] []
  g_law_pick : mg "_law_pick" = some (.ref A.f_law_pick)
  k_law_pick : PySem.W.keepIn K (.ref A.f_law_pick) = true
  F_law_free : Fun K "_law_free" "_law_free" s__law_free A.f_law_free A.d_law_free
  b_law_free : Binds K A.d_law_free ["objects", "row"] []
  g_law_free : mg "_law_free" = some (.ref A.f_law_free)
  k_law_free : PySem.W.keepIn K (.ref A.f_law_free) = true
  F_law_argument : Fun K "_law_argument" "_law_argument" s__law_argument A.f_law_argument A.d_law_argument
  b_law_argument : Binds K A.d_law_argument ["objects", "argument", "row"] []
  g_law_argument : mg "_law_argument" = some (.ref A.f_law_argument)
  k_law_argument : PySem.W.keepIn K (.ref A.f_law_argument) = true
  F_law_bad : Fun K "_law_bad" "_law_bad" s__law_bad A.f_law_bad A.d_law_bad
  b_law_bad : Binds K A.d_law_bad ["objects", "argument", "value", "row"] []
  g_law_bad : mg "_law_bad" = some (.ref A.f_law_bad)
  k_law_bad : PySem.W.keepIn K (.ref A.f_law_bad) = true
  F_law_due : Fun K "_law_due" "_law_due" s__law_due A.f_law_due A.d_law_due
  b_law_due : Binds K A.d_law_due ["objects", "number", "arguments", "values"] []
  g_law_due : mg "_law_due" = some (.ref A.f_law_due)
  k_law_due : PySem.W.keepIn K (.ref A.f_law_due) = true
  F_law_told : Fun K "_law_told" "_law_told" s__law_told A.f_law_told A.d_law_told
  b_law_told : Binds K A.d_law_told ["objects", "message"] []
  g_law_told : mg "_law_told" = some (.ref A.f_law_told)
  k_law_told : PySem.W.keepIn K (.ref A.f_law_told) = true
  F_law_asked : Fun K "_law_asked" "_law_asked" s__law_asked A.f_law_asked A.d_law_asked
  b_law_asked : Binds K A.d_law_asked ["objects", "row", "script", "k"] []
  g_law_asked : mg "_law_asked" = some (.ref A.f_law_asked)
  k_law_asked : PySem.W.keepIn K (.ref A.f_law_asked) = true
  Flaw : Fun K "law" "law" s_law A.flaw A.dlaw
  blaw : Binds K A.dlaw ["script"] []
  glaw : mg "law" = some (.ref A.flaw)
  klaw : PySem.W.keepIn K (.ref A.flaw) = true
  FFault___init__ : FunSup K "__init__" "Fault.__init__" s_Fault___init__ A.fFault___init__ A.dFault___init__ A.CFault
  bFault___init__ : Binds K A.dFault___init__ ["self", "number", "code", "words"] []
  MFault : PySem.W.findIn K (.ref A.CFault) "__init__" = some (some (.ref A.fFault___init__))
  TFault : PySem.W.typeIn K (.ref A.fFault___init__) = some (.type "function")
  FObjects___init__ : Fun K "__init__" "Objects.__init__" s_Objects___init__ A.fObjects___init__ A.dObjects___init__
  bObjects___init__ : Binds K A.dObjects___init__ ["self"] []
  MObjects : Mk K A.CObjects A.fObjects___init__
  FObjects_interface_of : Fun K "interface_of" "Objects.interface_of" s_Objects_interface_of A.fObjects_interface_of A.dObjects_interface_of
  bObjects_interface_of : Binds K A.dObjects_interface_of ["self", "number"] []
  mObjects_interface_of : Meth K A.CObjects "interface_of" A.fObjects_interface_of
  FObjects_numbers : Fun K "numbers" "Objects.numbers" s_Objects_numbers A.fObjects_numbers A.dObjects_numbers
  bObjects_numbers : Binds K A.dObjects_numbers ["self"] []
  mObjects_numbers : Meth K A.CObjects "numbers" A.fObjects_numbers
  FObjects_may_give : Fun K "may_give" "Objects.may_give" s_Objects_may_give A.fObjects_may_give A.dObjects_may_give
  bObjects_may_give : Binds K A.dObjects_may_give ["self", "number"] []
  mObjects_may_give : Meth K A.CObjects "may_give" A.fObjects_may_give
  FObjects_is_full : Fun K "is_full" "Objects.is_full" s_Objects_is_full A.fObjects_is_full A.dObjects_is_full
  bObjects_is_full : Binds K A.dObjects_is_full ["self"] []
  mObjects_is_full : Meth K A.CObjects "is_full" A.fObjects_is_full
  FObjects_give : Fun K "give" "Objects.give" s_Objects_give A.fObjects_give A.dObjects_give
  bObjects_give : Binds K A.dObjects_give ["self", "number", "interface"] []
  mObjects_give : Meth K A.CObjects "give" A.fObjects_give
  FObjects_make : Fun K "make" "Objects.make" s_Objects_make A.fObjects_make A.dObjects_make
  bObjects_make : Binds K A.dObjects_make ["self", "interface"] []
  mObjects_make : Meth K A.CObjects "make" A.fObjects_make
  FRequest___init__ : Fun K "__init__" "Request.__init__" s_Request___init__ A.fRequest___init__ A.dRequest___init__
  bRequest___init__ : Binds K A.dRequest___init__ ["self", "number", "interface", "name", "arguments", "ends"] []
  MRequest : Mk K A.CRequest A.fRequest___init__
  all : mg "all" = none
  any : mg "any" = none
  bool : mg "bool" = none
  int : mg "int" = none
  isinstance : mg "isinstance" = none
  len : mg "len" = none
  list : mg "list" = none
  min : mg "min" = none
  ord : mg "ord" = none
  range : mg "range" = none
  str : mg "str" = none
  sum : mg "sum" = none
  super : mg "super" = none
  tuple : mg "tuple" = none
  zip : mg "zip" = none
  gDISPLAY : mg "DISPLAY" = some (.int (1) A.tDISPLAY)
  gLEAST_GIVEN : mg "LEAST_GIVEN" = some (.int (2) A.tLEAST_GIVEN)
  gGREATEST_GIVEN : mg "GREATEST_GIVEN" = some (.int (4278190079) A.tGREATEST_GIVEN)
  gMOST_OBJECTS : mg "MOST_OBJECTS" = some (.int (512) A.tMOST_OBJECTS)
  gGREATEST_NUMBER : mg "GREATEST_NUMBER" = some (.int (4294967295) A.tGREATEST_NUMBER)
  gLEAST_INT : mg "LEAST_INT" = some (.int (-2147483648) A.tLEAST_INT)
  gGREATEST_INT : mg "GREATEST_INT" = some (.int (2147483647) A.tGREATEST_INT)
  gLONGEST_TEXT : mg "LONGEST_TEXT" = some (.int (1000) A.tLONGEST_TEXT)
  gMOST_OCTETS : mg "MOST_OCTETS" = some (.int (16384) A.tMOST_OCTETS)
  g_FIRST_CODE : mg "_FIRST_CODE" = some (.int (32) A.t_FIRST_CODE)
  g_LAST_CODE : mg "_LAST_CODE" = some (.int (126) A.t_LAST_CODE)
  g_PERCENT_CODE : mg "_PERCENT_CODE" = some (.int (37) A.t_PERCENT_CODE)
  g_CHARACTERS : mg "_CHARACTERS" = some (.str " !\"#$ &'()*+,-./0123456789:;<=>?@ABCDEFGHIJKLMNOPQRSTUVWXYZ[\\]^_`abcdefghijklmnopqrstuvwxyz{|}~" A.t_CHARACTERS)
  gHEADER_SIZE : mg "HEADER_SIZE" = some (.int (8) A.tHEADER_SIZE)
  gGREATEST_SIZE : mg "GREATEST_SIZE" = some (.int (20480) A.tGREATEST_SIZE)
  gGREATEST_OPCODE : mg "GREATEST_OPCODE" = some (.int (65535) A.tGREATEST_OPCODE)
  gMOST_ARGUMENTS : mg "MOST_ARGUMENTS" = some (.int (20) A.tMOST_ARGUMENTS)
  g_REQUESTS : mg "_REQUESTS" = some (.ref A.a_REQUESTS)
  w_REQUESTS_k0 : ∀ H : Hp, SqT K H A.a_REQUESTS_k0 [.ref A.a_REQUESTS_k0_0, .ref A.a_REQUESTS_k0_1]
  w_REQUESTS_k0_0 : ∀ H : Hp, SqT K H A.a_REQUESTS_k0_0 [.str "sync", .ref A.a_REQUESTS_k0_0_1, .bl false]
  w_REQUESTS_k0_0_1 : ∀ H : Hp, SqT K H A.a_REQUESTS_k0_0_1 [.str "new callback"]
  w_REQUESTS_k0_1 : ∀ H : Hp, SqT K H A.a_REQUESTS_k0_1 [.str "registry", .ref A.a_REQUESTS_k0_1_1, .bl false]
  w_REQUESTS_k0_1_1 : ∀ H : Hp, SqT K H A.a_REQUESTS_k0_1_1 [.str "new registry"]
  w_REQUESTS_k1 : ∀ H : Hp, SqT K H A.a_REQUESTS_k1 []
  w_REQUESTS_k2 : ∀ H : Hp, SqT K H A.a_REQUESTS_k2 [.ref A.a_REQUESTS_k2_0]
  w_REQUESTS_k2_0 : ∀ H : Hp, SqT K H A.a_REQUESTS_k2_0 [.str "bind", .ref A.a_REQUESTS_k2_0_1, .bl false]
  w_REQUESTS_k2_0_1 : ∀ H : Hp, SqT K H A.a_REQUESTS_k2_0_1 [.str "uint", .str "bound"]
  w_REQUESTS_k3 : ∀ H : Hp, SqT K H A.a_REQUESTS_k3 [.ref A.a_REQUESTS_k3_0, .ref A.a_REQUESTS_k3_1]
  w_REQUESTS_k3_0 : ∀ H : Hp, SqT K H A.a_REQUESTS_k3_0 [.str "buffer", .ref A.a_REQUESTS_k3_0_1, .bl false]
  w_REQUESTS_k3_0_1 : ∀ H : Hp, SqT K H A.a_REQUESTS_k3_0_1 [.str "new buffer", .str "uint", .str "uint"]
  w_REQUESTS_k3_1 : ∀ H : Hp, SqT K H A.a_REQUESTS_k3_1 [.str "destroy", .ref A.a_REQUESTS_k3_1_1, .bl true]
  w_REQUESTS_k3_1_1 : ∀ H : Hp, SqT K H A.a_REQUESTS_k3_1_1 []
  w_REQUESTS_k4 : ∀ H : Hp, SqT K H A.a_REQUESTS_k4 [.ref A.a_REQUESTS_k4_0, .ref A.a_REQUESTS_k4_1, .ref A.a_REQUESTS_k4_2]
  w_REQUESTS_k4_0 : ∀ H : Hp, SqT K H A.a_REQUESTS_k4_0 [.str "write", .ref A.a_REQUESTS_k4_0_1, .bl false]
  w_REQUESTS_k4_0_1 : ∀ H : Hp, SqT K H A.a_REQUESTS_k4_0_1 [.str "uint", .str "octets"]
  w_REQUESTS_k4_1 : ∀ H : Hp, SqT K H A.a_REQUESTS_k4_1 [.str "fill", .ref A.a_REQUESTS_k4_1_1, .bl false]
  w_REQUESTS_k4_1_1 : ∀ H : Hp, SqT K H A.a_REQUESTS_k4_1_1 [.str "int", .str "int", .str "uint", .str "uint", .str "uint"]
  w_REQUESTS_k4_2 : ∀ H : Hp, SqT K H A.a_REQUESTS_k4_2 [.str "destroy", .ref A.a_REQUESTS_k4_2_1, .bl true]
  w_REQUESTS_k4_2_1 : ∀ H : Hp, SqT K H A.a_REQUESTS_k4_2_1 []
  w_REQUESTS_k5 : ∀ H : Hp, SqT K H A.a_REQUESTS_k5 [.ref A.a_REQUESTS_k5_0, .ref A.a_REQUESTS_k5_1, .ref A.a_REQUESTS_k5_2]
  w_REQUESTS_k5_0 : ∀ H : Hp, SqT K H A.a_REQUESTS_k5_0 [.str "surface", .ref A.a_REQUESTS_k5_0_1, .bl false]
  w_REQUESTS_k5_0_1 : ∀ H : Hp, SqT K H A.a_REQUESTS_k5_0_1 [.str "new surface"]
  w_REQUESTS_k5_1 : ∀ H : Hp, SqT K H A.a_REQUESTS_k5_1 [.str "region", .ref A.a_REQUESTS_k5_1_1, .bl false]
  w_REQUESTS_k5_1_1 : ∀ H : Hp, SqT K H A.a_REQUESTS_k5_1_1 [.str "new region"]
  w_REQUESTS_k5_2 : ∀ H : Hp, SqT K H A.a_REQUESTS_k5_2 [.str "destroy", .ref A.a_REQUESTS_k5_2_1, .bl true]
  w_REQUESTS_k5_2_1 : ∀ H : Hp, SqT K H A.a_REQUESTS_k5_2_1 []
  w_REQUESTS_k6 : ∀ H : Hp, SqT K H A.a_REQUESTS_k6 [.ref A.a_REQUESTS_k6_0, .ref A.a_REQUESTS_k6_1, .ref A.a_REQUESTS_k6_2]
  w_REQUESTS_k6_0 : ∀ H : Hp, SqT K H A.a_REQUESTS_k6_0 [.str "add", .ref A.a_REQUESTS_k6_0_1, .bl false]
  w_REQUESTS_k6_0_1 : ∀ H : Hp, SqT K H A.a_REQUESTS_k6_0_1 [.str "int", .str "int", .str "uint", .str "uint"]
  w_REQUESTS_k6_1 : ∀ H : Hp, SqT K H A.a_REQUESTS_k6_1 [.str "subtract", .ref A.a_REQUESTS_k6_1_1, .bl false]
  w_REQUESTS_k6_1_1 : ∀ H : Hp, SqT K H A.a_REQUESTS_k6_1_1 [.str "int", .str "int", .str "uint", .str "uint"]
  w_REQUESTS_k6_2 : ∀ H : Hp, SqT K H A.a_REQUESTS_k6_2 [.str "destroy", .ref A.a_REQUESTS_k6_2_1, .bl true]
  w_REQUESTS_k6_2_1 : ∀ H : Hp, SqT K H A.a_REQUESTS_k6_2_1 []
  w_REQUESTS_k7 : ∀ H : Hp, SqT K H A.a_REQUESTS_k7 [.ref A.a_REQUESTS_k7_0, .ref A.a_REQUESTS_k7_1, .ref A.a_REQUESTS_k7_2, .ref A.a_REQUESTS_k7_3, .ref A.a_REQUESTS_k7_4, .ref A.a_REQUESTS_k7_5, .ref A.a_REQUESTS_k7_6]
  w_REQUESTS_k7_0 : ∀ H : Hp, SqT K H A.a_REQUESTS_k7_0 [.str "attach", .ref A.a_REQUESTS_k7_0_1, .bl false]
  w_REQUESTS_k7_0_1 : ∀ H : Hp, SqT K H A.a_REQUESTS_k7_0_1 [.str "maybe buffer"]
  w_REQUESTS_k7_1 : ∀ H : Hp, SqT K H A.a_REQUESTS_k7_1 [.str "frame", .ref A.a_REQUESTS_k7_1_1, .bl false]
  w_REQUESTS_k7_1_1 : ∀ H : Hp, SqT K H A.a_REQUESTS_k7_1_1 [.str "new callback"]
  w_REQUESTS_k7_2 : ∀ H : Hp, SqT K H A.a_REQUESTS_k7_2 [.str "hears", .ref A.a_REQUESTS_k7_2_1, .bl false]
  w_REQUESTS_k7_2_1 : ∀ H : Hp, SqT K H A.a_REQUESTS_k7_2_1 [.str "maybe region"]
  w_REQUESTS_k7_3 : ∀ H : Hp, SqT K H A.a_REQUESTS_k7_3 [.str "commit", .ref A.a_REQUESTS_k7_3_1, .bl false]
  w_REQUESTS_k7_3_1 : ∀ H : Hp, SqT K H A.a_REQUESTS_k7_3_1 []
  w_REQUESTS_k7_4 : ∀ H : Hp, SqT K H A.a_REQUESTS_k7_4 [.str "turn", .ref A.a_REQUESTS_k7_4_1, .bl false]
  w_REQUESTS_k7_4_1 : ∀ H : Hp, SqT K H A.a_REQUESTS_k7_4_1 [.str "uint"]
  w_REQUESTS_k7_5 : ∀ H : Hp, SqT K H A.a_REQUESTS_k7_5 [.str "scale", .ref A.a_REQUESTS_k7_5_1, .bl false]
  w_REQUESTS_k7_5_1 : ∀ H : Hp, SqT K H A.a_REQUESTS_k7_5_1 [.str "uint"]
  w_REQUESTS_k7_6 : ∀ H : Hp, SqT K H A.a_REQUESTS_k7_6 [.str "destroy", .ref A.a_REQUESTS_k7_6_1, .bl true]
  w_REQUESTS_k7_6_1 : ∀ H : Hp, SqT K H A.a_REQUESTS_k7_6_1 []
  w_REQUESTS_k8 : ∀ H : Hp, SqT K H A.a_REQUESTS_k8 [.ref A.a_REQUESTS_k8_0, .ref A.a_REQUESTS_k8_1]
  w_REQUESTS_k8_0 : ∀ H : Hp, SqT K H A.a_REQUESTS_k8_0 [.str "join", .ref A.a_REQUESTS_k8_0_1, .bl false]
  w_REQUESTS_k8_0_1 : ∀ H : Hp, SqT K H A.a_REQUESTS_k8_0_1 [.str "new sub", .str "object surface", .str "object surface"]
  w_REQUESTS_k8_1 : ∀ H : Hp, SqT K H A.a_REQUESTS_k8_1 [.str "destroy", .ref A.a_REQUESTS_k8_1_1, .bl true]
  w_REQUESTS_k8_1_1 : ∀ H : Hp, SqT K H A.a_REQUESTS_k8_1_1 []
  w_REQUESTS_k9 : ∀ H : Hp, SqT K H A.a_REQUESTS_k9 [.ref A.a_REQUESTS_k9_0, .ref A.a_REQUESTS_k9_1, .ref A.a_REQUESTS_k9_2, .ref A.a_REQUESTS_k9_3, .ref A.a_REQUESTS_k9_4, .ref A.a_REQUESTS_k9_5]
  w_REQUESTS_k9_0 : ∀ H : Hp, SqT K H A.a_REQUESTS_k9_0 [.str "place", .ref A.a_REQUESTS_k9_0_1, .bl false]
  w_REQUESTS_k9_0_1 : ∀ H : Hp, SqT K H A.a_REQUESTS_k9_0_1 [.str "int", .str "int"]
  w_REQUESTS_k9_1 : ∀ H : Hp, SqT K H A.a_REQUESTS_k9_1 [.str "above", .ref A.a_REQUESTS_k9_1_1, .bl false]
  w_REQUESTS_k9_1_1 : ∀ H : Hp, SqT K H A.a_REQUESTS_k9_1_1 [.str "object surface"]
  w_REQUESTS_k9_2 : ∀ H : Hp, SqT K H A.a_REQUESTS_k9_2 [.str "below", .ref A.a_REQUESTS_k9_2_1, .bl false]
  w_REQUESTS_k9_2_1 : ∀ H : Hp, SqT K H A.a_REQUESTS_k9_2_1 [.str "object surface"]
  w_REQUESTS_k9_3 : ∀ H : Hp, SqT K H A.a_REQUESTS_k9_3 [.str "sync", .ref A.a_REQUESTS_k9_3_1, .bl false]
  w_REQUESTS_k9_3_1 : ∀ H : Hp, SqT K H A.a_REQUESTS_k9_3_1 []
  w_REQUESTS_k9_4 : ∀ H : Hp, SqT K H A.a_REQUESTS_k9_4 [.str "desync", .ref A.a_REQUESTS_k9_4_1, .bl false]
  w_REQUESTS_k9_4_1 : ∀ H : Hp, SqT K H A.a_REQUESTS_k9_4_1 []
  w_REQUESTS_k9_5 : ∀ H : Hp, SqT K H A.a_REQUESTS_k9_5 [.str "destroy", .ref A.a_REQUESTS_k9_5_1, .bl true]
  w_REQUESTS_k9_5_1 : ∀ H : Hp, SqT K H A.a_REQUESTS_k9_5_1 []
  w_REQUESTS_k10 : ∀ H : Hp, SqT K H A.a_REQUESTS_k10 [.ref A.a_REQUESTS_k10_0]
  w_REQUESTS_k10_0 : ∀ H : Hp, SqT K H A.a_REQUESTS_k10_0 [.str "destroy", .ref A.a_REQUESTS_k10_0_1, .bl true]
  w_REQUESTS_k10_0_1 : ∀ H : Hp, SqT K H A.a_REQUESTS_k10_0_1 []
  w_REQUESTS_k11 : ∀ H : Hp, SqT K H A.a_REQUESTS_k11 [.ref A.a_REQUESTS_k11_0, .ref A.a_REQUESTS_k11_1]
  w_REQUESTS_k11_0 : ∀ H : Hp, SqT K H A.a_REQUESTS_k11_0 [.str "window", .ref A.a_REQUESTS_k11_0_1, .bl false]
  w_REQUESTS_k11_0_1 : ∀ H : Hp, SqT K H A.a_REQUESTS_k11_0_1 [.str "new window", .str "object surface"]
  w_REQUESTS_k11_1 : ∀ H : Hp, SqT K H A.a_REQUESTS_k11_1 [.str "popup", .ref A.a_REQUESTS_k11_1_1, .bl false]
  w_REQUESTS_k11_1_1 : ∀ H : Hp, SqT K H A.a_REQUESTS_k11_1_1 [.str "new popup", .str "object surface", .str "object window|popup", .str "int", .str "int", .str "int", .str "int", .str "int", .str "int", .str "int", .str "int", .str "uint", .str "uint", .str "int", .str "int", .str "uint", .str "uint"]
  w_REQUESTS_k12 : ∀ H : Hp, SqT K H A.a_REQUESTS_k12 [.ref A.a_REQUESTS_k12_0, .ref A.a_REQUESTS_k12_1, .ref A.a_REQUESTS_k12_2, .ref A.a_REQUESTS_k12_3, .ref A.a_REQUESTS_k12_4, .ref A.a_REQUESTS_k12_5, .ref A.a_REQUESTS_k12_6, .ref A.a_REQUESTS_k12_7, .ref A.a_REQUESTS_k12_8, .ref A.a_REQUESTS_k12_9, .ref A.a_REQUESTS_k12_10, .ref A.a_REQUESTS_k12_11]
  w_REQUESTS_k12_0 : ∀ H : Hp, SqT K H A.a_REQUESTS_k12_0 [.str "destroy", .ref A.a_REQUESTS_k12_0_1, .bl true]
  w_REQUESTS_k12_0_1 : ∀ H : Hp, SqT K H A.a_REQUESTS_k12_0_1 []
  w_REQUESTS_k12_1 : ∀ H : Hp, SqT K H A.a_REQUESTS_k12_1 [.str "title", .ref A.a_REQUESTS_k12_1_1, .bl false]
  w_REQUESTS_k12_1_1 : ∀ H : Hp, SqT K H A.a_REQUESTS_k12_1_1 [.str "text"]
  w_REQUESTS_k12_2 : ∀ H : Hp, SqT K H A.a_REQUESTS_k12_2 [.str "name", .ref A.a_REQUESTS_k12_2_1, .bl false]
  w_REQUESTS_k12_2_1 : ∀ H : Hp, SqT K H A.a_REQUESTS_k12_2_1 [.str "text"]
  w_REQUESTS_k12_3 : ∀ H : Hp, SqT K H A.a_REQUESTS_k12_3 [.str "least", .ref A.a_REQUESTS_k12_3_1, .bl false]
  w_REQUESTS_k12_3_1 : ∀ H : Hp, SqT K H A.a_REQUESTS_k12_3_1 [.str "uint", .str "uint"]
  w_REQUESTS_k12_4 : ∀ H : Hp, SqT K H A.a_REQUESTS_k12_4 [.str "largest", .ref A.a_REQUESTS_k12_4_1, .bl false]
  w_REQUESTS_k12_4_1 : ∀ H : Hp, SqT K H A.a_REQUESTS_k12_4_1 [.str "uint", .str "uint"]
  w_REQUESTS_k12_5 : ∀ H : Hp, SqT K H A.a_REQUESTS_k12_5 [.str "ack", .ref A.a_REQUESTS_k12_5_1, .bl false]
  w_REQUESTS_k12_5_1 : ∀ H : Hp, SqT K H A.a_REQUESTS_k12_5_1 [.str "uint"]
  w_REQUESTS_k12_6 : ∀ H : Hp, SqT K H A.a_REQUESTS_k12_6 [.str "map_with", .ref A.a_REQUESTS_k12_6_1, .bl false]
  w_REQUESTS_k12_6_1 : ∀ H : Hp, SqT K H A.a_REQUESTS_k12_6_1 [.str "uint"]
  w_REQUESTS_k12_7 : ∀ H : Hp, SqT K H A.a_REQUESTS_k12_7 [.str "smaller", .ref A.a_REQUESTS_k12_7_1, .bl false]
  w_REQUESTS_k12_7_1 : ∀ H : Hp, SqT K H A.a_REQUESTS_k12_7_1 [.str "uint", .str "uint"]
  w_REQUESTS_k12_8 : ∀ H : Hp, SqT K H A.a_REQUESTS_k12_8 [.str "grow", .ref A.a_REQUESTS_k12_8_1, .bl false]
  w_REQUESTS_k12_8_1 : ∀ H : Hp, SqT K H A.a_REQUESTS_k12_8_1 [.str "uint", .str "uint", .str "uint"]
  w_REQUESTS_k12_9 : ∀ H : Hp, SqT K H A.a_REQUESTS_k12_9 [.str "raise", .ref A.a_REQUESTS_k12_9_1, .bl false]
  w_REQUESTS_k12_9_1 : ∀ H : Hp, SqT K H A.a_REQUESTS_k12_9_1 [.str "uint"]
  w_REQUESTS_k12_10 : ∀ H : Hp, SqT K H A.a_REQUESTS_k12_10 [.str "maximize", .ref A.a_REQUESTS_k12_10_1, .bl false]
  w_REQUESTS_k12_10_1 : ∀ H : Hp, SqT K H A.a_REQUESTS_k12_10_1 [.str "uint"]
  w_REQUESTS_k12_11 : ∀ H : Hp, SqT K H A.a_REQUESTS_k12_11 [.str "restore", .ref A.a_REQUESTS_k12_11_1, .bl false]
  w_REQUESTS_k12_11_1 : ∀ H : Hp, SqT K H A.a_REQUESTS_k12_11_1 []
  w_REQUESTS_k13 : ∀ H : Hp, SqT K H A.a_REQUESTS_k13 [.ref A.a_REQUESTS_k13_0, .ref A.a_REQUESTS_k13_1]
  w_REQUESTS_k13_0 : ∀ H : Hp, SqT K H A.a_REQUESTS_k13_0 [.str "destroy", .ref A.a_REQUESTS_k13_0_1, .bl true]
  w_REQUESTS_k13_0_1 : ∀ H : Hp, SqT K H A.a_REQUESTS_k13_0_1 []
  w_REQUESTS_k13_1 : ∀ H : Hp, SqT K H A.a_REQUESTS_k13_1 [.str "place", .ref A.a_REQUESTS_k13_1_1, .bl false]
  w_REQUESTS_k13_1_1 : ∀ H : Hp, SqT K H A.a_REQUESTS_k13_1_1 [.str "int", .str "int", .str "int", .str "int", .str "int", .str "int", .str "int", .str "int", .str "uint", .str "uint", .str "int", .str "int", .str "uint"]
  w_REQUESTS_k14 : ∀ H : Hp, SqT K H A.a_REQUESTS_k14 [.ref A.a_REQUESTS_k14_0, .ref A.a_REQUESTS_k14_1]
  w_REQUESTS_k14_0 : ∀ H : Hp, SqT K H A.a_REQUESTS_k14_0 [.str "pointer", .ref A.a_REQUESTS_k14_0_1, .bl false]
  w_REQUESTS_k14_0_1 : ∀ H : Hp, SqT K H A.a_REQUESTS_k14_0_1 [.str "new pointer"]
  w_REQUESTS_k14_1 : ∀ H : Hp, SqT K H A.a_REQUESTS_k14_1 [.str "keyboard", .ref A.a_REQUESTS_k14_1_1, .bl false]
  w_REQUESTS_k14_1_1 : ∀ H : Hp, SqT K H A.a_REQUESTS_k14_1_1 [.str "new keyboard"]
  w_REQUESTS_k15 : ∀ H : Hp, SqT K H A.a_REQUESTS_k15 [.ref A.a_REQUESTS_k15_0, .ref A.a_REQUESTS_k15_1]
  w_REQUESTS_k15_0 : ∀ H : Hp, SqT K H A.a_REQUESTS_k15_0 [.str "destroy", .ref A.a_REQUESTS_k15_0_1, .bl true]
  w_REQUESTS_k15_0_1 : ∀ H : Hp, SqT K H A.a_REQUESTS_k15_0_1 []
  w_REQUESTS_k15_1 : ∀ H : Hp, SqT K H A.a_REQUESTS_k15_1 [.str "cursor", .ref A.a_REQUESTS_k15_1_1, .bl false]
  w_REQUESTS_k15_1_1 : ∀ H : Hp, SqT K H A.a_REQUESTS_k15_1_1 [.str "uint"]
  w_REQUESTS_k16 : ∀ H : Hp, SqT K H A.a_REQUESTS_k16 [.ref A.a_REQUESTS_k16_0]
  w_REQUESTS_k16_0 : ∀ H : Hp, SqT K H A.a_REQUESTS_k16_0 [.str "destroy", .ref A.a_REQUESTS_k16_0_1, .bl true]
  w_REQUESTS_k16_0_1 : ∀ H : Hp, SqT K H A.a_REQUESTS_k16_0_1 []
  w_REQUESTS_k17 : ∀ H : Hp, SqT K H A.a_REQUESTS_k17 [.ref A.a_REQUESTS_k17_0, .ref A.a_REQUESTS_k17_1, .ref A.a_REQUESTS_k17_2, .ref A.a_REQUESTS_k17_3, .ref A.a_REQUESTS_k17_4, .ref A.a_REQUESTS_k17_5, .ref A.a_REQUESTS_k17_6, .ref A.a_REQUESTS_k17_7, .ref A.a_REQUESTS_k17_8]
  w_REQUESTS_k17_0 : ∀ H : Hp, SqT K H A.a_REQUESTS_k17_0 [.str "source", .ref A.a_REQUESTS_k17_0_1, .bl false]
  w_REQUESTS_k17_0_1 : ∀ H : Hp, SqT K H A.a_REQUESTS_k17_0_1 [.str "new source"]
  w_REQUESTS_k17_1 : ∀ H : Hp, SqT K H A.a_REQUESTS_k17_1 [.str "give", .ref A.a_REQUESTS_k17_1_1, .bl false]
  w_REQUESTS_k17_1_1 : ∀ H : Hp, SqT K H A.a_REQUESTS_k17_1_1 [.str "object source", .str "uint", .str "uint"]
  w_REQUESTS_k17_2 : ∀ H : Hp, SqT K H A.a_REQUESTS_k17_2 [.str "drag", .ref A.a_REQUESTS_k17_2_1, .bl false]
  w_REQUESTS_k17_2_1 : ∀ H : Hp, SqT K H A.a_REQUESTS_k17_2_1 [.str "object source", .str "uint"]
  w_REQUESTS_k17_3 : ∀ H : Hp, SqT K H A.a_REQUESTS_k17_3 [.str "send", .ref A.a_REQUESTS_k17_3_1, .bl false]
  w_REQUESTS_k17_3_1 : ∀ H : Hp, SqT K H A.a_REQUESTS_k17_3_1 [.str "text", .str "octets"]
  w_REQUESTS_k17_4 : ∀ H : Hp, SqT K H A.a_REQUESTS_k17_4 [.str "unsend", .ref A.a_REQUESTS_k17_4_1, .bl false]
  w_REQUESTS_k17_4_1 : ∀ H : Hp, SqT K H A.a_REQUESTS_k17_4_1 [.str "text"]
  w_REQUESTS_k17_5 : ∀ H : Hp, SqT K H A.a_REQUESTS_k17_5 [.str "ask", .ref A.a_REQUESTS_k17_5_1, .bl false]
  w_REQUESTS_k17_5_1 : ∀ H : Hp, SqT K H A.a_REQUESTS_k17_5_1 [.str "new capture", .str "object output", .str "int", .str "int", .str "uint", .str "uint"]
  w_REQUESTS_k17_6 : ∀ H : Hp, SqT K H A.a_REQUESTS_k17_6 [.str "fetch", .ref A.a_REQUESTS_k17_6_1, .bl false]
  w_REQUESTS_k17_6_1 : ∀ H : Hp, SqT K H A.a_REQUESTS_k17_6_1 [.str "new fetch", .str "text"]
  w_REQUESTS_k17_7 : ∀ H : Hp, SqT K H A.a_REQUESTS_k17_7 [.str "watch", .ref A.a_REQUESTS_k17_7_1, .bl false]
  w_REQUESTS_k17_7_1 : ∀ H : Hp, SqT K H A.a_REQUESTS_k17_7_1 [.str "new watch", .str "text"]
  w_REQUESTS_k17_8 : ∀ H : Hp, SqT K H A.a_REQUESTS_k17_8 [.str "destroy", .ref A.a_REQUESTS_k17_8_1, .bl true]
  w_REQUESTS_k17_8_1 : ∀ H : Hp, SqT K H A.a_REQUESTS_k17_8_1 []
  w_REQUESTS_k18 : ∀ H : Hp, SqT K H A.a_REQUESTS_k18 [.ref A.a_REQUESTS_k18_0, .ref A.a_REQUESTS_k18_1]
  w_REQUESTS_k18_0 : ∀ H : Hp, SqT K H A.a_REQUESTS_k18_0 [.str "write", .ref A.a_REQUESTS_k18_0_1, .bl false]
  w_REQUESTS_k18_0_1 : ∀ H : Hp, SqT K H A.a_REQUESTS_k18_0_1 [.str "text", .str "octets"]
  w_REQUESTS_k18_1 : ∀ H : Hp, SqT K H A.a_REQUESTS_k18_1 [.str "destroy", .ref A.a_REQUESTS_k18_1_1, .bl true]
  w_REQUESTS_k18_1_1 : ∀ H : Hp, SqT K H A.a_REQUESTS_k18_1_1 []
  w_REQUESTS_k19 : ∀ H : Hp, SqT K H A.a_REQUESTS_k19 [.ref A.a_REQUESTS_k19_0, .ref A.a_REQUESTS_k19_1]
  w_REQUESTS_k19_0 : ∀ H : Hp, SqT K H A.a_REQUESTS_k19_0 [.str "read", .ref A.a_REQUESTS_k19_0_1, .bl false]
  w_REQUESTS_k19_0_1 : ∀ H : Hp, SqT K H A.a_REQUESTS_k19_0_1 [.str "text", .str "uint", .str "uint"]
  w_REQUESTS_k19_1 : ∀ H : Hp, SqT K H A.a_REQUESTS_k19_1 [.str "destroy", .ref A.a_REQUESTS_k19_1_1, .bl true]
  w_REQUESTS_k19_1_1 : ∀ H : Hp, SqT K H A.a_REQUESTS_k19_1_1 []
  w_REQUESTS_k20 : ∀ H : Hp, SqT K H A.a_REQUESTS_k20 [.ref A.a_REQUESTS_k20_0, .ref A.a_REQUESTS_k20_1]
  w_REQUESTS_k20_0 : ∀ H : Hp, SqT K H A.a_REQUESTS_k20_0 [.str "read", .ref A.a_REQUESTS_k20_0_1, .bl false]
  w_REQUESTS_k20_0_1 : ∀ H : Hp, SqT K H A.a_REQUESTS_k20_0_1 [.str "uint", .str "uint"]
  w_REQUESTS_k20_1 : ∀ H : Hp, SqT K H A.a_REQUESTS_k20_1 [.str "destroy", .ref A.a_REQUESTS_k20_1_1, .bl true]
  w_REQUESTS_k20_1_1 : ∀ H : Hp, SqT K H A.a_REQUESTS_k20_1_1 []
  w_REQUESTS_k21 : ∀ H : Hp, SqT K H A.a_REQUESTS_k21 [.ref A.a_REQUESTS_k21_0, .ref A.a_REQUESTS_k21_1]
  w_REQUESTS_k21_0 : ∀ H : Hp, SqT K H A.a_REQUESTS_k21_0 [.str "read", .ref A.a_REQUESTS_k21_0_1, .bl false]
  w_REQUESTS_k21_0_1 : ∀ H : Hp, SqT K H A.a_REQUESTS_k21_0_1 [.str "uint", .str "uint"]
  w_REQUESTS_k21_1 : ∀ H : Hp, SqT K H A.a_REQUESTS_k21_1 [.str "destroy", .ref A.a_REQUESTS_k21_1_1, .bl true]
  w_REQUESTS_k21_1_1 : ∀ H : Hp, SqT K H A.a_REQUESTS_k21_1_1 []
  w_REQUESTS_k22 : ∀ H : Hp, SqT K H A.a_REQUESTS_k22 [.ref A.a_REQUESTS_k22_0]
  w_REQUESTS_k22_0 : ∀ H : Hp, SqT K H A.a_REQUESTS_k22_0 [.str "destroy", .ref A.a_REQUESTS_k22_0_1, .bl true]
  w_REQUESTS_k22_0_1 : ∀ H : Hp, SqT K H A.a_REQUESTS_k22_0_1 []
  clObjects : Cls K A.CObjects
  gObjects : mg "Objects" = some (.ref A.CObjects)
  nObjects__interfaces : NoAttr K A.CObjects "_interfaces"
  nObjects__next_made : NoAttr K A.CObjects "_next_made"
  clRequest : Cls K A.CRequest
  gRequest : mg "Request" = some (.ref A.CRequest)
  nRequest_number : NoAttr K A.CRequest "number"
  nRequest_interface : NoAttr K A.CRequest "interface"
  nRequest_name : NoAttr K A.CRequest "name"
  nRequest_arguments : NoAttr K A.CRequest "arguments"
  nRequest_ends : NoAttr K A.CRequest "ends"
  gBadMessage : mg "BadMessage" = some (.ref A.CBadMessage)
  xBadMessage : PySem.W.excIn K A.CBadMessage [.type "ValueError", .type "Exception", .type "BaseException", .type "object"] "ValueError.__new__" = true
  kBadMessage : PySem.W.keepIn K (.ref A.CBadMessage) = true
  bxBadMessage : PySem.W.subIn K (.ref A.CBadMessage) (.type "BaseException") = some true
  txBadMessage : PySem.W.typeIn K (.ref A.CBadMessage) = some (.type "type")
  exBadMessage : PySem.W.exmOne K (.ref A.CBadMessage) (.ref A.CBadMessage) = some true
  gMessageTooLong : mg "MessageTooLong" = some (.ref A.CMessageTooLong)
  xMessageTooLong : PySem.W.excIn K A.CMessageTooLong [.type "ValueError", .type "Exception", .type "BaseException", .type "object"] "ValueError.__new__" = true
  kMessageTooLong : PySem.W.keepIn K (.ref A.CMessageTooLong) = true
  bxMessageTooLong : PySem.W.subIn K (.ref A.CMessageTooLong) (.type "BaseException") = some true
  txMessageTooLong : PySem.W.typeIn K (.ref A.CMessageTooLong) = some (.type "type")
  exMessageTooLong : PySem.W.exmOne K (.ref A.CMessageTooLong) (.ref A.CMessageTooLong) = some true
  gBadLength : mg "BadLength" = some (.ref A.CBadLength)
  xBadLength : PySem.W.excIn K A.CBadLength [.type "ValueError", .type "Exception", .type "BaseException", .type "object"] "ValueError.__new__" = true
  kBadLength : PySem.W.keepIn K (.ref A.CBadLength) = true
  bxBadLength : PySem.W.subIn K (.ref A.CBadLength) (.type "BaseException") = some true
  txBadLength : PySem.W.typeIn K (.ref A.CBadLength) = some (.type "type")
  exBadLength : PySem.W.exmOne K (.ref A.CBadLength) (.ref A.CBadLength) = some true
  gBadText : mg "BadText" = some (.ref A.CBadText)
  xBadText : PySem.W.excIn K A.CBadText [.type "ValueError", .type "Exception", .type "BaseException", .type "object"] "ValueError.__new__" = true
  kBadText : PySem.W.keepIn K (.ref A.CBadText) = true
  bxBadText : PySem.W.subIn K (.ref A.CBadText) (.type "BaseException") = some true
  txBadText : PySem.W.typeIn K (.ref A.CBadText) = some (.type "type")
  exBadText : PySem.W.exmOne K (.ref A.CBadText) (.ref A.CBadText) = some true
  gBadPadding : mg "BadPadding" = some (.ref A.CBadPadding)
  xBadPadding : PySem.W.excIn K A.CBadPadding [.type "ValueError", .type "Exception", .type "BaseException", .type "object"] "ValueError.__new__" = true
  kBadPadding : PySem.W.keepIn K (.ref A.CBadPadding) = true
  bxBadPadding : PySem.W.subIn K (.ref A.CBadPadding) (.type "BaseException") = some true
  txBadPadding : PySem.W.typeIn K (.ref A.CBadPadding) = some (.type "type")
  exBadPadding : PySem.W.exmOne K (.ref A.CBadPadding) (.ref A.CBadPadding) = some true
  gObjectMissing : mg "ObjectMissing" = some (.ref A.CObjectMissing)
  xObjectMissing : PySem.W.excIn K A.CObjectMissing [.type "ValueError", .type "Exception", .type "BaseException", .type "object"] "ValueError.__new__" = true
  kObjectMissing : PySem.W.keepIn K (.ref A.CObjectMissing) = true
  bxObjectMissing : PySem.W.subIn K (.ref A.CObjectMissing) (.type "BaseException") = some true
  txObjectMissing : PySem.W.typeIn K (.ref A.CObjectMissing) = some (.type "type")
  exObjectMissing : PySem.W.exmOne K (.ref A.CObjectMissing) (.ref A.CObjectMissing) = some true
  gFault : mg "Fault" = some (.ref A.CFault)
  oFault : OexC K A.CFault
  vFault : SupC K A.CFault A.CFault
  xfFault : XfC K A.CFault
  iXFault : ExcC K A.CFault
  kFault : PySem.W.keepIn K (.ref A.CFault) = true
  nFault_number : PySem.W.findIn K (.ref A.CFault) "number" = some none
  nFault_code : PySem.W.findIn K (.ref A.CFault) "code" = some none
  nFault_words : PySem.W.findIn K (.ref A.CFault) "words" = some none
  bxFault : PySem.W.subIn K (.ref A.CFault) (.type "BaseException") = some true
  txFault : PySem.W.typeIn K (.ref A.CFault) = some (.type "type")
  exFault : PySem.W.exmOne K (.ref A.CFault) (.ref A.CFault) = some true
  exBadMessage_MessageTooLong : PySem.W.exmOne K (.ref A.CBadMessage) (.ref A.CMessageTooLong) = some false
  exBadMessage_BadLength : PySem.W.exmOne K (.ref A.CBadMessage) (.ref A.CBadLength) = some false
  exBadMessage_BadText : PySem.W.exmOne K (.ref A.CBadMessage) (.ref A.CBadText) = some false
  exBadMessage_BadPadding : PySem.W.exmOne K (.ref A.CBadMessage) (.ref A.CBadPadding) = some false
  exBadMessage_ObjectMissing : PySem.W.exmOne K (.ref A.CBadMessage) (.ref A.CObjectMissing) = some false
  exBadMessage_Fault : PySem.W.exmOne K (.ref A.CBadMessage) (.ref A.CFault) = some false
  exMessageTooLong_BadMessage : PySem.W.exmOne K (.ref A.CMessageTooLong) (.ref A.CBadMessage) = some false
  exMessageTooLong_BadLength : PySem.W.exmOne K (.ref A.CMessageTooLong) (.ref A.CBadLength) = some false
  exMessageTooLong_BadText : PySem.W.exmOne K (.ref A.CMessageTooLong) (.ref A.CBadText) = some false
  exMessageTooLong_BadPadding : PySem.W.exmOne K (.ref A.CMessageTooLong) (.ref A.CBadPadding) = some false
  exMessageTooLong_ObjectMissing : PySem.W.exmOne K (.ref A.CMessageTooLong) (.ref A.CObjectMissing) = some false
  exMessageTooLong_Fault : PySem.W.exmOne K (.ref A.CMessageTooLong) (.ref A.CFault) = some false
  exBadLength_BadMessage : PySem.W.exmOne K (.ref A.CBadLength) (.ref A.CBadMessage) = some false
  exBadLength_MessageTooLong : PySem.W.exmOne K (.ref A.CBadLength) (.ref A.CMessageTooLong) = some false
  exBadLength_BadText : PySem.W.exmOne K (.ref A.CBadLength) (.ref A.CBadText) = some false
  exBadLength_BadPadding : PySem.W.exmOne K (.ref A.CBadLength) (.ref A.CBadPadding) = some false
  exBadLength_ObjectMissing : PySem.W.exmOne K (.ref A.CBadLength) (.ref A.CObjectMissing) = some false
  exBadLength_Fault : PySem.W.exmOne K (.ref A.CBadLength) (.ref A.CFault) = some false
  exBadText_BadMessage : PySem.W.exmOne K (.ref A.CBadText) (.ref A.CBadMessage) = some false
  exBadText_MessageTooLong : PySem.W.exmOne K (.ref A.CBadText) (.ref A.CMessageTooLong) = some false
  exBadText_BadLength : PySem.W.exmOne K (.ref A.CBadText) (.ref A.CBadLength) = some false
  exBadText_BadPadding : PySem.W.exmOne K (.ref A.CBadText) (.ref A.CBadPadding) = some false
  exBadText_ObjectMissing : PySem.W.exmOne K (.ref A.CBadText) (.ref A.CObjectMissing) = some false
  exBadText_Fault : PySem.W.exmOne K (.ref A.CBadText) (.ref A.CFault) = some false
  exBadPadding_BadMessage : PySem.W.exmOne K (.ref A.CBadPadding) (.ref A.CBadMessage) = some false
  exBadPadding_MessageTooLong : PySem.W.exmOne K (.ref A.CBadPadding) (.ref A.CMessageTooLong) = some false
  exBadPadding_BadLength : PySem.W.exmOne K (.ref A.CBadPadding) (.ref A.CBadLength) = some false
  exBadPadding_BadText : PySem.W.exmOne K (.ref A.CBadPadding) (.ref A.CBadText) = some false
  exBadPadding_ObjectMissing : PySem.W.exmOne K (.ref A.CBadPadding) (.ref A.CObjectMissing) = some false
  exBadPadding_Fault : PySem.W.exmOne K (.ref A.CBadPadding) (.ref A.CFault) = some false
  exObjectMissing_BadMessage : PySem.W.exmOne K (.ref A.CObjectMissing) (.ref A.CBadMessage) = some false
  exObjectMissing_MessageTooLong : PySem.W.exmOne K (.ref A.CObjectMissing) (.ref A.CMessageTooLong) = some false
  exObjectMissing_BadLength : PySem.W.exmOne K (.ref A.CObjectMissing) (.ref A.CBadLength) = some false
  exObjectMissing_BadText : PySem.W.exmOne K (.ref A.CObjectMissing) (.ref A.CBadText) = some false
  exObjectMissing_BadPadding : PySem.W.exmOne K (.ref A.CObjectMissing) (.ref A.CBadPadding) = some false
  exObjectMissing_Fault : PySem.W.exmOne K (.ref A.CObjectMissing) (.ref A.CFault) = some false
  exFault_BadMessage : PySem.W.exmOne K (.ref A.CFault) (.ref A.CBadMessage) = some false
  exFault_MessageTooLong : PySem.W.exmOne K (.ref A.CFault) (.ref A.CMessageTooLong) = some false
  exFault_BadLength : PySem.W.exmOne K (.ref A.CFault) (.ref A.CBadLength) = some false
  exFault_BadText : PySem.W.exmOne K (.ref A.CFault) (.ref A.CBadText) = some false
  exFault_BadPadding : PySem.W.exmOne K (.ref A.CFault) (.ref A.CBadPadding) = some false
  exFault_ObjectMissing : PySem.W.exmOne K (.ref A.CFault) (.ref A.CObjectMissing) = some false
structure Dic (w : World) (K : PySem.W.Frag) (A : Adr) : Prop where
  d_REQUESTS_k0 : KDct K w A.a_REQUESTS "display" (.ref A.a_REQUESTS_k0)
  d_REQUESTS_k1 : KDct K w A.a_REQUESTS "callback" (.ref A.a_REQUESTS_k1)
  d_REQUESTS_k2 : KDct K w A.a_REQUESTS "registry" (.ref A.a_REQUESTS_k2)
  d_REQUESTS_k3 : KDct K w A.a_REQUESTS "memory" (.ref A.a_REQUESTS_k3)
  d_REQUESTS_k4 : KDct K w A.a_REQUESTS "buffer" (.ref A.a_REQUESTS_k4)
  d_REQUESTS_k5 : KDct K w A.a_REQUESTS "compositor" (.ref A.a_REQUESTS_k5)
  d_REQUESTS_k6 : KDct K w A.a_REQUESTS "region" (.ref A.a_REQUESTS_k6)
  d_REQUESTS_k7 : KDct K w A.a_REQUESTS "surface" (.ref A.a_REQUESTS_k7)
  d_REQUESTS_k8 : KDct K w A.a_REQUESTS "joiner" (.ref A.a_REQUESTS_k8)
  d_REQUESTS_k9 : KDct K w A.a_REQUESTS "sub" (.ref A.a_REQUESTS_k9)
  d_REQUESTS_k10 : KDct K w A.a_REQUESTS "output" (.ref A.a_REQUESTS_k10)
  d_REQUESTS_k11 : KDct K w A.a_REQUESTS "windows" (.ref A.a_REQUESTS_k11)
  d_REQUESTS_k12 : KDct K w A.a_REQUESTS "window" (.ref A.a_REQUESTS_k12)
  d_REQUESTS_k13 : KDct K w A.a_REQUESTS "popup" (.ref A.a_REQUESTS_k13)
  d_REQUESTS_k14 : KDct K w A.a_REQUESTS "seat" (.ref A.a_REQUESTS_k14)
  d_REQUESTS_k15 : KDct K w A.a_REQUESTS "pointer" (.ref A.a_REQUESTS_k15)
  d_REQUESTS_k16 : KDct K w A.a_REQUESTS "keyboard" (.ref A.a_REQUESTS_k16)
  d_REQUESTS_k17 : KDct K w A.a_REQUESTS "transfer" (.ref A.a_REQUESTS_k17)
  d_REQUESTS_k18 : KDct K w A.a_REQUESTS "source" (.ref A.a_REQUESTS_k18)
  d_REQUESTS_k19 : KDct K w A.a_REQUESTS "offer" (.ref A.a_REQUESTS_k19)
  d_REQUESTS_k20 : KDct K w A.a_REQUESTS "capture" (.ref A.a_REQUESTS_k20)
  d_REQUESTS_k21 : KDct K w A.a_REQUESTS "fetch" (.ref A.a_REQUESTS_k21)
  d_REQUESTS_k22 : KDct K w A.a_REQUESTS "watch" (.ref A.a_REQUESTS_k22)
  kk_REQUESTS : KKeys K w A.a_REQUESTS ["display", "callback", "registry", "memory", "buffer", "compositor", "region", "surface", "joiner", "sub", "output", "windows", "window", "popup", "seat", "pointer", "keyboard", "transfer", "source", "offer", "capture", "fetch", "watch"]
section
variable {P : Program} {w : World} {K : PySem.W.Frag} {mg : Str → Option Value} {base : Heap} {A : Adr}
section
/-! ### the same while an exception is handled: a def whose first statement is super().__init__(e, ..) (our own rule, hot) -/
open PySem PySem.Spec PyProof.Rows HotX L2H
def cxSupH (CX : CXT) (P : Program) (w : World) (K : PySem.W.Frag) (mg : Str → Option Value) (base : Heap) (N : List Str) (qual : Str) (scope : Scope) (f : Addr) (cd : Value) (cc : Addr) (A : Around) (outer : List Env) (s : Shared) (H : Hp) (E : XK) (p : Addr × Obj) : Cx :=
  { cxSup CX P w K mg base N qual scope f cd cc A outer s H E with calm := false, pn := [p] }
theorem inv_supH {CX : CXT} {P : Program} {w : World} {K : PySem.W.Frag} {mg : Str → Option Value} {base : Heap} {N ps : List Str} {qual : Str} {scope : Scope} {f cc : Addr} {cd : Value} {A : Around} {outer : List Env} {s : Shared} {H : Hp} {E : XK} {us : List Value} {vs : List V} {h1 : Heap} {tk : Nat}
    {cl : Value} {cld : Option Addr} {cv : Option Value} {csl : Array (Option Value)} (S : SupScope N ps scope) {p : Addr × Obj} (hpin : PinOk outer H s p) (e0 : Env0 P w K mg base A outer s H) (hl : vs.length = ps.length) (r : Vals vs us) (hcc : K.lookup cc = some ⟨cl, cld, .cell cv, csl⟩)
    (hns : h1.Ns s.heap.objs.size (fun x => (ps.zip us).reverse.lookup x)) (hk : ∀ b o, s.heap.get? b = some o → h1.get? b = some o) :
    Inv (cxSupH CX P w K mg base N qual scope f cd cc A outer s H E p) [] (L2.start N vs) H { s with heap := h1, toks := tk } := by
  have hpl : ps.length ≤ N.length := by have := congrArg List.length S.pre; rw [List.length_take] at this; omega
  have noA : ∀ b : Addr, b ∉ (cxSupH CX P w K mg base N qual scope f cd cc A outer s H E p).ex := fun b z => absurd (show b ∈ ([] : List Addr) from z) (by simp)
  have hcb : base.get? cc = some ⟨cl, cld, .cell cv, csl⟩ := e0.mod.kin _ _ hcc
  have hcs := (e0.bs _ _ hcb).1
  refine ⟨⟨e0.mod, S.kind, rfl, rfl, Nat.le_refl _, fun y z c a b => ?_, fun y hy => ?_, fun y c hf h => ?_, (fun z => Bool.noConfusion (show false = true from z)), Around.frames_deeper e0.frames, .inr ⟨rfl, rfl⟩, fun b z => absurd z (noA b), e0.bs, e0.bsz, fun b _ _ => noA b, fun b z => absurd z (noA b), e0.funs, e0.frf⟩,
    rfl, e0.bare, Un.kept hk, ⟨_, hns, fun i y v a b c => ?_⟩, fun y c h => ?_, e0.hok.fresh (Nat.le_refl _), fun y c h => ?_, fun q hq => ?_, e0.hok.kept hk, ?_⟩
  · rw [(sup_cell a).1, (sup_cell b).1]
  · have hy : scope.names.lookup y = some .cell ∨ scope.names.lookup y = some .free := hy
    rcases hy with hy | hy
    · exact absurd rfl (S.nocell _ (PySem.mem_of_lookup hy))
    · have e := S.free _ (PySem.mem_of_lookup hy) rfl
      refine ⟨cc, ?_⟩
      show List.lookup y [(("__class__" : Str), cc)] = some cc
      rw [show y = "__class__" from e]
      exact List.lookup_cons_self
  · have := (sup_cell h).1
    subst this
    exact absurd hf (by show ¬ ((("__class__" : Str) != ("__class__" : Str)) = true); decide)
  · have hi : i < vs.length := by
      unfold L2.start at b
      by_cases hi : i < vs.length
      · exact hi
      · rw [List.getElem?_append_right (by simpa using hi)] at b
        rw [List.getElem?_replicate] at b
        split at b <;> cases b
    have ha : vs[i]? = some v := by
      unfold L2.start at b
      rw [List.getElem?_append_left (by simpa using hi), List.getElem?_map] at b
      cases e : vs[i]? with
      | none => rw [e] at b; cases b
      | some a => rw [e] at b; cases b; rfl
    obtain ⟨u, hu, rv⟩ := r.get ha
    have hp : ps[i]? = some y := by
      rw [← S.pre, List.getElem?_take_of_lt (by omega)]; exact a
    have ndP : ps.Nodup := by rw [← S.pre]; exact S.nd.sublist (List.take_sublist _ _)
    exact ⟨u, rv, .inl ⟨S.par y (List.mem_of_getElem? hp), zip_rev_get ndP hp hu⟩⟩
  · obtain ⟨_, rfl⟩ := sup_cell h
    exact ⟨cv, _, hk _ _ hcs, rfl⟩
  · obtain ⟨_, rfl⟩ := sup_cell h
    exact (e0.bs _ _ hcb).2
  · have eq : q = p := by simpa using (show q ∈ [p] ++ ([] : List (Addr × Obj)) from hq)
    rw [eq]
    exact ⟨hk p.1 p.2 hpin.get, hpin.free, Nat.ne_of_lt (Heap.lt_size hpin.get), hpin.nofs, hpin.nocell⟩
  · unfold L2.start
    show _ = N.length
    rw [List.length_append, List.length_map, List.length_replicate]
    omega
theorem fn_supH {CX : CXT} {P : Program} {w : World} {K : PySem.W.Frag} {mg : Str → Option Value} {base : Heap} {k : Nat} {f cc cda D : Addr} {name qual : Str} {params : Arguments} {e : Expr} {es : List Expr} {p0 p1 p2 p3 p4 : Pos} {rest : List Stmt} {scope : Scope} {dV kV doc pm ct oc cl ccl : Value} {an od cld cdd : Option Addr}
    {osl csl ccs : Array (Option Value)} {N ps : List Str} {sp : Sp} {ar : PySem.Arg} {fvs : Array Value} {file : Str} {tf : Tok} {cdD : ClassData}
    (lk : K.lookup f = some ⟨oc, od, .func (PySem.W.fnX name qual params (.Expr (.Call (.Attribute (.Call (.Name "super" p0) [] [] p1) "__init__" p2) (e :: es) [] p3) p4 :: rest) scope [("__class__", cc)] dV kV doc pm an (.ref cda) ct), osl⟩)
    (hcd : PySem.W.codeIn K (.ref cda) qual = true) (S : SupScope N ps scope) (len : ∀ vs H Q E, sp vs H Q E → vs.length = ps.length)
    (hpar : (params.posonlyargs ++ params.args).head? = some ar) (har : ps[0]? = some ar.arg)
    (hcode : K.lookup cda = some ⟨ccl, cdd, .fields fvs, ccs⟩) (hvs : fvs[2]? = some (.str file tf)) (hfile : ((P.main.file : Str) == file) = true)
    (hcc : K.lookup cc = some ⟨cl, cld, .cell (some (.ref D)), csl⟩) (hD : PySem.W.clsIn K D = some cdD) (hsuper : mg "super" = none) (htop : (P.main.scope.names.lookup ("super" : Str)).isSome = false)
    (pl : Addr → Sem Bool) (hev : ∀ L : Addr, eval (.Call (.Attribute (.Call (.Name "super" p0) [] [] p1) "__init__" p2) (e :: es) [] p3) (envSup qual scope L f (.ref cda) cc) = (do
      let ov ← attributeBase (.Call (.Name "super" p0) [] [] p1) "__init__" (envSup qual scope L f (.ref cda) cc) (eval (.Call (.Name "super" p0) [] [] p1) (envSup qual scope L f (.ref cda) cc))
      standAt p2.atName
      let (fx, first) ← holding [ov] (getMethod ov "__init__" (pl L))
      callWith p3 fx first (backTo p3 (starEach (e :: es) (envSup qual scope L f (.ref cda) cc))) []))
    (he : ∀ X : Cx, starEach (e :: es) X.env = (false, eval e X.env) :: starEach es X.env) (hpl : ∀ X : Cx, (backTo p3 (starEach es X.env)).any (·.1) = false)
    (hbody : ∀ (A : Around) (outer : List Env) (s : Shared) (H : Hp) (vs : List V) (Q : VK) (E : XK) (pp : Addr × Obj), Hot1 A pp → RoomH k (A.deeper (envSup qual scope s.heap.objs.size f (.ref cda) cc)) → sp vs H Q E →
      ∃ (ta : TA) (t : TS) (a C : Addr) (ws : List V), PA (cxSupH CX P w K mg base N qual scope f (.ref cda) cc A outer s H E pp) (e :: es) ta ∧ PSs (cxSupH CX P w K mg base N qual scope f (.ref cda) cc A outer s H E pp) rest t ∧ vs = .ref a :: ws ∧ H a = some (exo a C none) ∧ SupC K C D ∧
        ta (L2.start N vs) H fun us H1 => us.length ≤ 1000 ∧ H1 a = some (exo a C none) ∧ t { nx := fun _ H' => Q .non H', rt := Q } (L2.start N vs) H1) :
    FnH P w K mg base CX (k + 1) f (PySem.W.fnX name qual params (.Expr (.Call (.Attribute (.Call (.Name "super" p0) [] [] p1) "__init__" p2) (e :: es) [] p3) p4 :: rest) scope [("__class__", cc)] dV kV doc pm an (.ref cda) ct) ps sp := by
  refine ⟨len, fun A outer s H args us vs Q E pp hr hot hpin e0 hb r hsp => ?_⟩
  have hl := len _ _ _ _ hsp
  have KX : K.In s.heap := e0.mod.kin.keeps fun b o e => (e0.bs b o e).1
  have lim : s.heap.NoLimit := e0.mod.nolimit.keeps fun b o e => (e0.bs b o e).1
  refine PySem.ks_codeAny_call_defAt (fd := PySem.W.fnX name qual params (.Expr (.Call (.Attribute (.Call (.Name "super" p0) [] [] p1) "__init__" p2) (e :: es) [] p3) p4 :: rest) scope [("__class__", cc)] dV kV doc pm an (.ref cda) ct) (binds := ps.zip us)
    hr.depth (KX _ _ lk) rfl lim (PySem.W.codeRec_of KX hcd) rfl hb S.nocell (fun ⟨n, v⟩ hy => S.par n (List.of_mem_zip hy).1) (fun h₀ hns hk => ?_) S.co S.gen S.kind
  obtain ⟨ta, t, a, C, ws, hPA, hPS, rfl, ea, T, hq⟩ := hbody A outer s H vs Q E pp hot (hr.deeper _) hsp
  have I : Inv (cxSupH CX P w K mg base N qual scope f (.ref cda) cc A outer s H E pp) [] (L2.start N (.ref a :: ws)) H { s with heap := h₀, toks := s.toks + (ps.zip us).length } := inv_supH S hpin e0 hl r hcc hns hk
  have ndP : ps.Nodup := by rw [← S.pre]; exact S.nd.sublist (List.take_sublist _ _)
  have hus : ∃ ur, us = .ref a :: ur := by
    cases r with
    | cons h _ => obtain rfl := (show _ = Value.ref a from h); exact ⟨_, rfl⟩
  obtain ⟨ur, rfl⟩ := hus
  have hself : (ps.zip (.ref a :: ur)).reverse.lookup ar.arg = some (.ref a) := zip_rev_get (i := 0) ndP har rfl
  obtain ⟨t1, ho⟩ := exo_at I.hok ea
  have K0 : K.In h₀ := I.kIn
  obtain ⟨oD, hD1, hD2⟩ : ∃ oD, h₀.get? D = some oD ∧ oD.data = .cls cdD := by
    unfold PySem.W.clsIn at hD
    split at hD
    · rename_i c d cd' sl ho
      cases hD
      exact ⟨_, K0 _ _ ho, rfl⟩
    · cases hD
  show PySem.wpAt (model P w) (A.deeper (envSup qual scope s.heap.objs.size f (.ref cda) cc)) (.func (.Expr (.Call (.Attribute (.Call (.Name "super" p0) [] [] p1) "__init__" p2) (e :: es) [] p3) p4 :: rest) (envSup qual scope s.heap.objs.size f (.ref cda) cc)) (execs (.Expr (.Call (.Attribute (.Call (.Name "super" p0) [] [] p1) "__init__" p2) (e :: es) [] p3) p4 :: rest) (envSup qual scope s.heap.objs.size f (.ref cda) cc)) _ _ _
  refine PySem.ks_wpAt_execs_cons (PySem.ks_wpAt_Expr_any (PySem.ks_wpAt_MethodCall ?_ (hev _)) I.quiet)
  refine PySem.ks_wpAt_super_base (f := f) (cc := cda) (ar := ar) (vs := fvs) (file := file) (tf := tf) (env := envSup qual scope s.heap.objs.size f (.ref cda) cc) S.sup S.cls (by decide) rfl (K0 _ _ lk) rfl hpar rfl (K0 _ _ hcode) rfl hvs hfile htop ?_
  obtain ⟨mb, hb1, hb2⟩ := I.mod.blt
  refine PySem.W.ks_loadName_global S.kind S.sup (Calls.loadGlobal_builtin (I.mod.glob.keeps I.bk) hsuper (hb1.keeps I.bk) ((hb2 _ (by decide)).trans (by first | rfl | kernel_rfl | decide +kernel)) ⟨rfl, ?_⟩)
  refine wpAny_loadName_free S.kind S.cls (c := cc) rfl ⟨_, K0 _ _ hcc, rfl⟩ ?_
  refine wpAny_loadName_local S.kind (S.par _ (List.mem_of_getElem? har)) hns hself ?_
  refine PySem.ks_wpAny_isType_cls hD1 hD2 ⟨rfl, ?_⟩
  refine PySem.ks_wpAny_call_super hD1 hD2 ho rfl (fun c z => by cases z) (PySem.W.looks_mroIn K0 T.up) (fun h' eso k => ?_)
  have I' := I.kept (t' := s.toks + (ps.zip (Value.ref a :: ur)).length) k
  have K' : K.In h' := I'.kIn
  have ho' := k _ _ ho
  obtain ⟨nm, q, N', bs, bm, sn, sub, ab, col, dd, k0, k1, k2, k3, k5, hC, hbm⟩ := T.ox.cls
  have hcl : PySem.W.clsIn K C = some { name := nm, bases := bs, mro := .ref C :: bm, ns := N', qualname := q, hasDict := true, slotNames := sn, subclasses := sub, abstract := ab, collection := col, hasDel := false } := by unfold PySem.W.clsIn; rw [hC] <;> rfl
  have hget := T.get
  unfold PySem.W.ks_superIn at hget
  rw [hcl, Option.bind_some] at hget
  have haC : a ≠ C := fun z => by
    have := (e0.bs _ _ (e0.mod.kin _ _ hC)).2
    rw [← z, ea] at this; cases this
  have IA : PySem.W.InstAt h' a { cls := .ref C, dict := none, data := .fields #[.ref t1, .none, .none, .none, .bool false, .none] } C none := ⟨ho', rfl, rfl, trivial⟩
  refine PySem.W.kxs_getMethod PySem.W.kxs_ValueError eso (PySem.W.looks_opaque K' T.tp) ((PySem.W.looks_clsIn K' hcl).andThen .now) rfl K' hget (IA.type.andThen (PySem.W.looks_subIn K' T.ve)) haC (by decide) ?_
  have I2 := I'.kept (t' := s.toks + (ps.zip (Value.ref a :: ur)).length + 1) (h' := h'.push (PySem.W.kxs_mw "ValueError.__init__" a)) (fun b o e => Heap.get?_push_of_some _ e)
  have I3 : Inv (cxSupH CX P w K mg base N qual scope f (.ref cda) cc A outer s H E pp) [(h'.objs.size, PySem.W.kxs_mw "ValueError.__init__" a)] (L2.start N (.ref a :: ws)) H { s with heap := h'.push (PySem.W.kxs_mw "ValueError.__init__" a), toks := s.toks + (ps.zip (Value.ref a :: ur)).length + 1 } :=
    I2.pins_of fun p hp => by
      rw [List.mem_singleton.mp hp]
      exact ⟨Heap.get?_push_at rfl rfl, I'.hok.fresh (Nat.le_refl _), Nat.ne_of_gt I'.lt, I'.nofs (Nat.le_refl _), fun v z => by cases z⟩
  have hX := he (cxSupH CX P w K mg base N qual scope f (.ref cda) cc A outer s H E pp)
  have hpl2 := hpl (cxSupH CX P w K mg base N qual scope f (.ref cda) cc A outer s H E pp)
  have hrun := hPA.run p3 _ _ _ _ _ I3 hq
  show wpAny _ _ (callWith p3 (Value.ref h'.objs.size) [] (backTo p3 (starEach (e :: es) (cxSupH CX P w K mg base N qual scope f (.ref cda) cc A outer s H E pp).env)) []) _ _ _
  rw [hX] at hrun ⊢
  refine PySem.W.kxs_callWith (i := "ValueError.__init__") (x := a) (by show (false || (backTo p3 (starEach es _)).any (·.1)) = false; rw [hpl2]; rfl) (Calls.evalArgs_plain (wpAny_mono hrun (fun ws' s1 hh => ?_) fun _ _ z => z))
  obtain ⟨vs1, H1, I4, r1, hl1, e1, ht⟩ := hh
  refine ⟨(I4.pin _ (List.mem_append_right _ (List.mem_singleton.mpr rfl))).1, ?_⟩
  refine sup_call T.ox I4 e1 (I4.pin _ (List.mem_append_right _ (List.mem_singleton.mpr rfl))).1 (by rw [List.nil_append, ← Paired.length r1, sizeLine_eq]; omega) (fun s2 J => ?_)
  refine wpAt_of_wpAny ?_
  refine wpAny_mono (hPS.run _ s2 _ H1 _ J ht) (fun fl s' hs => ?_) fun e s' hs => hs
  have fin : ∀ {σ' : L2.St} {H' : Hp} {v : V} {u : Value}, Inv (cxSupH CX P w K mg base N qual scope f (.ref cda) cc A outer s H E pp) [(h'.objs.size, PySem.W.kxs_mw "ValueError.__init__" a)] σ' H' s' → RelV v u → Q v H' → CE outer P w H s Q u s' :=
    fun {σ' H' v u} J rv q => ⟨v, H', J.os, J.bare, J.base, J.hok, rv, q⟩
  cases fl with
  | ret u =>
    obtain ⟨v, σ', H', J, rv, q⟩ := hs
    exact fin J rv q
  | next =>
    obtain ⟨σ', H', J, q⟩ := hs
    exact fin (v := V.non) (u := Value.none) J rfl q
  | brk =>
    obtain ⟨_, _, _, q⟩ := hs
    exact False.elim q
  | cont =>
    obtain ⟨_, _, _, q⟩ := hs
    exact False.elim q
theorem FunSup.okH {CX : CXT} {P : Program} {w : World} {K : PySem.W.Frag} {mg : Str → Option Value} {base : Heap} {x qual : Str} {st : Stmt} {f D : Addr} {fd : FuncData} {N ps : List Str} {k : Nat} {sp : Sp} {ar : PySem.Arg} {e : Expr} {es : List Expr} {p0 p1 p2 p3 p4 : Pos} {rest : List Stmt}
    (F : FunSup K x qual st f fd D) (hP : Prg P) (S : SupScope N ps (defScope st)) (len : ∀ vs H Q E, sp vs H Q E → vs.length = ps.length)
    (hst : defBody st = .Expr (.Call (.Attribute (.Call (.Name "super" p0) [] [] p1) "__init__" p2) (e :: es) [] p3) p4 :: rest) (hpar : ((defArgs st).posonlyargs ++ (defArgs st).args).head? = some ar) (har : ps[0]? = some ar.arg) (hsuper : mg "super" = none)
    {pl : Addr → Addr → Addr → Sem Bool} (hev : ∀ cc cda L : Addr, eval (.Call (.Attribute (.Call (.Name "super" p0) [] [] p1) "__init__" p2) (e :: es) [] p3) (envSup qual (defScope st) L f (.ref cda) cc) = (do
      let ov ← attributeBase (.Call (.Name "super" p0) [] [] p1) "__init__" (envSup qual (defScope st) L f (.ref cda) cc) (eval (.Call (.Name "super" p0) [] [] p1) (envSup qual (defScope st) L f (.ref cda) cc))
      standAt p2.atName
      let (fx, first) ← holding [ov] (getMethod ov "__init__" (pl cc cda L))
      callWith p3 fx first (backTo p3 (starEach (e :: es) (envSup qual (defScope st) L f (.ref cda) cc))) []))
    (he : ∀ X : Cx, starEach (e :: es) X.env = (false, eval e X.env) :: starEach es X.env) (hpl : ∀ X : Cx, (backTo p3 (starEach es X.env)).any (·.1) = false)
    (hbody : ∀ (cc cda : Addr) (A : Around) (outer : List Env) (s : Shared) (H : Hp) (vs : List V) (Q : VK) (E : XK) (pp : Addr × Obj), Hot1 A pp → RoomH k (A.deeper (envSup qual (defScope st) s.heap.objs.size f (.ref cda) cc)) → sp vs H Q E →
      ∃ (ta : TA) (t : TS) (a C : Addr) (ws : List V), PA (cxSupH CX P w K mg base N qual (defScope st) f (.ref cda) cc A outer s H E pp) (e :: es) ta ∧ PSs (cxSupH CX P w K mg base N qual (defScope st) f (.ref cda) cc A outer s H E pp) rest t ∧ vs = .ref a :: ws ∧ H a = some (exo a C none) ∧ SupC K C D ∧
        ta (L2.start N vs) H fun us H1 => us.length ≤ 1000 ∧ H1 a = some (exo a C none) ∧ t { nx := fun _ H' => Q .non H', rt := Q } (L2.start N vs) H1) :
    FnH P w K mg base CX (k + 1) f fd ps sp := by
  obtain ⟨oc, od, kV, doc, pm, an, cda, ct, osl, cc, cl, ccl, cld, cdd, csl, ccs, fvs, tf, cdD, rfl, lk, hcd, hcode, hvs, hcc, hD⟩ := F.ex
  rw [hst] at lk ⊢
  exact fn_supH lk hcd S len hpar har hcode hvs hP.file hcc hD hsuper hP.top (pl cc cda) (hev cc cda) he hpl (fun A outer s H vs Q E pp => hbody cc cda A outer s H vs Q E pp)
end
section
/-! ### several except clauses whose suites may raise out of the try (our own rule; the library has it for one clause) -/
open PySem PySem.Spec PyProof.Rows HotX L2H
theorem _root_.L2.Fun.okN {P : Program} {w : World} {K : PySem.W.Frag} {mg : Str → Option Value} {base : Heap} {x qual : Str} {st : Stmt} {f : Addr} {fd : FuncData} {N ps : List Str} {k : Nat} {sp : Sp} (F : L2.Fun K x qual st f fd) (S : FnScope N ps (defScope st)) (len : ∀ vs H Q E, sp vs H Q E → vs.length = ps.length)
    (hb : ∀ (cdv : Value) (A : Around) (outer : List Env) (s : Shared) (H : Hp) (vs : List V) (Q : VK) (E : XK), Room k (A.deeper (envOfC qual (defScope st) s.heap.objs.size f cdv)) → sp vs H Q E →
      ∃ t, PSs (cxOf (L2N.CX P w) P w K mg base N qual (defScope st) f cdv A outer s H E) (defBody st) t ∧ t { nx := fun _ H' => Q .non H', rt := Q } (L2.start N vs) H) : FnOk P w K mg base (L2N.CX P w) (k + 1) f fd ps sp := by
  obtain ⟨_, _, _, _, _, _, _, _, _, rfl, lk, hcd⟩ := F.ex
  exact fn_of lk hcd S len fun A outer s H vs Q E => hb _ A outer s H vs Q E
/-- clauses, each with what its suite asks -/
inductive HdsX (X : Cx) (Wo : WX) : List ExceptHandler → List (Value × (Addr → Value → Option Addr → TS)) → Prop
  | nil : HdsX X Wo [] []
  | cons {x : Str} {c : Value} {ts : Addr → Value → Option Addr → TS} {b : Stmt} {bs : List Stmt} {p1 p2 : Pos} {hds : List ExceptHandler} {l : List (Value × (Addr → Value → Option Addr → TS))} (hc : Names X x c)
      (suite : ∀ (a : Addr) (cls : Value) (d : Option Addr) (pn : List (Addr × Obj)), L2.Takes (suiteX X a pn) Wo → HotC (suiteX X a pn) → PSs (suiteX X a pn) (b :: bs) (ts a cls d)) (more : HdsX X Wo hds l) :
      HdsX X Wo (.ExceptHandler (some (.Name x p1)) none (b :: bs) p2 :: hds) ((c, ts) :: l)
/-- an exception in flight where clauses are tried: B is the state of its raising, sI the state whose picture is H -/
structure InAir (X : Cx) (pins : List (Addr × Obj)) (σ : L2.St) (H : Hp) (a : Addr) (cls : Value) (d : Option Addr) (B : Heap) (sI s : Shared) : Prop where
  inv : Inv X pins σ H sI
  nb : ∀ b o, sI.heap.get? b = some o → b ∉ frs X.stack → B.get? b = some o
  up : sI.heap.UpToSlots s.heap
  fl : HandSPX.FlyingZ B (X.env :: X.outer) a (L2N.Zn cls d) s.heap
  na : H a = none
  os : s.os = sI.os
  bare : AllBare s.gens
section
variable {X : Cx} {pins : List (Addr × Obj)} {σ : L2.St} {H : Hp} {a : Addr} {cls : Value} {d : Option Addr} {B : Heap} {sI s : Shared} {Wo : WX} {D : Ends}
theorem InAir.now (F : InAir X pins σ H a cls d B sI s) : Inv X pins σ H s := F.inv.landed F.nb F.fl.1 F.up F.os F.bare
theorem InAir.on {h : Heap} (F : InAir X pins σ H a cls d B sI s) (fl : HandSPX.FlyingZ B (X.env :: X.outer) a (L2N.Zn cls d) h) (up : s.heap.UpToSlots h) : InAir X pins σ H a cls d B sI { s with heap := h } :=
  ⟨F.inv, F.nb, F.up.trans up, fl, F.na, F.os, F.bare⟩
theorem InAir.suite (F : InAir X pins σ H a cls d B sI s) (hf : X.env.frame = some X.env.locals) : ∃ oe vs, s.heap.get? a = some oe ∧ L2N.Zn cls d oe ∧ oe.data = .fields vs ∧ Inv (X.suite a ((a, oe) :: (X.pn ++ pins))) [] σ H s := by
  obtain ⟨oe, vs, he, hz, hd⟩ := F.fl.there
  have off : a ∉ frs (X.env :: X.outer) := fun m => by
    obtain ⟨_, o, eo, no⟩ := F.fl.2.2.1.mem m
    cases he.symm.trans eo
    exact no _ hd
  refine ⟨oe, vs, he, hz, hd, F.now.suite he hd F.na (fun z => off ?_) (fun m => off ?_)⟩
  · exact List.mem_filterMap.mpr ⟨X.env, List.mem_cons_self, by rw [hf, z]⟩
  · obtain ⟨e, he, q⟩ := List.mem_filterMap.mp m
    exact List.mem_filterMap.mpr ⟨e, List.mem_cons_of_mem _ he, q⟩
/-- no clause is left: it flies on -/
theorem InAir.out (F : InAir X pins σ H a cls d B sI s) (hs : X.stack = X.env :: X.outer) (hf : X.env.frame = some X.env.locals) (tk : L2.Takes X Wo) (w : Wo cls d σ H) : wpAny (model X.prog X.w) X.A (handleBy (.ref a) X.env []) (SP X pins D) X.xe s := by
  refine wpAny_handleBy_nil ?_
  obtain ⟨_, _, _, oe, vs, T, oT, ts, he, hz, hd, h1, _⟩ := id F.fl
  have last : wpAny (model X.prog X.w) X.A (setFlight (.ref a) X.env.frame) (fun _ s4 => wpAny (model X.prog X.w) X.A (throw (.ref a) : Sem Flow) (SP X pins D) X.xe s4) X.xe s := by
    rw [hf]
    refine HandSPX.setFlight_upZ (flyingZ_imp (fun _ z => L2N.Zn.zc z) F.fl) fun h4 hh up4 => wpAny_throw (tk _ _ ?_)
    exact ⟨a, B, sI, pins, σ, H, cls, d, rfl, F.inv, F.nb, F.up.trans up4, .inr (.inr (by rw [hs]; exact hh)), F.na, F.os, F.bare, w⟩
  unfold PySem.passOn
  refine wpAny_bind (wpAny_field he hd h1 ?_)
  rw [if_neg (by simp)]
  first
    | exact wpAny_bind (wpAny_pure (wpAny_bind last))
    | exact wpAny_bind last
/-- the clauses, one behind the other -/
theorem HdsX.run {hds : List ExceptHandler} {l : List (Value × (Addr → Value → Option Addr → TS))} (hh : HdsX X Wo hds l) (ok : X.Ok) (hs : X.stack = X.env :: X.outer) (hf : X.env.frame = some X.env.locals) (hpa : ∀ hd : Option Value, PassesOwnAt (model X.prog X.w) (X.A.mark hd) X.A X.env X.xe) (tk : L2.Takes X Wo)
    (F : InAir X pins σ H a cls d B sI s) (w : wMany X.K Wo D l cls d σ H) : wpAny (model X.prog X.w) X.A (handleBy (.ref a) X.env hds) (SP X pins D) X.xe s := by
  induction hh with
  | nil => exact F.out hs hf tk w
  | @cons x c ts b bs p1 p2 hds l hc suite more ih =>
    obtain ⟨y, hy, yes, no⟩ := w
    obtain ⟨oe, vs, he, hz, hd, S⟩ := F.suite hf
    refine wpAny_handleBy_cons (codeAny_handlers_test ?_) (by intro q; cases q)
    have T : PySem.W.Looks (model X.prog X.w) s.heap (typeOf (.ref a)) cls := fun A Q E s k q => wpAny_typeOf_ref (k _ _ he) (by rw [hz.1]; exact q)
    have named : ∀ {Q : Value → Shared → Prop} {E : Value → Shared → Prop}, Q c s → wpAny (model X.prog X.w) (X.A.mark (some (.ref a))) (eval (.Name x p1) X.env) Q E s := fun {Q E} q => by
      rcases hc with ⟨hg, hdb, hm | ⟨hm, hv, hn⟩⟩
      · exact ld_glob (X := X.suite a ((a, oe) :: (X.pn ++ pins))) S hg hm q hdb
      · exact ld_blt (X := X.suite a ((a, oe) :: (X.pn ++ pins))) S hg hm hv q hn hdb
    refine named ((PySem.W.exm_one (M := model X.prog X.w) F.now.kIn T hy).here ?_)
    cases y with
    | false => exact ih (no rfl)
    | true =>
      refine codeAny_handlers_suite (HandSPX.lands_againZ F.fl fun h4 fl4 up4 => ?_)
      obtain ⟨oe4, vs4, he4, hz4, hd4, S4⟩ := (F.on fl4 up4).suite hf
      have tkS : L2.Takes (suiteX X a ((a, oe4) :: (X.pn ++ pins))) Wo := fun u2 s2 ⟨a2, B2, sI2, pn2, σ2, H2, cls2, d2, e2, I2, r2⟩ => tk u2 s2 ⟨a2, B2, sI2, pins, σ2, H2, cls2, d2, e2, unsuiteX I2 ok, r2⟩
      have hot : HotC (suiteX X a ((a, oe4) :: (X.pn ++ pins))) := ⟨(a, oe4), ⟨rfl, vs4, hd4, hz4.2.2 vs4 hd4⟩, List.mem_cons_self⟩
      refine wpAny_mono ((suite a cls d _ tkS hot).run [] _ _ H _ (suiteX_of S4) (yes rfl a F.na)) (fun f s6 r => ?_) (fun e6 s6 z => hpa (some (.ref a)) e6 s6 z)
      cases f with
      | next => obtain ⟨_, _, S6, q⟩ := r; exact ⟨_, _, unsuiteX S6 ok, q⟩
      | brk => obtain ⟨_, _, S6, q⟩ := r; exact ⟨_, _, unsuiteX S6 ok, q⟩
      | cont => obtain ⟨_, _, S6, q⟩ := r; exact ⟨_, _, unsuiteX S6 ok, q⟩
      | ret u => obtain ⟨_, _, _, S6, rv, q⟩ := r; exact ⟨_, _, _, unsuiteX S6 ok, rv, q⟩
end
theorem ps_try_manyX {X : Cx} {body : List Stmt} {h₀ : ExceptHandler} {hds : List ExceptHandler} {l : List (Value × (Addr → Value → Option Addr → TS))} {pos : Pos} {tb : WX → TS} {Wo : WX} (hs : X.stack = X.env :: X.outer) (hf : X.env.frame = some X.env.locals)
    (hpa : ∀ hd : Option Value, PassesOwnAt (model X.prog X.w) (X.A.mark hd) X.A X.env X.xe) (tk : L2.Takes X Wo)
    (hb : ∀ (W : WX) (pn : List (Addr × Obj)) (xe : Value → Shared → Prop), L2N.Takes (X.tr pn xe) W → PassesOwn (model X.prog X.w) X.A X.env xe → PSs (X.tr pn xe) body (tb W)) (hh : HdsX X Wo (h₀ :: hds) l) :
    PS X (.Try body (h₀ :: hds) [] [] pos) (fun D σ H => tb (wMany X.K Wo D l) D σ H) := by
  refine ⟨fun pins s σ H D I h => wpAny_Try_except ?_⟩
  have ok := I.ok
  have fr : X.A.frames = some (X.env :: X.outer) := by rw [ok.frames, hs]
  refine wpAny_mono ((hb (wMany X.K Wo D l) (X.pn ++ pins) (fun e s₁ => wpAny (model X.prog X.w) X.A (noteFrame e X.env) (fun _ s₂ => wpAny (model X.prog X.w) X.A (setFlight e none) (fun _ s₃ =>
    wpAny (model X.prog X.w) X.A (handleBy e X.env (h₀ :: hds)) (SP X pins D) X.xe s₃) X.xe s₂) X.xe s₁) (fun u s' x => ?_) PassesOwn.looking).run [] s σ H D (I.toTry _) h) (fun f s1 r => ?_) (fun _ _ z => z)
  · obtain ⟨a, B, sI, _, σ1, H1, cls, d, rfl, J, nb, up, sky, na, os, bare, w⟩ := x
    have sky' : Sky B (X.env :: X.outer) a (L2N.Zn cls d) X.env.locals s'.heap := by rw [← hs]; exact sky
    refine L2N.Sky.land L2N.Zn.steady fr hf sky' fun h3 fl3 up3 => ?_
    exact hh.run (s := { s' with heap := h3 }) ok hs hf hpa tk ⟨J.ofTry ok, nb, up.trans up3, fl3, na, os, bare⟩ w
  · cases f with
    | next => obtain ⟨_, _, J, q⟩ := r; exact wpAny_execs_nil ⟨_, _, J.ofTry ok, q⟩
    | brk => obtain ⟨_, _, J, q⟩ := r; exact ⟨_, _, J.ofTry ok, q⟩
    | cont => obtain ⟨_, _, J, q⟩ := r; exact ⟨_, _, J.ofTry ok, q⟩
    | ret u => obtain ⟨_, _, _, J, rv, q⟩ := r; exact ⟨_, _, _, J.ofTry ok, rv, q⟩
end
/-! ### common: tests, errors, small words -/
theorem exm_self {K : PySem.W.Frag} {S : Addr} (h1 : PySem.W.subIn K (.ref S) (.type "BaseException") = some true) (h2 : PySem.W.isClsIn K S = true) (h3 : PySem.W.typeIn K (.ref S) = some (.type "type")) (h4 : PySem.W.subIn K (.ref S) (.ref S) = some true) :
    PySem.W.exmOne K (.ref S) (.ref S) = some true := by
  have g1 : (PySem.W.subIn K (.ref S) (.type "BaseException") == some true) = true := by rw [h1]; rfl
  have g0 : (PySem.W.clsIn K S).isSome = true := h2
  have g2 : ((PySem.W.clsIn K S).isSome && PySem.W.typeIn K (.ref S) == some (.type "type")) = true := by rw [g0, h3]; rfl
  show (if (PySem.W.subIn K (.ref S) (.type "BaseException") == some true) = true then (if ((PySem.W.clsIn K S).isSome && PySem.W.typeIn K (.ref S) == some (.type "type")) = true then PySem.W.subIn K (.ref S) (.ref S) else none) else none) = some true
  rw [if_pos g1, if_pos g2]
  exact h4
theorem exm_cross {K : PySem.W.Frag} {S R : Addr} {b : Bool} (h1 : PySem.W.subIn K (.ref S) (.type "BaseException") = some true) (h2 : PySem.W.isClsIn K S = true) (h3 : PySem.W.typeIn K (.ref S) = some (.type "type")) (h4 : PySem.W.subIn K (.ref R) (.ref S) = some b) :
    PySem.W.exmOne K (.ref R) (.ref S) = some b := by
  have g1 : (PySem.W.subIn K (.ref S) (.type "BaseException") == some true) = true := by rw [h1]; rfl
  have g0 : (PySem.W.clsIn K S).isSome = true := h2
  have g2 : ((PySem.W.clsIn K S).isSome && PySem.W.typeIn K (.ref S) == some (.type "type")) = true := by rw [g0, h3]; rfl
  show (if (PySem.W.subIn K (.ref S) (.type "BaseException") == some true) = true then (if ((PySem.W.clsIn K S).isSome && PySem.W.typeIn K (.ref S) == some (.type "type")) = true then PySem.W.subIn K (.ref R) (.ref S) else none) else none) = some b
  rw [if_pos g1, if_pos g2]
  exact h4
/-- the law's own promise -/
def sp_law (K : PySem.W.Frag) : Sp := fun vs H Q _ => ∃ (a : Addr) (ns : List Int), vs = [.ref a] ∧ SqL K H a (ns.map V.int) ∧ ns.length ≤ 63 ∧ ∀ H', Q (.bl true) H'
theorem iteP {p A B : Prop} [Decidable p] (h1 : p → A) (h2 : ¬ p → B) : if decide p = true then A else B := by
  by_cases h : p
  · rw [decide_eq_true h]; exact iteT (h1 h)
  · rw [decide_eq_false h]; exact iteF (h2 h)
theorem iteN {p A B : Prop} [Decidable p] (h1 : ¬ p → A) (h2 : p → B) : if (!decide p) = true then A else B := by
  by_cases h : p
  · rw [decide_eq_true h]; exact iteF (h2 h)
  · rw [decide_eq_false h]; exact iteT (h1 h)
theorem iteEq {i j : Int} {A B : Prop} (h1 : i = j → A) (h2 : i ≠ j → B) : if decide (V.int i = V.int j) = true then A else B :=
  iteP (fun h => h1 (V.int.inj h)) (fun h => h2 fun e => h (congrArg V.int e))
theorem iteNe {i j : Int} {A B : Prop} (h1 : i ≠ j → A) (h2 : i = j → B) : if (!decide (V.int i = V.int j)) = true then A else B :=
  iteN (fun h => h1 fun e => h (congrArg V.int e)) (fun h => h2 (V.int.inj h))
theorem if_t {b : Bool} {A B : Prop} (e : b = true) (h : A) : if b = true then A else B := by rw [if_pos e]; exact h
theorem if_f {b : Bool} {A B : Prop} (e : b = false) (h : B) : if b = true then A else B := by rw [e]; exact iteF h
theorem if_b {b : Bool} {A B : Prop} (h1 : b = true → A) (h2 : b = false → B) : if b = true then A else B := by
  cases b with
  | true => exact iteT (h1 rfl)
  | false => exact iteF (h2 rfl)
theorem same_upd {H : Hp} {p : Addr} {o : HO} (h : H p = none) : Same H (upd H p o) := fun b x e => by
  rw [upd_ne (ne_of_none e h)]
  exact e
theorem len_line {n : Nat} (h : n ≤ 100000) : n ≤ sizeLine := Nat.le_trans h (by decide)
theorem lt_line {n : Nat} (h : n < 100000) : n < sizeLine := Nat.lt_of_lt_of_le h (by decide)
local macro_rules | `(tactic| walk_at "rd") => `(tactic| repeat (first
  | refine ⟨_, rfl, ?_⟩
  | refine ⟨_, _, rfl, rfl, ?_⟩
  | refine ⟨rfl, ?_⟩
  | refine Or.inl ⟨_, rfl, ?_⟩
  | refine ⟨(by show (0 : Int) < _; decide), ?_⟩
  | refine ⟨(⟨by decide, by decide⟩ : CDiv _ _), ?_⟩
  | refine ⟨(Or.inl ⟨by decide, by decide⟩ : CMul _ _), ?_⟩
  | refine ⟨(Or.inr ⟨by decide, by decide⟩ : CMul _ _), ?_⟩))
/-! ### data that are compared -/
def Sh (n : Nat) (d : PyData) : Prop := d.canLay0 = true ∧ d.depth ≤ n
theorem Sh.mono {n m : Nat} {d : PyData} (h : Sh n d) (l : n ≤ m) : Sh m d := ⟨h.1, Nat.le_trans h.2 l⟩
theorem sh_all : ∀ {n : Nat} {ds : List PyData}, (∀ d ∈ ds, Sh n d) → PyData.canLayAll0 ds = true ∧ PyData.depthAll ds ≤ n
  | n, [], _ => ⟨by simp [PyData.canLayAll0], by simp [PyData.depthAll]⟩
  | n, d :: ds, h => by
    have h1 := h d List.mem_cons_self
    have h2 := sh_all fun e he => h e (List.mem_cons_of_mem _ he)
    refine ⟨?_, ?_⟩
    · simp only [PyData.canLayAll0, Bool.and_eq_true]; exact ⟨h1.1, h2.1⟩
    · simp only [PyData.depthAll]; exact Nat.max_le.mpr ⟨h1.2, h2.2⟩
theorem sh_list {n : Nat} {ds : List PyData} (h : ∀ d ∈ ds, Sh n d) : Sh (n + 1) (.list ds) := by
  have q := sh_all h
  exact ⟨by simp only [PyData.canLay0]; exact q.1, by simp only [PyData.depth]; exact Nat.succ_le_succ q.2⟩
theorem sh_tuple {n : Nat} {ds : List PyData} (h : ∀ d ∈ ds, Sh n d) : Sh (n + 1) (.tuple ds) := by
  have q := sh_all h
  exact ⟨by simp only [PyData.canLay0]; exact q.1, by simp only [PyData.depth]; exact Nat.succ_le_succ q.2⟩
theorem sh_int (i : Int) : Sh 0 (.int i) := ⟨by simp [PyData.canLay0], by simp [PyData.depth]⟩
theorem sh_bool (i : Bool) : Sh 0 (.bool i) := ⟨by simp [PyData.canLay0], by simp [PyData.depth]⟩
theorem sh_none : Sh 0 .none := ⟨by simp [PyData.canLay0], by simp [PyData.depth]⟩
theorem sh_str {s : Str} (h : PyData.strOk s = true) : Sh 0 (.str s) := ⟨by simp only [PyData.canLay0]; exact h, by simp [PyData.depth]⟩
theorem Sh.shaped {n : Nat} {d : PyData} (h : Sh n d) (l : n ≤ 64 := by decide) : SeqAt.shaped d = true := by
  show (d.canLay0 && decide (d.depth ≤ 64)) = true
  rw [h.1, decide_eq_true (Nat.le_trans h.2 l)]
  rfl
theorem Sh.self {n : Nat} {d : PyData} (h : Sh n d) : PyData.eqv d d = true := SeqAt.eqv_refl d h.1
def pInts (xs : List Int) : PyData := .list (xs.map PyData.int)
theorem sh_ints (xs : List Int) : Sh 1 (pInts xs) := sh_list fun d hd => by
  obtain ⟨i, _, rfl⟩ := List.mem_map.mp hd
  exact sh_int i
theorem dpall_ints {K : PySem.W.Frag} {H : Hp} : ∀ xs : List Int, DpAll K H (xs.map V.int) (xs.map PyData.int)
  | [] => .nil
  | x :: r => .cons (.int x) (dpall_ints r)
theorem dp_ints {K : PySem.W.Frag} {H : Hp} {p : Addr} {xs : List Int} (h : SqL K H p (xs.map V.int)) : Dp K H (.ref p) (pInts xs) := .lst h (dpall_ints xs)
/-! ### views: what is new, what stands -/
structure Ext (V H V' H' : Hp) : Prop where
  vv : Same V V'
  vh : Same V' H'
  hh : Same H H'
  nw : ∀ a, V' a ≠ none → V a ≠ none ∨ H a = none
theorem Ext.refl {V H : Hp} (h : Same V H) : Ext V H V H := ⟨Same.refl V, h, Same.refl H, fun _ h => Or.inl h⟩
theorem Ext.trans {V H V1 H1 V2 H2 : Hp} (a : Ext V H V1 H1) (b : Ext V1 H1 V2 H2) : Ext V H V2 H2 :=
  ⟨a.vv.trans b.vv, b.vh, a.hh.trans b.hh, fun x h => by
    rcases b.nw x h with q | q
    · exact a.nw x q
    · exact Or.inr (a.hh.free q)⟩
theorem none_of_same {V H : Hp} {p : Addr} (s : Same V H) (h : H p = none) : V p = none := s.free h
theorem Ext.new {V H : Hp} {p : Addr} {o : HO} (s : Same V H) (h : H p = none) : Ext V H (upd V p o) (upd H p o) :=
  ⟨same_upd (s.free h), fun b u e => by
    by_cases hb : b = p
    · subst hb; rw [upd_same] at e ⊢; exact e
    · rw [upd_ne hb] at e ⊢; exact s b u e, same_upd h, fun a e => by
    by_cases ha : a = p
    · subst ha; exact Or.inr h
    · rw [upd_ne ha] at e; exact Or.inl e⟩
/-- a new object that the view does not take in -/
theorem Ext.skip {V H : Hp} {p : Addr} {o : HO} (s : Same V H) (h : H p = none) : Ext V H V (upd H p o) :=
  ⟨Same.refl V, s.trans (same_upd h), same_upd h, fun _ e => Or.inl e⟩
theorem Ext.keepOut {V H V' H' : Hp} (x : Ext V H V' H') {D : Addr} (h : V D = none) (hd : H D ≠ none) : V' D = none := by
  cases e : V' D with
  | none => rfl
  | some o =>
    rcases x.nw D (by rw [e]; exact fun z => by cases z) with q | q
    · exact absurd h q
    · exact absurd q hd
/-- an object outside of the view changes -/
theorem Ext.poke {V H V' H' : Hp} (x : Ext V H V' H') {D : Addr} {o : HO} (hd : H D = none) (h : V' D = none) : Ext V H V' (upd H' D o) :=
  ⟨x.vv, fun b u e => by
    have hb : b ≠ D := fun z => by rw [z, h] at e; cases e
    rw [upd_ne hb]; exact x.vh b u e, fun b u e => by
    have hb : b ≠ D := ne_of_none e hd
    rw [upd_ne hb]; exact x.hh b u e, x.nw⟩
/-- the object at D, done, is taken in -/
theorem Ext.take {V H V' H' : Hp} (x : Ext V H V' H') {D : Addr} {o : HO} (hd : H D = none) (h : V' D = none) (e : H' D = some o) : Ext V H (upd V' D o) H' :=
  ⟨x.vv.trans (same_upd h), fun b u q => by
    by_cases hb : b = D
    · subst hb; rw [upd_same] at q; rw [e]; exact q
    · rw [upd_ne hb] at q; exact x.vh b u q, x.hh, fun a q => by
    by_cases ha : a = D
    · subst ha; exact Or.inr hd
    · rw [upd_ne ha] at q; exact x.nw a q⟩
theorem _root_.L2.Same.sqt {K : PySem.W.Frag} {H H' : Hp} {a : Addr} {xs : List V} (e : Same H H') (h : SqT K H a xs) : SqT K H' a xs := by
  rcases h with (h | ⟨o, h⟩) | h
  · exact .inl (.inl (e _ _ h))
  · exact .inl (.inr ⟨o, e _ _ h⟩)
  · exact .inr h
mutual
theorem dp_same {K : PySem.W.Frag} {H H' : Hp} (s : Same H H') : ∀ (d : PyData) (v : V), Dp K H v d → Dp K H' v d
  | .none, _, h => by cases h; exact .non
  | .bool b, _, h => by cases h; exact .bl b
  | .int i, _, h => by cases h; exact .int i
  | .str x, _, h => by cases h; exact .str x
  | .list ds, _, h => by
    cases h with
    | lst q r => exact .lst (s.seq q) (dpall_same s ds _ r)
  | .tuple ds, _, h => by
    cases h with
    | tup q r => exact .tup (s.sqt q) (dpall_same s ds _ r)
  | .dict _, _, h => by cases h
theorem dpall_same {K : PySem.W.Frag} {H H' : Hp} (s : Same H H') : ∀ (ds : List PyData) (vs : List V), DpAll K H vs ds → DpAll K H' vs ds
  | [], _, h => by cases h; exact .nil
  | d :: ds, _, h => by
    cases h with
    | cons q r => exact .cons (dp_same s d _ q) (dpall_same s ds _ r)
end
theorem _root_.L2.Dp.to {K : PySem.W.Frag} {H H' : Hp} {v : V} {d : PyData} (h : Dp K H v d) (s : Same H H') : Dp K H' v d := dp_same s d v h
theorem _root_.L2.DpAll.to {K : PySem.W.Frag} {H H' : Hp} {v : List V} {d : List PyData} (h : DpAll K H v d) (s : Same H H') : DpAll K H' v d := dpall_same s d v h
theorem dpall_len {K : PySem.W.Frag} {H : Hp} : ∀ {vs : List V} {ds : List PyData}, DpAll K H vs ds → vs.length = ds.length
  | _, [], h => by cases h; rfl
  | _, d :: ds, h => by
    cases h with
    | cons q r => exact congrArg (· + 1) (dpall_len r)
theorem dpall_get {K : PySem.W.Frag} {H : Hp} : ∀ {vs : List V} {ds : List PyData} {i : Nat} {v : V}, DpAll K H vs ds → vs[i]? = some v → ∃ d, ds[i]? = some d ∧ Dp K H v d
  | _, [], i, v, h, e => by cases h; cases e
  | _, d :: ds, i, v, h, e => by
    cases h with
    | cons q r =>
      match i, e with
      | 0, e => cases e; exact ⟨d, rfl, q⟩
      | i + 1, e => exact dpall_get (i := i) r e
theorem dpall_get' {K : PySem.W.Frag} {H : Hp} : ∀ {vs : List V} {ds : List PyData} {i : Nat} {d : PyData}, DpAll K H vs ds → ds[i]? = some d → ∃ v, vs[i]? = some v ∧ Dp K H v d
  | _, [], i, d, h, e => by cases e
  | _, d :: ds, i, d', h, e => by
    cases h with
    | cons q r =>
      match i, e with
      | 0, e => cases e; exact ⟨_, rfl, q⟩
      | i + 1, e => exact dpall_get' (i := i) r e
theorem dpall_app {K : PySem.W.Frag} {H : Hp} : ∀ {vs ws : List V} {ds es : List PyData}, DpAll K H vs ds → DpAll K H ws es → DpAll K H (vs ++ ws) (ds ++ es)
  | _, _, [], _, h, g => by cases h; exact g
  | _, _, d :: ds, _, h, g => by
    cases h with
    | cons q r => exact .cons q (dpall_app r g)
theorem dp_list {K : PySem.W.Frag} {H : Hp} {v : V} {ds : List PyData} (h : Dp K H v (.list ds)) : ∃ a xs, v = .ref a ∧ SqL K H a xs ∧ DpAll K H xs ds := by
  cases h with
  | lst q r => exact ⟨_, _, rfl, q, r⟩
theorem dp_tuple {K : PySem.W.Frag} {H : Hp} {v : V} {ds : List PyData} (h : Dp K H v (.tuple ds)) : ∃ a xs, v = .ref a ∧ SqT K H a xs ∧ DpAll K H xs ds := by
  cases h with
  | tup q r => exact ⟨_, _, rfl, q, r⟩
theorem dp_int {K : PySem.W.Frag} {H : Hp} {v : V} {i : Int} (h : Dp K H v (.int i)) : v = .int i := by cases h; rfl
theorem dp_str {K : PySem.W.Frag} {H : Hp} {v : V} {i : Str} (h : Dp K H v (.str i)) : v = .str i := by cases h; rfl
theorem dp_bool {K : PySem.W.Frag} {H : Hp} {v : V} {i : Bool} (h : Dp K H v (.bool i)) : v = .bl i := by cases h; rfl
/-! ### comprehensions over any walk -/
def fm {α : Type} (f : Nat → Option α) (n : Nat) : List α := (List.range n).filterMap f
theorem fm_succ {α : Type} (f : Nat → Option α) (n : Nat) : fm f (n + 1) = fm f n ++ (f n).toList := by
  unfold fm
  rw [List.range_succ, List.filterMap_append]
  congr 1
theorem fm_len {α : Type} (f : Nat → Option α) (n : Nat) : (fm f n).length ≤ n := by
  have h := List.length_filterMap_le f (List.range n)
  rw [List.length_range] at h
  exact h
structure LcInv (K : PySem.W.Frag) (V0 H0 : Hp) (D : Addr) (acc : List PyData) (H : Hp) : Prop where
  ex : ∃ V xs, Ext V0 H0 V H ∧ V D = none ∧ H D = some (.lst xs) ∧ DpAll K V xs acc
theorem LcInv.start {K : PySem.W.Frag} {V0 H0 : Hp} {D : Addr} (s : Same V0 H0) (hD : H0 D = none) : LcInv K V0 H0 D [] (upd H0 D (.lst [])) :=
  ⟨V0, [], Ext.skip s hD, s.free hD, upd_same, .nil⟩
theorem LcInv.done {K : PySem.W.Frag} {V0 H0 H : Hp} {D : Addr} {acc : List PyData} (hD : H0 D = none) (i : LcInv K V0 H0 D acc H) : ∃ U xs, Ext V0 H0 U H ∧ U D = some (.lst xs) ∧ DpAll K U xs acc ∧ Dp K U (.ref D) (.list acc) := by
  obtain ⟨V, xs, x, hv, hd, dp⟩ := i.ex
  exact ⟨_, xs, x.take hD hv hd, upd_same, dp.to (same_upd hv), .lst (SqL.of upd_same) (dp.to (same_upd hv))⟩
/-- one more item -/
theorem LcInv.push {K : PySem.W.Frag} {V0 H0 U H U' H' : Hp} {D : Addr} {acc : List PyData} {xs : List V} {y : V} {d : PyData} (hD : H0 D = none) (x : Ext V0 H0 U H) (hv : U D = none) (hd : H D = some (.lst xs)) (dp : DpAll K U xs acc)
    (x2 : Ext U H U' H') (e : Dp K U' y d) (hl : acc.length < 100000) :
    ∃ acc', H' D = some (.lst acc') ∧ acc'.length < sizeLine ∧ LcInv K V0 H0 D (acc ++ [d]) (upd H' D (.lst (acc' ++ [y]))) := by
  have hv' : U' D = none := x2.keepOut hv (by rw [hd]; exact fun z => by cases z)
  refine ⟨xs, x2.hh _ _ hd, lt_line (by rw [dpall_len dp]; exact hl), U', xs ++ [y], (x.trans x2).poke hD hv', hv', upd_same, dpall_app (dp.to x2.vv) (.cons e .nil)⟩
/-- a comprehension's reading over a walk that leaves the heap as it is: at turn i the item x, then f i: the data of what is put in, or none -/
theorem lc_dp0 {J : It} {n : Nat} {G : Hp → Prop} {Y : Nat → Hp → V → Hp → Prop} (wk : Walk J n G Y) {K : PySem.W.Frag} {V0 H0 : Hp} {D : Addr} {g : TG} {tt : TT} {te : TE} {vs : List Nat} {σ : St} {Qd : Hp → Prop} (f : Nat → Option PyData) (σ0 : St) (hσ : wipe σ vs = σ0) (s0 : Same V0 H0) (hD : H0 D = none) (hn : n < 100000)
    (hG : ∀ H, Same H0 H → G H) (hY : ∀ i H x H', Y i H x H' → H' = H)
    (hs : ∀ i x V H, i < n → Ext V0 H0 V H → Y i H x H → ∀ (Qy : VK) (Qn : Hp → Prop), (∀ d y V' H', f i = some d → Ext V H V' H' → Dp K V' y d → Qy y H') → (f i = none → ∀ V' H', Ext V H V' H' → Qn H') →
      g x σ0 H fun σ2 H2 => wipe σ2 vs = σ0 ∧ tt σ2 H2 fun b H3 => if b = true then te σ2 H3 Qy else Qn H3)
    (hd : ∀ (U H : Hp) (xs : List V), Ext V0 H0 U H → U D = none → H D = some (.lst xs) → DpAll K U xs (fm f n) → Qd H) :
    ∃ W : Nat → Nat → Hp → Prop, (∃ m, W 0 m (upd H0 D (.lst []))) ∧ ∀ i m H, W i m H →
      (J.stop i H ∧ Qd H) ∨ (J.go i H ∧ ∃ Nx : Hp → Prop, (∀ H', Nx H' → ∃ m', m' < m ∧ W (i + 1) m' H') ∧ ∀ x H', J.yld i H x H' → g x (wipe σ vs) H' fun σ2 H2 => wipe σ2 vs = wipe σ vs ∧ tt σ2 H2 fun b H3 =>
        if b = true then te σ2 H3 fun y H4 => ∃ acc, H4 D = some (.lst acc) ∧ acc.length < sizeLine ∧ Nx (upd H4 D (.lst (acc ++ [y]))) else Nx H3) := by
  subst hσ
  refine lc_it wk (fun i H => LcInv K V0 H0 D (fm f i) H) (LcInv.start s0 hD) (fun i H _ p => ?_) (fun i x H H' hi p y => ?_) (fun H p => ?_)
  · obtain ⟨V, xs, x, _⟩ := p.ex
    exact hG H x.hh
  · obtain ⟨V, xs, x0, hv, hdd, dp⟩ := p.ex
    obtain rfl := hY i H x H' y
    refine hs i x V H' hi x0 y _ _ (fun d y' V' H4 e x2 dy => ?_) (fun e V' H4 x2 => ?_)
    · have hl : (fm f i).length < 100000 := Nat.lt_of_le_of_lt (fm_len f i) (Nat.lt_trans hi hn)
      obtain ⟨acc', a1, a2, a3⟩ := LcInv.push hD x0 hv hdd dp x2 dy hl
      refine ⟨acc', a1, a2, ?_⟩
      rw [fm_succ, e]
      exact a3
    · have hv' : V' D = none := x2.keepOut hv (by rw [hdd]; exact fun z => by cases z)
      rw [fm_succ, e]
      show LcInv K V0 H0 D (fm f i ++ []) H4
      rw [List.append_nil]
      exact ⟨V', xs, x0.trans x2, hv', x2.hh _ _ hdd, dp.to x2.vv⟩
  · obtain ⟨U, xs, x, hv, hdd, dp⟩ := p.ex
    exact hd U H xs x hv hdd dp
/-- a comprehension's reading over a walk that leaves the heap as it is: at turn i the item x, then f i: the data of what is put in, or none -/
theorem lc_dp {J : It} {n : Nat} {G : Hp → Prop} {Y : Nat → Hp → V → Hp → Prop} (wk : Walk J n G Y) {K : PySem.W.Frag} {V0 H0 : Hp} {D : Addr} {g : TG} {tt : TT} {te : TE} {vs : List Nat} {σ : St} {Qd : Hp → Prop} (f : Nat → Option PyData) (σ0 : St) (hσ : wipe σ vs = σ0) (s0 : Same V0 H0) (hD : H0 D = none) (hn : n < 100000)
    (hG : ∀ H, Same H0 H → G H) (hY : ∀ i H x H', Y i H x H' → H' = H)
    (hs : ∀ i x V H, i < n → Ext V0 H0 V H → Y i H x H → ∀ (Qy : VK) (Qn : Hp → Prop), (∀ d y V' H', f i = some d → Ext V H V' H' → Dp K V' y d → Qy y H') → (f i = none → ∀ V' H', Ext V H V' H' → Qn H') →
      g x σ0 H fun σ2 H2 => wipe σ2 vs = σ0 ∧ tt σ2 H2 fun b H3 => if b = true then te σ2 H3 Qy else Qn H3)
    (hd : ∀ (U H : Hp) (xs : List V), Ext V0 H0 U H → U D = some (.lst xs) → DpAll K U xs (fm f n) → Dp K U (.ref D) (.list (fm f n)) → Qd H) :
    ∃ W : Nat → Nat → Hp → Prop, (∃ m, W 0 m (upd H0 D (.lst []))) ∧ ∀ i m H, W i m H →
      (J.stop i H ∧ Qd H) ∨ (J.go i H ∧ ∃ Nx : Hp → Prop, (∀ H', Nx H' → ∃ m', m' < m ∧ W (i + 1) m' H') ∧ ∀ x H', J.yld i H x H' → g x (wipe σ vs) H' fun σ2 H2 => wipe σ2 vs = wipe σ vs ∧ tt σ2 H2 fun b H3 =>
        if b = true then te σ2 H3 fun y H4 => ∃ acc, H4 D = some (.lst acc) ∧ acc.length < sizeLine ∧ Nx (upd H4 D (.lst (acc ++ [y]))) else Nx H3) := by
  refine lc_dp0 wk f σ0 hσ s0 hD hn hG hY hs fun U H xs x hv hdd dp => ?_
  exact hd _ H xs (x.take hD hv hdd) upd_same (dp.to (same_upd hv)) (.lst (SqL.of upd_same) (dp.to (same_upd hv)))
theorem fm_map {α β : Type} (f : α → β) : ∀ (xs : List α), fm (fun i => (xs[i]?).map f) xs.length = xs.map f := by
  intro xs
  have h : ∀ n, n ≤ xs.length → fm (fun i => (xs[i]?).map f) n = (xs.take n).map f := by
    intro n
    induction n with
    | zero => intro _; rfl
    | succ n ih =>
      intro hn
      rw [fm_succ, ih (by omega), List.getElem?_eq_getElem (by omega), List.take_succ_eq_append_getElem (by omega), List.map_append]
      rfl
  rw [h _ (Nat.le_refl _), List.take_length]

theorem lc2_outer {J : It} {n : Nat} {G : Hp → Prop} {Y : Nat → Hp → V → Hp → Prop} (wk : Walk J n G Y) {K : PySem.W.Frag} {V0 H0 : Hp} {D : Addr} {g : TG} {vs : List Nat} {σ : St} {body : St → Hp → (Hp → Prop) → Prop} {Qd : Hp → Prop} (F : Nat → List PyData) (σ0 : St) (hσ : wipe σ vs = σ0) (s0 : Same V0 H0) (hD : H0 D = none) (hF : F 0 = [])
    (hG : ∀ H, Same H0 H → G H) (hY : ∀ i H x H', Y i H x H' → H' = H)
    (hs : ∀ i x H, i < n → LcInv K V0 H0 D (F i) H → Y i H x H → ∀ Nx : Hp → Prop, (∀ H', LcInv K V0 H0 D (F (i + 1)) H' → Nx H') → g x σ0 H fun σ2 H2 => wipe σ2 vs = σ0 ∧ body σ2 H2 Nx)
    (hd : ∀ (U H : Hp) (xs : List V), Ext V0 H0 U H → U D = some (.lst xs) → DpAll K U xs (F n) → Dp K U (.ref D) (.list (F n)) → Qd H) :
    ∃ W : Nat → Nat → Hp → Prop, (∃ m, W 0 m (upd H0 D (.lst []))) ∧ ∀ i m H, W i m H →
      (J.stop i H ∧ Qd H) ∨ (J.go i H ∧ ∃ Nx : Hp → Prop, (∀ H', Nx H' → ∃ m', m' < m ∧ W (i + 1) m' H') ∧ ∀ x H', J.yld i H x H' → g x (wipe σ vs) H' fun σ2 H2 => wipe σ2 vs = wipe σ vs ∧ body σ2 H2 Nx) := by
  subst hσ
  refine ⟨fun i m H => m = n - i ∧ i ≤ n ∧ LcInv K V0 H0 D (F i) H, ⟨n, by simp, Nat.zero_le _, by rw [hF]; exact LcInv.start s0 hD⟩, ?_⟩
  rintro i m H ⟨rfl, hi, p⟩
  have sH : Same H0 H := by obtain ⟨_, _, x, _⟩ := p.ex; exact x.hh
  by_cases hlt : i < n
  · refine .inr ⟨wk.goes i H hlt (hG H sH), fun H' => LcInv K V0 H0 D (F (i + 1)) H', fun H' p' => ⟨n - (i + 1), by omega, rfl, hlt, p'⟩, fun x H' y => ?_⟩
    have y' := wk.yields i H x H' hlt (hG H sH) y
    obtain rfl := hY i H x H' y'
    exact hs i x H' hlt p y' _ fun _ h => h
  · have e : i = n := by omega
    subst e
    obtain ⟨U, xs, x, e1, e2, e3⟩ := p.done hD
    exact .inl ⟨wk.stops H (hG H sH), hd U H xs x e1 e2 e3⟩
theorem lc2_inner {J : It} {n : Nat} {G : Hp → Prop} {Y : Nat → Hp → V → Hp → Prop} (wk : Walk J n G Y) {K : PySem.W.Frag} {V0 H0 H4 : Hp} {D : Addr} {acc0 : List PyData} {g : TG} {tt : TT} {te : TE} {vs : List Nat} {σ : St} {Nx : Hp → Prop} (f : Nat → Option PyData) (σ0 : St) (hσ : wipe σ vs = σ0) (hD : H0 D = none)
    (inv : LcInv K V0 H0 D acc0 H4) (hn : acc0.length + n < 100000) (hG : ∀ H, Same H0 H → G H) (hY : ∀ i H x H', Y i H x H' → H' = H)
    (hs : ∀ i x V H, i < n → Ext V0 H0 V H → Y i H x H → ∀ (Qy : VK) (Qn : Hp → Prop), (∀ d y V' H', f i = some d → Ext V H V' H' → Dp K V' y d → Qy y H') → (f i = none → ∀ V' H', Ext V H V' H' → Qn H') →
      g x σ0 H fun σ2 H2 => wipe σ2 vs = σ0 ∧ tt σ2 H2 fun b H3 => if b = true then te σ2 H3 Qy else Qn H3)
    (hd : ∀ H, LcInv K V0 H0 D (acc0 ++ fm f n) H → Nx H) :
    ∃ W : Nat → Nat → Hp → Prop, (∃ m, W 0 m H4) ∧ ∀ i m H, W i m H →
      (J.stop i H ∧ Nx H) ∨ (J.go i H ∧ ∃ Nx1 : Hp → Prop, (∀ H', Nx1 H' → ∃ m', m' < m ∧ W (i + 1) m' H') ∧ ∀ x H', J.yld i H x H' → g x (wipe σ vs) H' fun σ2 H2 => wipe σ2 vs = wipe σ vs ∧ tt σ2 H2 fun b H3 =>
        if b = true then te σ2 H3 fun y H4 => ∃ acc, H4 D = some (.lst acc) ∧ acc.length < sizeLine ∧ Nx1 (upd H4 D (.lst (acc ++ [y]))) else Nx1 H3) := by
  subst hσ
  refine ⟨fun i m H => m = n - i ∧ i ≤ n ∧ LcInv K V0 H0 D (acc0 ++ fm f i) H, ⟨n, by simp, Nat.zero_le _, by rw [show fm f 0 = [] from rfl, List.append_nil]; exact inv⟩, ?_⟩
  rintro i m H ⟨rfl, hi, p⟩
  have sH : Same H0 H := by obtain ⟨_, _, x, _⟩ := p.ex; exact x.hh
  by_cases hlt : i < n
  · refine .inr ⟨wk.goes i H hlt (hG H sH), fun H' => LcInv K V0 H0 D (acc0 ++ fm f (i + 1)) H', fun H' p' => ⟨n - (i + 1), by omega, rfl, hlt, p'⟩, fun x H' y => ?_⟩
    have y' := wk.yields i H x H' hlt (hG H sH) y
    obtain rfl := hY i H x H' y'
    obtain ⟨V, xs, x0, hv, hdd, dp⟩ := p.ex
    refine hs i x V H' hlt x0 y' _ _ (fun d y' V' H4 e x2 dy => ?_) (fun e V' H4 x2 => ?_)
    · have hl : (acc0 ++ fm f i).length < 100000 := by have := fm_len f i; rw [List.length_append]; omega
      obtain ⟨acc', a1, a2, a3⟩ := LcInv.push hD x0 hv hdd dp x2 dy hl
      refine ⟨acc', a1, a2, ?_⟩
      rw [fm_succ, e, ← List.append_assoc]
      exact a3
    · have hv' : V' D = none := x2.keepOut hv (by rw [hdd]; exact fun z => by cases z)
      rw [fm_succ, e]
      show LcInv K V0 H0 D (acc0 ++ (fm f i ++ [])) H4
      rw [List.append_nil]
      exact ⟨V', xs, x0.trans x2, hv', x2.hh _ _ hdd, dp.to x2.vv⟩
  · have e : i = n := by omega
    subst e
    exact .inl ⟨wk.stops H (hG H sH), hd H p⟩
theorem fm_some {α : Type} (f : Nat → α) (n : Nat) : fm (fun i => some (f i)) n = (List.range n).map f := by
  induction n with
  | zero => rfl
  | succ n ih => rw [fm_succ, ih, List.range_succ, List.map_append]; rfl
theorem fl_take' {α : Type} {β : Type} (f : α → List β) : ∀ (xs : List α) (i : Nat) (x : α), xs[i]? = some x → (xs.take (i + 1)).flatMap f = (xs.take i).flatMap f ++ f x := by
  intro xs i x h
  obtain ⟨hi, e⟩ := List.getElem?_eq_some_iff.mp h
  rw [List.take_succ_eq_append_getElem hi, List.flatMap_append, e]
  show _ ++ (f x ++ []) = _
  rw [List.append_nil]
theorem fl_le' {α : Type} {β : Type} (f : α → List β) (xs : List α) (i : Nat) : ((xs.take i).flatMap f).length ≤ (xs.flatMap f).length := by
  have : xs.flatMap f = (xs.take i).flatMap f ++ (xs.drop i).flatMap f := by rw [← List.flatMap_append, List.take_append_drop]
  rw [this, List.length_append]; omega
/-! ### lists of ints, texts -/
theorem tyL {K : PySem.W.Frag} {H : Hp} {a : Addr} {xs : List V} (h : SqL K H a xs) : TyX K H (.ref a) (.type "list") := by
  rcases h with (h | ⟨o, h⟩) | ⟨o, its, n, h, c, _⟩
  · exact .base (.lst h)
  · exact .base (.frz h)
  · exact .kList h c
theorem tyT {K : PySem.W.Frag} {H : Hp} {a : Addr} {xs : List V} (h : SqT K H a xs) : TyX K H (.ref a) (.type "tuple") := by
  rcases h with (h | ⟨o, h⟩) | ⟨o, its, n, h, c, _⟩
  · exact .base (.tup h)
  · exact .fTuple h
  · exact .kTuple h c
theorem dp_intsV {K : PySem.W.Frag} {H : Hp} : ∀ {xs : List V} {is : List Int}, DpAll K H xs (is.map PyData.int) → xs = is.map V.int
  | _, [], r => by cases r; rfl
  | _, i :: is, r => by
    cases r with
    | cons r1 r2 => cases r1; rw [dp_intsV r2]; rfl
theorem dp_intsL {K : PySem.W.Frag} {H : Hp} {a : Addr} {is : List Int} (h : Dp K H (.ref a) (.list (is.map PyData.int))) : SqL K H a (is.map V.int) := by
  obtain ⟨a', xs, e, q, r⟩ := dp_list h
  cases e
  rw [← dp_intsV r]; exact q
theorem dp_strsV {K : PySem.W.Frag} {H : Hp} : ∀ {xs : List V} {is : List Str}, DpAll K H xs (is.map PyData.str) → xs = is.map V.str
  | _, [], r => by cases r; rfl
  | _, i :: is, r => by
    cases r with
    | cons r1 r2 => cases r1; rw [dp_strsV r2]; rfl
theorem dp_boolsV {K : PySem.W.Frag} {H : Hp} : ∀ {xs : List V} {is : List Bool}, DpAll K H xs (is.map PyData.bool) → xs = is.map V.bl
  | _, [], r => by cases r; rfl
  | _, i :: is, r => by
    cases r with
    | cons r1 r2 => cases r1; rw [dp_boolsV r2]; rfl
theorem dp_boolsL {K : PySem.W.Frag} {H : Hp} {a : Addr} {is : List Bool} (h : Dp K H (.ref a) (.list (is.map PyData.bool))) : SqL K H a (is.map V.bl) := by
  obtain ⟨a', xs, e, q, r⟩ := dp_list h
  cases e
  rw [← dp_boolsV r]; exact q
theorem size_eq (z : Str) : z.cps.size = z.cps.toList.length := by simp
theorem cps_at (z : Str) (i : Nat) : z.cps[i]? = z.cps.toList[i]? := by simp
theorem fm_list {α β : Type} (f : α → β) (xs : List α) (n : Nat) (h : n = xs.length) (g : Nat → Option β) (hg : ∀ i x, xs[i]? = some x → g i = some (f x)) : fm g n = xs.map f := by
  subst h
  rw [← fm_map f xs]
  unfold fm
  have : ∀ l : List Nat, (∀ i ∈ l, i < xs.length) → l.filterMap g = l.filterMap fun i => (xs[i]?).map f := by
    intro l
    induction l with
    | nil => intro _; rfl
    | cons i l ih =>
      intro hl
      have hi' := hl i List.mem_cons_self
      rw [List.filterMap_cons, List.filterMap_cons, hg i _ (List.getElem?_eq_getElem hi'), List.getElem?_eq_getElem hi', ih fun j hj => hl j (List.mem_cons_of_mem _ hj)]
      rfl
  exact this _ fun i hi => List.mem_range.mp hi
theorem rep_flat {α : Type} (v : α) : ∀ n : Nat, (List.replicate n [v]).flatten = List.replicate n v
  | 0 => rfl
  | n + 1 => by rw [List.replicate_succ, List.replicate_succ, List.flatten_cons, rep_flat v n]; rfl
/-- a list's object that is tracked, at p, new -/
structure NewL (H H' : Hp) (p : Addr) (xs : List V) : Prop where
  new : H p = none
  same : Same H H'
  at_ : H' p = some (.lst xs)
theorem NewL.ext {U H H' : Hp} {p : Addr} {xs : List V} (n : NewL H H' p xs) (s : Same U H) : Ext U H (upd U p (.lst xs)) H' :=
  ⟨same_upd (s.free n.new), fun b u e => by
    by_cases hb : b = p
    · subst hb; rw [upd_same] at e; rw [n.at_]; exact e
    · rw [upd_ne hb] at e; exact n.same _ _ (s b u e), n.same, fun a e => by
    by_cases ha : a = p
    · subst ha; exact Or.inr n.new
    · rw [upd_ne ha] at e; exact Or.inl e⟩
theorem str_app (x y : Str) : (x ++ y).cps.toList = x.cps.toList ++ y.cps.toList := Array.toList_append
theorem str_len_app (x y : Str) : (x ++ y).length = x.length + y.length := by
  show (x ++ y).cps.size = x.cps.size + y.cps.size
  rw [size_eq, str_app, List.length_append, ← size_eq, ← size_eq]
/-! ### _law_cell, _law_row -/
def lawCell (ns : List Int) (k : Nat) : Int :=
  let c := if 0 < ns.length then ns.getD (k % ns.length) 0 else 0
  if c < 0 then 1 - 2 * c else c
theorem lawCell_nn (ns : List Int) (k : Nat) : 0 ≤ lawCell ns k := by
  unfold lawCell
  simp only
  split <;> omega
def lawOne (c : Int) (k : Nat) : Int := (c * 48271 + (k : Int) * 69621 + 12345) % 2147483647
def lawTwo (o : Int) (k : Nat) : Int := (o * o + 16807 * (k : Int) + 7) % 2147483629
def lawRow (ns : List Int) (k : Nat) : Int :=
  if k < ns.length ∧ 1000000000 ≤ lawCell ns k then lawCell ns k
  else (lawTwo (lawOne (lawCell ns k) k) k * lawTwo (lawOne (lawCell ns k) k) k + lawOne (lawCell ns k) k) % 4294967291 + 4294967296 * (lawOne (lawCell ns k) k + 1)
theorem lawOne_b (c : Int) (k : Nat) : 0 ≤ lawOne c k ∧ lawOne c k < 2147483647 := by unfold lawOne; omega
theorem lawTwo_b (c : Int) (k : Nat) : 0 ≤ lawTwo c k ∧ lawTwo c k < 2147483629 := by
  unfold lawTwo
  generalize c * c + 16807 * (k : Int) + 7 = x
  omega
theorem lawRow_nn (ns : List Int) (k : Nat) : 0 ≤ lawRow ns k := by
  unfold lawRow
  have h1 := lawOne_b (lawCell ns k) k
  split
  · exact lawCell_nn ns k
  · generalize lawTwo (lawOne (lawCell ns k) k) k * lawTwo (lawOne (lawCell ns k) k) k + lawOne (lawCell ns k) k = x
    omega
def sp__law_cell (K : PySem.W.Frag) : Sp := fun vs H Q _ => ∃ (a : Addr) (ns : List Int) (k : Nat), vs = [.ref a, .int (k : Int)] ∧ SqL K H a (ns.map V.int) ∧ Q (.int (lawCell ns k)) H
theorem sc__law_cell : FnScope ["script", "k", "cell"] ["script", "k"] (defScope s__law_cell) := ⟨rfl, rfl, rfl, by decide +kernel, rfl, by decide +kernel, by decide +kernel⟩
theorem ok__law_cell (T : Txt0 P K mg A) : FnOk P w K mg base CX0 1 A.f_law_cell A.d_law_cell ["script", "k"] (sp__law_cell K) := by
  refine T.F_law_cell.ok sc__law_cell (fun vs H Q E h => ?_) (fun cdv Ar outer s H vs Q E hr h => ?_)
  · obtain ⟨a, ns, k, rfl, _⟩ := h
    rfl
  · obtain ⟨a, ns, k, rfl, hS, q⟩ := h
    refine ⟨_, (pss_cons (ps_set (i := 2) sc__law_cell.nd rfl (Or.inl rfl) pe_int)
      (pss_cons (ps_if (pt_cmpR op_gt (pe_callB call_len_seq (by rfl) T.len PySem.boot_len (pa_cons (pv 0) pa_nil)) pe_int (nomark _))
      (pss_one (ps_set (i := 2) sc__law_cell.nd rfl (Or.inl rfl) (pe_ix ix_list (pv 0) (pe_op op_mod (pe_callTy call_int1 (by rfl) T.int (by decide +kernel) (pa_cons (pv 1) pa_nil)) (pe_callB call_len_seq (by rfl) T.len PySem.boot_len (pa_cons (pv 0) pa_nil))) (fun _ _ => rfl))))
      pss_nil)
      (pss_cons (ps_if (pt_cmpR op_lt (pv 2) pe_int (nomark _))
      (pss_one (ps_set (i := 2) sc__law_cell.nd rfl (Or.inl rfl) (pe_op op_sub pe_int (pe_op op_mul pe_int (pv 2)))))
      pss_nil)
      (pss_one (ps_ret (pv 2)))))), ?_⟩
    have two : ∀ (c : Int), (if c < 0 then 1 - 2 * c else c) = lawCell ns k → tSeq (tIfS (tTest (tOp (rI0 fun i j => .bl (decide (i < j))) (tVar 2) (tC (.int 0)))) (tAsg (tOp (rI0 fun i j => .int (i - j)) (tC (.int 1)) (tOp (rI CMul fun i j => .int (i * j)) (tC (.int 2)) (tVar 2))) (gName 2)) tNext) (tRet (tVar 2))
        { nx := fun _ H' => Q .non H', rt := Q } [some (.ref a), some (.int (k : Int)), some (.int c)] H := by
      intro c hc
      walk_at "rd"
      refine iteP (fun h => ?_) (fun h => ?_)
      · rw [if_pos h] at hc
        walk_at "rd"
        rw [← hc] at q; exact q
      · rw [if_neg h] at hc
        walk_at "rd"
        rw [← hc] at q; exact q
    refine ⟨.ref a, rfl, a, _, rfl, .inl hS, _, _, rfl, rfl, _, rfl, iteP (fun h => ?_) (fun h => ?_)⟩
    · have h0 : 0 < ns.length := by rw [List.length_map] at h; omega
      refine ⟨_, rfl, _, rfl, Or.inl ⟨_, rfl, ?_⟩⟩
      refine ⟨_, rfl, a, _, rfl, .inl hS, _, _, rfl, rfl, by show (0 : Int) < _; omega, a, _, _, .int (ns.getD (k % ns.length) 0), rfl, rfl, hS, ?_, ?_⟩
      · refine at_of (j := k % ns.length) ?_ ?_
        · rw [List.length_map]; exact (Int.natCast_emod _ _).symm
        · rw [List.getElem?_map, List.getElem?_eq_getElem (Nat.mod_lt _ h0), List.getD_eq_getElem?_getD, List.getElem?_eq_getElem (Nat.mod_lt _ h0)]; rfl
      · refine two _ ?_
        unfold lawCell; rw [if_pos h0]
    · have h0 : ¬ 0 < ns.length := by rw [List.length_map] at h; omega
      refine two _ ?_
      unfold lawCell; rw [if_neg h0]
def sp__law_row (K : PySem.W.Frag) : Sp := fun vs H Q _ => ∃ (a : Addr) (ns : List Int) (k : Nat), vs = [.ref a, .int (k : Int)] ∧ SqL K H a (ns.map V.int) ∧ Q (.int (lawRow ns k)) H
theorem sc__law_row : FnScope ["script", "k", "cell", "one", "two"] ["script", "k"] (defScope s__law_row) := ⟨rfl, rfl, rfl, by decide +kernel, rfl, by decide +kernel, by decide +kernel⟩
theorem ok__law_row (T : Txt0 P K mg A) : FnOk P w K mg base CX0 2 A.f_law_row A.d_law_row ["script", "k"] (sp__law_row K) := by
  refine T.F_law_row.ok sc__law_row (fun vs H Q E h => ?_) (fun cdv Ar outer s H vs Q E hr h => ?_)
  · obtain ⟨a, ns, k, rfl, _⟩ := h
    rfl
  · obtain ⟨a, ns, k, rfl, hS, q⟩ := h
    refine ⟨_, (pss_cons (ps_set (i := 2) sc__law_row.nd rfl (Or.inl rfl) (pe_call (ok__law_cell T) (hr.mono (by decide)) rfl T.g_law_cell T.k_law_cell T.b_law_cell .nil pass0 (pa_cons (pv 0) (pa_cons (pv 1) pa_nil))))
      (pss_cons (ps_if (PW.pt (pw_and (pt_cmpR op_lt (pv 1) (pe_callB call_len_seq (by rfl) T.len PySem.boot_len (pa_cons (pv 0) pa_nil)) (nomark _)) (pw_and1 (pt_cmpR op_ge (pv 2) pe_int (nomark _)))))
      (pss_one (ps_ret (pv 2)))
      pss_nil)
      (pss_cons (ps_set (i := 3) sc__law_row.nd rfl (Or.inl rfl) (pe_op op_mod (pe_callTy call_int1 (by rfl) T.int (by decide +kernel) (pa_cons (pe_op op_add (pe_op op_add (pe_op op_mul (pv 2) pe_int) (pe_op op_mul (pv 1) pe_int)) pe_int) pa_nil)) pe_int))
      (pss_cons (ps_set (i := 4) sc__law_row.nd rfl (Or.inl rfl) (pe_op op_mod (pe_callTy call_int1 (by rfl) T.int (by decide +kernel) (pa_cons (pe_op op_add (pe_op op_add (pe_op op_mul (pv 3) (pv 3)) (pe_op op_mul pe_int (pv 1))) pe_int) pa_nil)) pe_int))
      (pss_one (ps_ret (pe_op op_add (pe_op op_mod (pe_callTy call_int1 (by rfl) T.int (by decide +kernel) (pa_cons (pe_op op_add (pe_op op_mul (pv 4) (pv 4)) (pv 3)) pa_nil)) pe_int) (pe_op op_mul pe_int (pe_op op_add (pv 3) pe_int))))))))), ?_⟩
    have b1 := lawOne_b (lawCell ns k) k
    have b2 := lawTwo_b (lawOne (lawCell ns k) k) k
    have m1 : CMul (lawOne (lawCell ns k) k) (lawOne (lawCell ns k) k) := Or.inl ⟨by omega, by omega⟩
    have m2 : CMul (lawTwo (lawOne (lawCell ns k) k) k) (lawTwo (lawOne (lawCell ns k) k) k) := Or.inl ⟨by omega, by omega⟩
    refine ⟨_, rfl, _, rfl, a, ns, k, rfl, hS, ?_⟩
    refine ⟨_, rfl, _, rfl, a, _, rfl, .inl hS, _, _, rfl, rfl, _, rfl, ?_⟩
    refine iteP (fun h => ?_) (fun h => ?_)
    · refine ⟨_, rfl, _, _, rfl, rfl, _, rfl, iteP (fun h2 => ?_) (fun h2 => ?_)⟩
      · have e : lawRow ns k = lawCell ns k := by unfold lawRow; rw [if_pos ⟨by rw [List.length_map] at h; omega, h2⟩]
        rw [e] at q
        exact ⟨_, rfl, q⟩
      · unfold lawRow at q
        rw [if_neg fun z => h2 z.2] at q
        walk_at "rd"
        refine ⟨m1, ?_⟩
        walk_at "rd"
        refine ⟨m2, ?_⟩
        walk_at "rd"
        exact q
    · unfold lawRow at q
      rw [if_neg fun z => h (by rw [List.length_map]; omega)] at q
      walk_at "rd"
      refine ⟨m1, ?_⟩
      walk_at "rd"
      refine ⟨m2, ?_⟩
      walk_at "rd"
      exact q
/-! ### a word that goes on by itself -/
theorem iteVP {p A B : Prop} [Decidable p] (h1 : p → A) (h2 : ¬ p → B) : if p then A else B := by
  by_cases h : p
  · rw [if_pos h]; exact h1 h
  · rw [if_neg h]; exact h2 h
/-- a new tuple is handed back -/
def RetT (H : Hp) (Q : VK) (xs : List V) : Prop := ∀ p H', Same H H' → H' p = some (.tup xs) → Q (.ref p) H'
theorem RetT.go {H : Hp} {Q : VK} {xs : List V} (h : ∀ p H', Same H H' → H' p = some (.tup xs) → Q (.ref p) H') : RetT H Q xs := h
theorem ne_self {d e : PyData} {A B : Prop} (hs : SeqAt.shaped d = true) (h : d = e) (hB : B) : if (!PyData.eqv d e) = true then A else B := by
  subst h
  have h2 : (d.canLay0 && decide (d.depth ≤ 64)) = true := hs
  have : PyData.eqv d d = true := SeqAt.eqv_refl d (by rw [Bool.and_eq_true] at h2; exact h2.1)
  rw [this]
  exact iteF hB
theorem eq_self {d e : PyData} {A B : Prop} (hs : SeqAt.shaped d = true) (h : d = e) (hA : A) : if PyData.eqv d e = true then A else B := by
  subst h
  have h2 : (d.canLay0 && decide (d.depth ≤ 64)) = true := hs
  have : PyData.eqv d d = true := SeqAt.eqv_refl d (by rw [Bool.and_eq_true] at h2; exact h2.1)
  rw [this]
  exact iteT hA
theorem t_ne {K : PySem.W.Frag} {x y : V} {H : Hp} {Q : VK} {d e : PyData} (h1 : Dp K H x d) (h2 : Dp K H y e) (s1 : SeqAt.shaped d = true) (s2 : SeqAt.shaped e = true) (q : Q (.bl (!PyData.eqv d e)) H) : rNeD K x y H Q := ⟨d, e, h1, h2, s1, s2, q⟩
theorem t_eq {K : PySem.W.Frag} {x y : V} {H : Hp} {Q : VK} {d e : PyData} (h1 : Dp K H x d) (h2 : Dp K H y e) (s1 : SeqAt.shaped d = true) (s2 : SeqAt.shaped e = true) (q : Q (.bl (PyData.eqv d e)) H) : rEqD K x y H Q := ⟨d, e, h1, h2, s1, s2, q⟩
/-! words that go on by themselves -/
local macro_rules | `(tactic| walk_at "sq") => `(tactic| first
  | exact SqT.of upd_same
  | exact SqL.of upd_same
  | assumption
  | exact SqT.of (by assumption)
  | exact SqL.of (by assumption)
  | (apply Same.sqt (same_upd (by assumption)); walk_at "sq")
  | (apply Same.seq (same_upd (by assumption)); walk_at "sq")
  | (apply Same.sqt (by assumption); walk_at "sq")
  | (apply Same.seq (by assumption); walk_at "sq"))
local macro_rules | `(tactic| walk_at "sm") => `(tactic| first
  | exact Same.refl _
  | assumption
  | (apply Same.trans _ (same_upd (by assumption)); walk_at "sm")
  | (apply Same.trans _ (by assumption); walk_at "sm"))
local macro_rules | `(tactic| walk_at "at") => `(tactic| first
  | exact atI_nat (j := 0) rfl
  | exact atI_nat (j := 1) rfl
  | exact atI_nat (j := 2) rfl
  | exact atI_nat (j := 3) rfl
  | exact atI_nat (j := 4) rfl
  | exact atI_nat (j := 5) rfl)
local macro_rules | `(tactic| walk_at "go1") => `(tactic| first
  | refine ⟨_, rfl, ?_⟩
  | refine ⟨_, _, rfl, rfl, ?_⟩
  | refine ⟨rfl, ?_⟩
  | refine Or.inl ⟨_, rfl, ?_⟩
  | refine ⟨(by show (0 : Int) < _; decide), ?_⟩
  | refine ⟨(⟨by decide, by decide⟩ : CDiv _ _), ?_⟩
  | refine ⟨(Or.inl ⟨by decide, by decide⟩ : CMul _ _), ?_⟩
  | refine ⟨(Or.inr ⟨by decide, by decide⟩ : CMul _ _), ?_⟩
  | refine ⟨_, _, rfl, ?_⟩
  | refine ⟨_, _, _, rfl, ?_⟩
  | refine ⟨_, _, _, _, rfl, ?_⟩
  | (refine And.intro (a := (0 : Int) ≤ _) ?_ ?_; focus omega)
  | (refine And.intro (a := _ ≤ sizeLine) ?_ (fun p hp => ?_); (focus (exact len_line (Nat.le_of_ble_eq_true rfl))))
  | refine RetT.go (fun p H' s e => ?_)
  | refine if_t rfl ?_
  | refine if_f rfl ?_
  | refine ⟨_, _, rfl, (by walk_at "sq"), rfl, ?_⟩
  | refine ⟨_, _, rfl, Or.inl (by walk_at "sq"), ?_⟩
  | refine ⟨_, _, rfl, Or.inr (by walk_at "sq"), ?_⟩
  | refine ⟨_, _, _, _, rfl, rfl, (by walk_at "sq"), (by walk_at "at"), ?_⟩
  | refine ⟨_, _, rfl, (by walk_at "sq"), (by show ¬(HT.sIx 4 0 (some 2) = 0 ∧ HT.sIx 4 4 none = 4); decide), fun p hp => ?_⟩
  | refine ⟨_, _, _, _, rfl, rfl, (by walk_at "sq"), (by walk_at "sq"), (by intro h; cases h), len_line (Nat.le_of_ble_eq_true rfl), (fun h => by cases h), fun _ p hp => ?_⟩)
local macro_rules | `(tactic| walk_at "go") => `(tactic| repeat walk_at "go1")
local macro_rules | `(tactic| walk_at "dps") => `(tactic| first
  | exact DpAll.nil
  | (apply DpAll.cons; (focus (walk_at "dp")); (focus (walk_at "dps"))))
local macro_rules | `(tactic| walk_at "dp") => `(tactic| first
  | exact Dp.int _
  | exact Dp.bl _
  | exact Dp.str _
  | exact Dp.non
  | (apply Dp.tup; (focus (walk_at "sq")); (focus (walk_at "dps")))
  | (apply Dp.lst; (focus (walk_at "sq")); (focus (walk_at "dps"))))
local macro_rules | `(tactic| walk_at "sh") => `(tactic| (show (PyData.canLay0 _ && decide (PyData.depth _ ≤ 64)) = true; simp [PyData.canLay0, PyData.canLayAll0, PyData.depth, PyData.depthAll]))
/-- a deep comparison: what is left is the if -/
local macro_rules | `(tactic| walk_at "ne") => `(tactic| (apply t_ne; (focus (walk_at "dp")); (focus (walk_at "dp")); (focus (walk_at "sh")); (focus (walk_at "sh")); refine ⟨_, rfl, ?_⟩))
local macro_rules | `(tactic| walk_at "neS") => `(tactic| (walk_at "ne"; refine ne_self ?_ ?_ ?_; (focus (walk_at "sh"))))
/-! ### more words -/
local macro_rules | `(tactic| walk_at "go2") => `(tactic| first
  | walk_at "go1"
  | refine ⟨(⟨by omega, by omega⟩ : CDiv _ _), ?_⟩
  | refine ⟨(Or.inl ⟨by omega, by omega⟩ : CMul _ _), ?_⟩
  | refine ⟨(Or.inr ⟨by omega, by omega⟩ : CMul _ _), ?_⟩
  | refine ⟨(by show (0 : Int) < _; omega), ?_⟩)
local macro_rules | `(tactic| walk_at "gx") => `(tactic| repeat walk_at "go2")
/-! ### is_integer, number_octets -/
def sp_is_integer (K : PySem.W.Frag) : Sp := fun vs H Q _ => ∃ (i lo hi : Int), vs = [.int i, .int lo, .int hi] ∧ Q (.bl (decide (lo ≤ i ∧ i ≤ hi))) H
theorem sc_is_integer : FnScope ["value", "least", "greatest"] ["value", "least", "greatest"] (defScope s_is_integer) := ⟨rfl, rfl, rfl, by decide +kernel, rfl, by decide +kernel, by decide +kernel⟩
theorem ok_is_integer (T : Txt0 P K mg A) : FnOk P w K mg base CX0 1 A.fis_integer A.dis_integer ["value", "least", "greatest"] (sp_is_integer K) := by
  refine T.Fis_integer.ok sc_is_integer (fun vs H Q E h => ?_) (fun cdv Ar outer s H vs Q E hr h => ?_)
  · obtain ⟨i, lo, hi, rfl, _⟩ := h
    rfl
  · obtain ⟨i, lo, hi, rfl, q⟩ := h
    refine ⟨_, (pss_one (ps_ret (pe_and (pe_callB call_isi (by rfl) T.isinstance (by decide +kernel) (pa_cons (pv 0) (pa_cons (pe_bltn (v := .ty "int") (by rfl) T.int (by decide +kernel) rfl) pa_nil))) (pe_and (pe_not (pe_callB call_isi (by rfl) T.isinstance (by decide +kernel) (pa_cons (pv 0) (pa_cons (pe_bltn (v := .ty "bool") (by rfl) T.bool (by decide +kernel) rfl) pa_nil)))) (pe_one (pe_chain op_le op_le (pv 1) (pv 0) (pv 2))))))), ?_⟩
    refine ⟨_, rfl, .int i, .ty "int", .type "int", .type "int", true, rfl, .ty _, .base (.int _), kit_ty (by decide +kernel), _, rfl, iteT ?_⟩
    refine ⟨_, rfl, .int i, .ty "bool", .type "int", .type "bool", false, rfl, .ty _, .base (.int _), kit_ty (by decide +kernel), _, rfl, _, rfl, iteT ?_⟩
    refine ⟨_, rfl, _, rfl, _, _, rfl, rfl, _, rfl, iteP (fun h => ?_) (fun h => ?_)⟩
    · refine ⟨_, rfl, _, _, rfl, rfl, ?_⟩
      have e : decide (lo ≤ i ∧ i ≤ hi) = decide (i ≤ hi) := by
        by_cases c : i ≤ hi
        · rw [decide_eq_true c, decide_eq_true ⟨h, c⟩]
        · rw [decide_eq_false c, decide_eq_false fun z => c z.2]
      rw [e] at q
      exact q
    · rw [decide_eq_false fun z => h z.1] at q
      exact q
def octs (n : Int) (c : Nat) : List Int := (List.range c).map fun k => n / 2 ^ (8 * k) % 256
theorem octs_len (n : Int) (c : Nat) : (octs n c).length = c := by unfold octs; rw [List.length_map, List.length_range]
theorem octs_succ (n : Int) (c : Nat) : octs n (c + 1) = octs n c ++ [n / 2 ^ (8 * c) % 256] := by
  unfold octs; rw [List.range_succ, List.map_append]; rfl
theorem and255 {x : Int} (h : 0 ≤ x) : Builtin.bitAnd x 255 = x % 256 := Bits.bitAnd_mask 8 h
/-- number_octets(n, c), n not negative, c small: a new list -/
def sp_number_octets (K : PySem.W.Frag) : Sp := fun vs H Q _ => ∃ (n : Int) (c : Nat), vs = [.int n, .int (c : Int)] ∧ 0 ≤ n ∧ c ≤ 1000 ∧
  ∀ p H', H p = none → Same H H' → H' p = some (.lst ((octs n c).map V.int)) → Q (.ref p) H'
theorem sc_number_octets : FnScope ["number", "count", "place"] ["number", "count"] (defScope s_number_octets) := ⟨rfl, rfl, rfl, by decide +kernel, rfl, by decide +kernel, by decide +kernel⟩
theorem ok_number_octets (T : Txt0 P K mg A) : FnOk P w K mg base CX0 1 A.fnumber_octets A.dnumber_octets ["number", "count"] (sp_number_octets K) := by
  refine T.Fnumber_octets.ok sc_number_octets (fun vs H Q E h => ?_) (fun cdv Ar outer s H vs Q E hr h => ?_)
  · obtain ⟨n, c, rfl, _⟩ := h
    rfl
  · obtain ⟨n, c, rfl, hn, hc, q⟩ := h
    refine ⟨_, (pss_one (ps_ret (pe_lc (own := [("place", 2)]) (g := gName 2) (tt := tYes) rfl sc_number_octets.nd (pi_range1 (by rfl) T.range (pa_cons (pv 1) pa_nil)) (blkOk_by (own := [("place", 2)]) (N := ["number", "count", "place"]) (sc := defScope s_number_octets) (by decide +kernel)) (fun _ _ _ _ _ => (pg_name (i := 2) sc_number_octets.nd rfl (Or.inl rfl))) (fun _ _ _ _ _ => pts_nil) (fun _ _ _ _ _ => (pe_op op_and (pe_op op_shr (pv 0) (pe_op op_mul pe_int (pv 2))) pe_int))))), ?_⟩
    refine ⟨_, rfl, (c : Int), rfl, by omega, by omega, fun D hD => ?_⟩
    refine lc_range (lo := 0) (n := ((c : Int)).toNat) (fun i H' => Same H H' ∧ H' D = some (.lst ((octs n i).map V.int))) ⟨same_upd hD, upd_same⟩ ?_ ?_
    · rintro i H1 hi ⟨hs, he⟩
      refine ⟨rfl, _, rfl, _, rfl, _, _, rfl, rfl, Or.inl ⟨by decide, by decide⟩, _, _, rfl, rfl, by show (0 : Int) ≤ _; omega, _, _, rfl, rfl, _, he, ?_, ?_, ?_⟩
      · rw [List.length_map, octs_len]; exact lt_line (by omega)
      · intro b o e
        rw [upd_ne (fun z => by rw [z, hD] at e; cases e)]
        exact hs b o e
      · rw [upd_same, octs_succ, List.map_append]
        have e1 : (8 * (0 + (i : Int))).toNat = 8 * i := by omega
        have e2 : Builtin.bitAnd (n / 2 ^ (8 * (0 + (i : Int))).toNat) 255 = n / 2 ^ (8 * i) % 256 := by
          rw [e1, and255 (Int.ediv_nonneg hn (Int.le_of_lt (Int.pow_pos (by decide))))]
        dsimp only
        rw [e2]
        rfl
    · rintro H1 ⟨hs, he⟩
      rw [show ((c : Int)).toNat = c by omega] at he
      exact q D H1 hD hs he
/-! ### is_text, _padded, _text_octets -/
def codeOk (c : Int) : Bool := decide (32 ≤ c ∧ c ≤ 126 ∧ c ≠ 37)
def isText (s : Str) : Bool := decide ((s.length : Int) ≤ 1000) && s.cps.toList.all (fun c : Nat => codeOk (c : Int))
def codesOf (s : Str) : List Int := s.cps.toList.map fun c : Nat => (c : Int)
def padN (n : Nat) : Nat := (-(n : Int) % 4).toNat
def pad (xs : List Int) : List Int := xs ++ List.replicate (padN xs.length) 0
theorem padN_lt (n : Nat) : padN n < 4 := by unfold padN; omega
theorem pad_len (xs : List Int) : (pad xs).length = xs.length + padN xs.length := by unfold pad; rw [List.length_append, List.length_replicate]
def textOcts (s : Str) : List Int := pad (octs (s.length + 1 : Int) 4 ++ codesOf s ++ [0])
theorem codesOf_len (z : Str) : (codesOf z).length = z.length := by unfold codesOf; rw [List.length_map]; exact (size_eq z).symm
theorem textOcts_len (z : Str) : (textOcts z).length ≤ z.length + 8 := by
  unfold textOcts
  rw [pad_len, List.length_append, List.length_append, octs_len, codesOf_len]
  have := padN_lt (4 + z.length + [(0 : Int)].length)
  show 4 + z.length + 1 + padN (4 + z.length + 1) ≤ _
  have h : padN (4 + z.length + 1) < 4 := padN_lt _
  omega
def sp__is_code (K : PySem.W.Frag) : Sp := fun vs H Q _ => ∃ (c : Int), vs = [.int c] ∧ Q (.bl (codeOk c)) H
theorem sc__is_code : FnScope ["code"] ["code"] (defScope s__is_code) := ⟨rfl, rfl, rfl, by decide +kernel, rfl, by decide +kernel, by decide +kernel⟩
theorem ok__is_code (T : Txt0 P K mg A) : FnOk P w K mg base CX0 1 A.f_is_code A.d_is_code ["code"] (sp__is_code K) := by
  refine T.F_is_code.ok sc__is_code (fun vs H Q E h => ?_) (fun cdv Ar outer s H vs Q E hr h => ?_)
  · obtain ⟨c, rfl, _⟩ := h
    rfl
  · obtain ⟨c, rfl, q⟩ := h
    refine ⟨_, (pss_one (ps_ret (pe_and (pe_chain op_le op_le (pe_glob (v := .int (32)) rfl T.g_FIRST_CODE ⟨_, rfl⟩) (pv 0) (pe_glob (v := .int (126)) rfl T.g_LAST_CODE ⟨_, rfl⟩)) (pe_one (pe_cmpR op_ne (pv 0) (pe_glob (v := .int (37)) rfl T.g_PERCENT_CODE ⟨_, rfl⟩) (nomark _)))))), ?_⟩
    unfold codeOk at q
    refine ⟨_, rfl, _, _, rfl, rfl, _, rfl, iteP (fun h1 => ?_) (fun h1 => ?_)⟩
    · refine ⟨_, _, rfl, rfl, ?_⟩
      by_cases h2 : c ≤ 126
      · refine ⟨_, rfl, if_t (decide_eq_true h2) ⟨_, rfl, rfl, ?_⟩⟩
        by_cases h3 : c = 37
        · rw [decide_eq_false fun z => z.2.2 h3] at q
          rw [decide_eq_true (by rw [h3])]; exact q
        · rw [decide_eq_true ⟨h1, h2, h3⟩] at q
          rw [decide_eq_false fun z => h3 (V.int.inj z)]; exact q
      · refine ⟨_, rfl, if_f (decide_eq_false h2) ?_⟩
        rw [decide_eq_false fun z => h2 z.2.1] at q
        exact q
    · refine ⟨_, rfl, if_f rfl ?_⟩
      rw [decide_eq_false fun z => h1 z.1] at q; exact q
def sp_is_text (K : PySem.W.Frag) : Sp := fun vs H Q _ => ∃ (s : Str), vs = [.str s] ∧ s.length < 100000 ∧ ∀ H', Same H H' → Q (.bl (isText s)) H'
theorem sc_is_text : FnScope ["value", "character"] ["value"] (defScope s_is_text) := ⟨rfl, rfl, rfl, by decide +kernel, rfl, by decide +kernel, by decide +kernel⟩
theorem ok_is_text (T : Txt0 P K mg A) : FnOk P w K mg base CX0 2 A.fis_text A.dis_text ["value"] (sp_is_text K) := by
  refine T.Fis_text.ok sc_is_text (fun vs H Q E h => ?_) (fun cdv Ar outer s H vs Q E hr h => ?_)
  · obtain ⟨c, rfl, _⟩ := h
    rfl
  · obtain ⟨z, rfl, hl, q⟩ := h
    refine ⟨_, (pss_one (ps_ret (pe_and (pe_cmpR op_le (pe_callB call_len_str (by rfl) T.len PySem.boot_len (pa_cons (pv 0) pa_nil)) (pe_glob (v := .int (1000)) rfl T.gLONGEST_TEXT ⟨_, rfl⟩) (nomark _)) (pe_one (pe_callB (cr_all rfl) (by rfl) T.all (by decide +kernel) (pa_cons (pe_lc (own := [("character", 1)]) (g := (gName 1)) (tt := tYes) rfl sc_is_text.nd (pi_str (pv 0)) (blkOk_by (own := [("character", 1)]) (N := ["value", "character"]) (sc := defScope s_is_text) (by decide +kernel)) (fun _ _ _ _ _ => (pg_name (i := 1) sc_is_text.nd rfl (Or.inl rfl))) (fun _ _ _ _ _ => pts_nil) (fun _ _ _ _ _ => by exact (pe_call (ok__is_code T) (hr.mono (by decide)) rfl T.g_is_code T.k_is_code T.b_is_code .nil pass0 (pa_cons (pe_callB call_ord (by rfl) T.ord (by decide +kernel) (pa_cons (pv 1) pa_nil)) pa_nil)))) pa_nil)))))), ?_⟩
    refine ⟨_, rfl, z, rfl, len_line (Nat.le_of_lt hl), _, _, rfl, rfl, _, rfl, iteP (fun h1 => ?_) (fun h1 => ?_)⟩
    · refine ⟨_, rfl, z, rfl, fun D hD => ?_⟩
      refine lc_dp (walk_str (z := z)) (K := K) (V0 := H) (H0 := H) (fun i => (z.cps[i]?).map fun c : Nat => PyData.bool (codeOk (c : Int))) [some (.str z), none] rfl (Same.refl _) hD (by show z.length < 100000; exact hl) (fun _ _ => trivial) (fun i x H H' y => y.1) ?_ ?_
      · rintro i x U H1 hi xx ⟨_, c, hc, rfl⟩ Qy Qn hy _
        refine ⟨rfl, _, rfl, _, rfl, rfl, _, rfl, ?_⟩
        exact hy _ _ _ _ (by rw [hc]; rfl) (Ext.refl xx.vh) (.bl _)
      · rintro U H1 _ xx _ _ dl
        rw [size_eq, show fm (fun i => (z.cps[i]?).map fun c : Nat => PyData.bool (codeOk (c : Int))) z.cps.toList.length = (z.cps.toList.map fun c : Nat => codeOk (c : Int)).map PyData.bool from by
          rw [List.map_map]; exact fm_list _ _ _ rfl _ fun i x hx => by rw [cps_at, hx]; rfl] at dl
        refine ⟨D, _, rfl, xx.vh.seq (dp_boolsL dl), ?_⟩
        have := q _ xx.hh
        unfold isText at this
        rw [decide_eq_true h1, Bool.true_and] at this
        rw [List.all_map]; exact this
    · have := q H (Same.refl H)
      unfold isText at this
      rw [decide_eq_false h1] at this
      exact this
/-- _padded(a list): a new list -/
def sp__padded (K : PySem.W.Frag) : Sp := fun vs H Q _ => ∃ (a : Addr) (xs : List Int), vs = [.ref a] ∧ H a = some (.lst (xs.map V.int)) ∧ xs.length < 90000 ∧ ∀ p H', NewL H H' p ((pad xs).map V.int) → Q (.ref p) H'
theorem sc__padded : FnScope ["octets"] ["octets"] (defScope s__padded) := ⟨rfl, rfl, rfl, by decide +kernel, rfl, by decide +kernel, by decide +kernel⟩
theorem ok__padded (T : Txt0 P K mg A) : FnOk P w K mg base CX0 1 A.f_padded A.d_padded ["octets"] (sp__padded K) := by
  refine T.F_padded.ok sc__padded (fun vs H Q E h => ?_) (fun cdv Ar outer s H vs Q E hr h => ?_)
  · obtain ⟨a, xs, rfl, _⟩ := h
    rfl
  · obtain ⟨a, xs, rfl, ha, hl, q⟩ := h
    refine ⟨_, (pss_one (ps_ret (pe_op op_cat (pv 0) (pe_op op_rep (pe_lst (pa_cons pe_int pa_nil)) (pe_op op_mod (pe_un un_neg (pe_callB call_len_seq (by rfl) T.len PySem.boot_len (pa_cons (pv 0) pa_nil))) pe_int))))), ?_⟩
    refine ⟨_, rfl, by decide, fun p1 n1 => ?_⟩
    have ha1 : (upd H p1 (.lst [.int 0])) a = some (.lst (xs.map V.int)) := by rw [upd_ne (ne_of_none ha n1)]; exact ha
    have e1 : -((xs.map V.int).length : Int) % 4 = (padN xs.length : Int) := by rw [List.length_map]; unfold padN; omega
    have pl := padN_lt xs.length
    refine ⟨_, rfl, a, _, rfl, .inl (SqL.of ha1), _, rfl, _, _, rfl, rfl, by show (0 : Int) < 4; decide, p1, _, _, rfl, rfl, upd_same, ?_, ?_, ?_, fun p2 n2 => ?_⟩
    · omega
    · omega
    · exact len_line (by show 1 * _ ≤ _; omega)
    refine ⟨a, p2, _, _, rfl, rfl, by rw [upd_ne (ne_of_none ha1 n2)]; exact ha1, upd_same, ?_, fun p3 n3 => ?_⟩
    · rw [e1]
      exact len_line (by rw [rep_flat, List.length_map, List.length_replicate]; omega)
    refine q p3 _ ⟨?_, ?_, ?_⟩
    · exact (same_upd n1).free ((same_upd n2).free n3)
    · exact ((same_upd n1).trans (same_upd n2)).trans (same_upd n3)
    · rw [upd_same, e1]
      unfold pad
      rw [List.map_append, show ((padN xs.length : Nat) : Int).toNat = padN xs.length by omega]
      rw [rep_flat, List.map_replicate]
def sp__text_octets (K : PySem.W.Frag) : Sp := fun vs H Q _ => ∃ (s : Str), vs = [.str s] ∧ s.length < 80000 ∧ ∀ p H', NewL H H' p ((textOcts s).map V.int) → Q (.ref p) H'
theorem sc__text_octets : FnScope ["text", "codes", "character"] ["text"] (defScope s__text_octets) := ⟨rfl, rfl, rfl, by decide +kernel, rfl, by decide +kernel, by decide +kernel⟩
theorem ok__text_octets (T : Txt0 P K mg A) : FnOk P w K mg base CX0 2 A.f_text_octets A.d_text_octets ["text"] (sp__text_octets K) := by
  refine T.F_text_octets.ok sc__text_octets (fun vs H Q E h => ?_) (fun cdv Ar outer s H vs Q E hr h => ?_)
  · obtain ⟨z, rfl, _⟩ := h
    rfl
  · obtain ⟨z, rfl, hl, q⟩ := h
    refine ⟨_, (pss_cons (ps_setLc (i := 1) (own := [("character", 2)]) (g := (gName 2)) (tt := tYes) rfl sc__text_octets.nd rfl rfl (sw_true rfl rfl rfl (by decide +kernel)) (pi_str (pv 0)) (blkOk_by (own := [("character", 2)]) (N := ["text", "codes", "character"]) (sc := defScope s__text_octets) (by decide +kernel)) (fun _ _ _ _ _ => (pg_name (i := 2) sc__text_octets.nd rfl (Or.inl rfl))) (fun _ _ _ _ _ => pts_nil) (fun _ _ _ _ _ => by exact (pe_callB call_ord (by rfl) T.ord (by decide +kernel) (pa_cons (pv 2) pa_nil))))
      (pss_one (ps_ret (pe_call (ok__padded T) (hr.mono (by decide)) rfl T.g_padded T.k_padded T.b_padded .nil pass0 (pa_cons (pe_op op_cat (pe_op op_cat (pe_call (ok_number_octets T) (hr.mono (by decide)) rfl T.gnumber_octets T.knumber_octets T.bnumber_octets .nil pass0 (pa_cons (pe_op op_add (pe_callB call_len_seq (by rfl) T.len PySem.boot_len (pa_cons (pv 1) pa_nil)) pe_int) (pa_cons pe_int pa_nil))) (pv 1)) (pe_lst (pa_cons pe_int pa_nil))) pa_nil))))), ?_⟩
    refine ⟨_, rfl, z, rfl, fun D hD => ?_⟩
    refine lc_dp (walk_str (z := z)) (K := K) (V0 := H) (H0 := H) (fun i => (z.cps[i]?).map fun c : Nat => PyData.int (c : Int)) [some (.str z), none, none] rfl (Same.refl _) hD (by show z.length < 100000; omega) (fun _ _ => trivial) (fun i x H H' y => y.1) ?_ ?_
    · rintro i x U H1 hi xx ⟨_, c, hc, rfl⟩ Qy Qn hy _
      refine ⟨rfl, _, rfl, _, rfl, rfl, ?_⟩
      exact hy _ _ _ _ (by rw [hc]; rfl) (Ext.refl xx.vh) (.int _)
    · rintro U H1 xs xx hDU dl _
      rw [size_eq, show fm (fun i => (z.cps[i]?).map fun c : Nat => PyData.int (c : Int)) z.cps.toList.length = (codesOf z).map PyData.int from by
          unfold codesOf; rw [List.map_map]; exact fm_list _ _ _ rfl _ fun i x hx => by rw [cps_at, hx]; rfl] at dl
      have hlc : (codesOf z).length = z.length := by unfold codesOf; rw [List.length_map]; exact (size_eq z).symm
      have exs := dp_intsV dl
      subst exs
      have h1D := xx.vh _ _ hDU
      have ev : ∀ (l : Int), l = z.length → (z.length : Int) + 1 = l + 1 := fun l e => by omega
      refine ⟨_, rfl, D, _, rfl, .inl (SqL.of h1D), _, _, rfl, rfl, _, 4, rfl, ?_, by decide, fun p H2 hp hs he => ?_⟩
      · omega
      have h2D := hs _ _ h1D
      rw [List.length_map, hlc] at he
      refine ⟨_, rfl, p, D, _, _, rfl, rfl, he, h2D, ?_, fun p3 n3 => ?_⟩
      · rw [List.length_map, List.length_map, octs_len, hlc]; exact len_line (by omega)
      refine ⟨by decide, fun p4 n4 => ?_⟩
      refine ⟨p3, p4, _, _, rfl, rfl, by rw [upd_ne (ne_of_none upd_same n4)]; exact upd_same, upd_same, ?_, fun p5 n5 => ?_⟩
      · rw [List.length_append, List.length_map, List.length_map, octs_len, hlc]; exact len_line (by show 4 + z.length + 1 ≤ _; omega)
      refine ⟨p5, octs (z.length + 1 : Int) 4 ++ codesOf z ++ [0], rfl, ?_, ?_, fun p6 H6 n6 => q p6 H6 ?_⟩
      · rw [upd_same, List.map_append, List.map_append]; rfl
      · rw [List.length_append, List.length_append, octs_len, hlc]; show 4 + z.length + 1 < 90000; omega
      · exact ⟨xx.hh.free (hs.free ((same_upd n3).free ((same_upd n4).free ((same_upd n5).free n6.new)))), xx.hh.trans (hs.trans ((same_upd n3).trans ((same_upd n4).trans ((same_upd n5).trans n6.same)))), n6.at_⟩
/-! ### the kinds -/
inductive NumKind : Str → Int → Int → Prop
  | uint : NumKind "uint" 0 4294967295
  | maybe : NumKind "maybe" 0 4294967295
  | int : NumKind "int" (-2147483648) 2147483647
  | object : NumKind "object" 1 4294967295
  | new : NumKind "new" 1 4294967295
inductive AV
  | num (i : Int)
  | txt (s : Str)
  | oct (xs : List Int)
  | bnd (s : Str) (n : Int)
def ArgAt (K : PySem.W.Frag) (H : Hp) (v : V) : AV → Prop
  | .num i => v = .int i
  | .txt s => v = .str s ∧ s.length < 80000
  | .oct xs => ∃ a, v = .ref a ∧ H a = some (.lst (xs.map V.int)) ∧ xs.length < 80000
  | .bnd s n => ∃ a, v = .ref a ∧ SqT K H a [.str s, .int n] ∧ s.length < 80000
theorem ArgAt.to {K : PySem.W.Frag} {H H' : Hp} {v : V} {x : AV} (h : ArgAt K H v x) (s : Same H H') : ArgAt K H' v x := by
  cases x with
  | num i => exact h
  | txt z => exact h
  | oct xs => obtain ⟨a, e, q, l⟩ := h; exact ⟨a, e, s _ _ q, l⟩
  | bnd z n => obtain ⟨a, e, q, l⟩ := h; exact ⟨a, e, s.sqt q, l⟩
def octsOk (xs : List Int) : Bool := decide (xs.length ≤ 16384) && xs.all fun x => decide (0 ≤ x ∧ x ≤ 255)
inductive ArgSpec : Str → AV → Bool → List Int → Prop
  | num {k : Str} {lo hi i : Int} (h : NumKind k lo hi) : ArgSpec k (.num i) (decide (lo ≤ i ∧ i ≤ hi)) (octs (i % 4294967296) 4)
  | txt {s : Str} : ArgSpec "text" (.txt s) (isText s) (textOcts s)
  | oct {xs : List Int} : ArgSpec "octets" (.oct xs) (octsOk xs) (pad (octs xs.length 4 ++ xs))
  | bnd {s : Str} {n : Int} : ArgSpec "bound" (.bnd s n) (isText s && decide (1 ≤ n ∧ n ≤ 4294967295)) (textOcts s ++ octs n 4)
def sp__are_octets (K : PySem.W.Frag) : Sp := fun vs H Q _ => ∃ (a : Addr) (xs : List Int), vs = [.ref a] ∧ H a = some (.lst (xs.map V.int)) ∧ xs.length < 80000 ∧ ∀ H', Same H H' → Q (.bl (octsOk xs)) H'
theorem sc__are_octets : FnScope ["value", "octet"] ["value"] (defScope s__are_octets) := ⟨rfl, rfl, rfl, by decide +kernel, rfl, by decide +kernel, by decide +kernel⟩
theorem ok__are_octets (T : Txt0 P K mg A) : FnOk P w K mg base CX0 2 A.f_are_octets A.d_are_octets ["value"] (sp__are_octets K) := by
  refine T.F_are_octets.ok sc__are_octets (fun vs H Q E h => ?_) (fun cdv Ar outer s H vs Q E hr h => ?_)
  · obtain ⟨a, xs, rfl, _⟩ := h
    rfl
  · obtain ⟨a, xs, rfl, ha, hl, q⟩ := h
    refine ⟨_, (pss_cons (ps_if (PW.pt (pw_or (pt_not (pt_val (pe_callB call_isi (by rfl) T.isinstance (by decide +kernel) (pa_cons (pv 0) (pa_cons (pe_bltn (v := .ty "list") (by rfl) T.list (by decide +kernel) rfl) pa_nil))))) (pw_or1 (pt_cmpR op_gt (pe_callB call_len_seq (by rfl) T.len PySem.boot_len (pa_cons (pv 0) pa_nil)) (pe_glob (v := .int (16384)) rfl T.gMOST_OCTETS ⟨_, rfl⟩) (nomark _)))))
      (pss_one (ps_ret pe_bl))
      pss_nil)
      (pss_one (ps_ret (pe_callB (cr_all rfl) (by rfl) T.all (by decide +kernel) (pa_cons (pe_lc (own := [("octet", 1)]) (g := (gName 1)) (tt := tYes) rfl sc__are_octets.nd (pi_list (pv 0)) (blkOk_by (own := [("octet", 1)]) (N := ["value", "octet"]) (sc := defScope s__are_octets) (by decide +kernel)) (fun _ _ _ _ _ => (pg_name (i := 1) sc__are_octets.nd rfl (Or.inl rfl))) (fun _ _ _ _ _ => pts_nil) (fun _ _ _ _ _ => by exact (pe_call (ok_is_integer T) (hr.mono (by decide)) rfl T.gis_integer T.kis_integer T.bis_integer .nil pass0 (pa_cons (pv 1) (pa_cons pe_int (pa_cons pe_int pa_nil)))))) pa_nil))))), ?_⟩
    refine ⟨_, rfl, .ref a, .ty "list", .type "list", .type "list", true, rfl, .ty _, tyL (K := K) (SqL.of ha), kit_ty (by decide +kernel), _, rfl, if_f rfl ?_⟩
    refine ⟨_, rfl, a, _, rfl, .inl (SqL.of ha), _, _, rfl, rfl, _, rfl, iteP (fun h => ?_) (fun h => ?_)⟩
    · have := q H (Same.refl H)
      unfold octsOk at this
      rw [List.length_map] at h
      rw [decide_eq_false (show ¬ xs.length ≤ 16384 by omega)] at this
      exact this
    · rw [List.length_map] at h
      refine ⟨_, rfl, a, rfl, ⟨_, SqL.of ha⟩, fun D hD => ?_⟩
      refine lc_dp (walk_list (K := K) (a := a) (xs := xs.map V.int)) (K := K) (V0 := H) (H0 := H) (fun i => (xs[i]?).map fun x => PyData.bool (decide (0 ≤ x ∧ x ≤ 255))) [some (.ref a), none] rfl (Same.refl _) hD (by rw [List.length_map]; omega) (fun H' s => s.seq (SqL.of ha)) (fun i x H H' y => y.1) ?_ ?_
      · rintro i x U H1 hi xx ⟨_, hx⟩ Qy Qn hy _
        rw [List.getElem?_map] at hx
        obtain ⟨z, hz, rfl⟩ := Option.map_eq_some_iff.mp hx
        exact ⟨rfl, _, rfl, z, 0, 255, rfl, hy _ _ _ _ (by rw [hz]; rfl) (Ext.refl xx.vh) (.bl _)⟩
      · rintro U H1 _ xx _ _ dl
        rw [List.length_map, show fm (fun i => (xs[i]?).map fun x => PyData.bool (decide (0 ≤ x ∧ x ≤ 255))) xs.length = (xs.map fun x => decide (0 ≤ x ∧ x ≤ 255)).map PyData.bool from by
          rw [List.map_map]; exact fm_list _ _ _ rfl _ fun i x hx => by rw [hx]; rfl] at dl
        refine ⟨D, _, rfl, xx.vh.seq (dp_boolsL dl), ?_⟩
        have := q _ xx.hh
        unfold octsOk at this
        rw [decide_eq_true (show xs.length ≤ 16384 by omega), Bool.true_and] at this
        rw [List.all_map]; exact this
theorem sc__is_of : FnScope ["kind", "value"] ["kind", "value"] (defScope s__is_of) := ⟨rfl, rfl, rfl, by decide +kernel, rfl, by decide +kernel, by decide +kernel⟩
/-- the kinds but bound -/
def sp_is_of0 (K : PySem.W.Frag) : Sp := fun vs H Q _ => ∃ (kind : Str) (v : V) (x : AV) (ok : Bool) (os : List Int), vs = [.str kind, v] ∧ ArgSpec kind x ok os ∧ kind ≠ "bound" ∧ ArgAt K H v x ∧ ∀ H', Same H H' → Q (.bl ok) H'
theorem ok_is_of0 (T : Txt0 P K mg A) : FnOk P w K mg base CX0 3 A.f_is_of A.d_is_of ["kind", "value"] (sp_is_of0 K) := by
  refine T.F_is_of.ok sc__is_of (fun vs H Q E h => ?_) (fun cdv Ar outer s H vs Q E hr h => ?_)
  · obtain ⟨kind, v, x, ok, os, rfl, _⟩ := h
    rfl
  · obtain ⟨kind, v, x, ok, os, rfl, hk, nb, ha, q⟩ := h
    refine ⟨_, (pss_cons (ps_if (PW.pt (pw_or (pt_cmpR op_eq (pv 0) pe_str (nomark _)) (pw_or1 (pt_cmpR op_eq (pv 0) pe_str (nomark _)))))
      (pss_one (ps_ret (pe_call (ok_is_integer T) (hr.mono (by decide)) rfl T.gis_integer T.kis_integer T.bis_integer .nil pass0 (pa_cons (pv 1) (pa_cons pe_int (pa_cons (pe_glob (v := .int (4294967295)) rfl T.gGREATEST_NUMBER ⟨_, rfl⟩) pa_nil))))))
      pss_nil)
      (pss_cons (ps_if (pt_cmpR op_eq (pv 0) pe_str (nomark _))
      (pss_one (ps_ret (pe_call (ok_is_integer T) (hr.mono (by decide)) rfl T.gis_integer T.kis_integer T.bis_integer .nil pass0 (pa_cons (pv 1) (pa_cons (pe_glob (v := .int (-2147483648)) rfl T.gLEAST_INT ⟨_, rfl⟩) (pa_cons (pe_glob (v := .int (2147483647)) rfl T.gGREATEST_INT ⟨_, rfl⟩) pa_nil))))))
      pss_nil)
      (pss_cons (ps_if (PW.pt (pw_or (pt_cmpR op_eq (pv 0) pe_str (nomark _)) (pw_or1 (pt_cmpR op_eq (pv 0) pe_str (nomark _)))))
      (pss_one (ps_ret (pe_call (ok_is_integer T) (hr.mono (by decide)) rfl T.gis_integer T.kis_integer T.bis_integer .nil pass0 (pa_cons (pv 1) (pa_cons pe_int (pa_cons (pe_glob (v := .int (4294967295)) rfl T.gGREATEST_NUMBER ⟨_, rfl⟩) pa_nil))))))
      pss_nil)
      (pss_cons (ps_if (pt_cmpR op_eq (pv 0) pe_str (nomark _))
      (pss_one (ps_ret (pe_and (pe_callB call_isi (by rfl) T.isinstance (by decide +kernel) (pa_cons (pv 1) (pa_cons (pe_bltn (v := .ty "str") (by rfl) T.str (by decide +kernel) rfl) pa_nil))) (pe_one (pe_call (ok_is_text T) (hr.mono (by decide)) rfl T.gis_text T.kis_text T.bis_text .nil pass0 (pa_cons (pv 1) pa_nil))))))
      pss_nil)
      (pss_cons (ps_if (pt_cmpR op_eq (pv 0) pe_str (nomark _))
      (pss_one (ps_ret (pe_call (ok__are_octets T) (hr.mono (by decide)) rfl T.g_are_octets T.k_are_octets T.b_are_octets .nil pass0 (pa_cons (pv 1) pa_nil))))
      pss_nil)
      (pss_one ps_never)))))), ?_⟩
    have q0 := q H (Same.refl H)
    cases hk with
    | num h =>
      rename_i lo hi i
      obtain rfl : v = .int i := ha
      cases h with
      | uint => exact ⟨_, rfl, rfl, _, rfl, if_t (by decide +kernel) (if_t rfl ⟨_, rfl, _, _, _, rfl, q0⟩)⟩
      | maybe => exact ⟨_, rfl, rfl, _, rfl, if_f (by decide +kernel) ⟨_, rfl, rfl, _, rfl, if_t (by decide +kernel) ⟨_, rfl, _, _, _, rfl, q0⟩⟩⟩
      | int =>
        refine ⟨_, rfl, rfl, _, rfl, if_f (by decide +kernel) ⟨_, rfl, rfl, _, rfl, if_f (by decide +kernel) ?_⟩⟩
        exact ⟨_, rfl, rfl, _, rfl, if_t (by decide +kernel) ⟨_, rfl, _, _, _, rfl, q0⟩⟩
      | object =>
        refine ⟨_, rfl, rfl, _, rfl, if_f (by decide +kernel) ⟨_, rfl, rfl, _, rfl, if_f (by decide +kernel) ?_⟩⟩
        refine ⟨_, rfl, rfl, _, rfl, if_f (by decide +kernel) ⟨_, rfl, rfl, _, rfl, if_t (by decide +kernel) (if_t rfl ⟨_, rfl, _, _, _, rfl, q0⟩)⟩⟩
      | new =>
        refine ⟨_, rfl, rfl, _, rfl, if_f (by decide +kernel) ⟨_, rfl, rfl, _, rfl, if_f (by decide +kernel) ?_⟩⟩
        refine ⟨_, rfl, rfl, _, rfl, if_f (by decide +kernel) ⟨_, rfl, rfl, _, rfl, if_f (by decide +kernel) ⟨_, rfl, rfl, _, rfl, if_t (by decide +kernel) ⟨_, rfl, _, _, _, rfl, q0⟩⟩⟩⟩
    | txt =>
      rename_i s
      obtain ⟨rfl, hl⟩ := ha
      refine ⟨_, rfl, rfl, _, rfl, if_f (by decide +kernel) ⟨_, rfl, rfl, _, rfl, if_f (by decide +kernel) ?_⟩⟩
      refine ⟨_, rfl, rfl, _, rfl, if_f (by decide +kernel) ⟨_, rfl, rfl, _, rfl, if_f (by decide +kernel) ⟨_, rfl, rfl, _, rfl, if_f (by decide +kernel) ?_⟩⟩⟩
      refine ⟨_, rfl, rfl, _, rfl, if_t (by decide +kernel) ?_⟩
      exact ⟨_, rfl, .str s, .ty "str", .type "str", .type "str", true, rfl, .ty _, .base (.str _), kit_ty (by decide +kernel), _, rfl, if_t rfl ⟨_, rfl, s, rfl, by omega, q⟩⟩
    | oct =>
      rename_i xs
      obtain ⟨a, rfl, ha, hl⟩ := ha
      refine ⟨_, rfl, rfl, _, rfl, if_f (by decide +kernel) ⟨_, rfl, rfl, _, rfl, if_f (by decide +kernel) ?_⟩⟩
      refine ⟨_, rfl, rfl, _, rfl, if_f (by decide +kernel) ⟨_, rfl, rfl, _, rfl, if_f (by decide +kernel) ⟨_, rfl, rfl, _, rfl, if_f (by decide +kernel) ?_⟩⟩⟩
      refine ⟨_, rfl, rfl, _, rfl, if_f (by decide +kernel) ?_⟩
      exact ⟨_, rfl, rfl, _, rfl, if_t (by decide +kernel) ⟨_, rfl, a, xs, rfl, ha, hl, q⟩⟩
    | bnd => exact absurd rfl nb
def sp__is_bound (K : PySem.W.Frag) : Sp := fun vs H Q _ => ∃ (a : Addr) (s : Str) (n : Int), vs = [.ref a] ∧ SqT K H a [.str s, .int n] ∧ s.length < 80000 ∧ ∀ H', Same H H' → Q (.bl (isText s && decide (1 ≤ n ∧ n ≤ 4294967295))) H'
theorem sc__is_bound : FnScope ["value"] ["value"] (defScope s__is_bound) := ⟨rfl, rfl, rfl, by decide +kernel, rfl, by decide +kernel, by decide +kernel⟩
theorem ok__is_bound (T : Txt0 P K mg A) : FnOk P w K mg base CX0 4 A.f_is_bound A.d_is_bound ["value"] (sp__is_bound K) := by
  refine T.F_is_bound.ok sc__is_bound (fun vs H Q E h => ?_) (fun cdv Ar outer s H vs Q E hr h => ?_)
  · obtain ⟨a, s, n, rfl, _⟩ := h
    rfl
  · obtain ⟨a, z, n, rfl, ha, hl, q⟩ := h
    have ok__is_of : ∀ {A' : Adr} (T : Txt0 P K mg A'), FnOk P w K mg base CX0 3 A'.f_is_of A'.d_is_of ["kind", "value"] (sp_is_of0 K) := fun T => ok_is_of0 T
    refine ⟨_, (pss_cons (ps_if (PW.pt (pw_or (pt_not (pt_val (pe_callB call_isi (by rfl) T.isinstance (by decide +kernel) (pa_cons (pv 0) (pa_cons (pe_bltn (v := .ty "tuple") (by rfl) T.tuple (by decide +kernel) rfl) pa_nil))))) (pw_or1 (pt_cmpR op_ne (pe_callB call_len_seq (by rfl) T.len PySem.boot_len (pa_cons (pv 0) pa_nil)) pe_int (nomark _)))))
      (pss_one (ps_ret pe_bl))
      pss_nil)
      (pss_one (ps_ret (pe_and (pe_call (ok__is_of T) (hr.mono (by decide)) rfl T.g_is_of T.k_is_of T.b_is_of .nil pass0 (pa_cons pe_str (pa_cons (pe_ix (r := rIxT K) ix_tup (pv 0) pe_int (fun _ _ => rfl)) pa_nil))) (pe_one (pe_call (ok__is_of T) (hr.mono (by decide)) rfl T.g_is_of T.k_is_of T.b_is_of .nil pass0 (pa_cons pe_str (pa_cons (pe_ix (r := rIxT K) ix_tup (pv 0) pe_int (fun _ _ => rfl)) pa_nil)))))))), ?_⟩
    refine ⟨_, rfl, .ref a, .ty "tuple", .type "tuple", .type "tuple", true, rfl, .ty _, tyT ha, kit_ty (by decide +kernel), _, rfl, if_f rfl ?_⟩
    refine ⟨_, rfl, a, _, rfl, .inr ha, rfl, _, rfl, if_f rfl ?_⟩
    refine ⟨_, rfl, a, _, 0, .str z, rfl, rfl, ha, atI_nat (j := 0) rfl, "text", .str z, .txt z, isText z, _, rfl, .txt, by decide +kernel, ⟨rfl, hl⟩, fun H' s => ⟨_, rfl, if_b (fun c => ?_) (fun c => ?_)⟩⟩
    · refine ⟨_, rfl, a, _, 1, .int n, rfl, rfl, s.sqt ha, atI_nat (j := 1) rfl, "new", .int n, .num n, _, _, rfl, .num .new, by decide +kernel, rfl, fun H2 s2 => ?_⟩
      have := q H2 (s.trans s2)
      rw [c, Bool.true_and] at this
      exact this
    · have := q H' s
      rw [c, Bool.false_and] at this
      exact this
def sp__is_of (K : PySem.W.Frag) : Sp := fun vs H Q _ => ∃ (kind : Str) (v : V) (x : AV) (ok : Bool) (os : List Int), vs = [.str kind, v] ∧ ArgSpec kind x ok os ∧ ArgAt K H v x ∧ ∀ H', Same H H' → Q (.bl ok) H'
theorem ok__is_of (T : Txt0 P K mg A) : FnOk P w K mg base CX0 5 A.f_is_of A.d_is_of ["kind", "value"] (sp__is_of K) := by
  refine T.F_is_of.ok sc__is_of (fun vs H Q E h => ?_) (fun cdv Ar outer s H vs Q E hr h => ?_)
  · obtain ⟨kind, v, x, ok, os, rfl, _⟩ := h
    rfl
  · obtain ⟨kind, v, x, ok, os, rfl, hk, ha, q⟩ := h
    refine ⟨_, (pss_cons (ps_if (PW.pt (pw_or (pt_cmpR op_eq (pv 0) pe_str (nomark _)) (pw_or1 (pt_cmpR op_eq (pv 0) pe_str (nomark _)))))
      (pss_one (ps_ret (pe_call (ok_is_integer T) (hr.mono (by decide)) rfl T.gis_integer T.kis_integer T.bis_integer .nil pass0 (pa_cons (pv 1) (pa_cons pe_int (pa_cons (pe_glob (v := .int (4294967295)) rfl T.gGREATEST_NUMBER ⟨_, rfl⟩) pa_nil))))))
      pss_nil)
      (pss_cons (ps_if (pt_cmpR op_eq (pv 0) pe_str (nomark _))
      (pss_one (ps_ret (pe_call (ok_is_integer T) (hr.mono (by decide)) rfl T.gis_integer T.kis_integer T.bis_integer .nil pass0 (pa_cons (pv 1) (pa_cons (pe_glob (v := .int (-2147483648)) rfl T.gLEAST_INT ⟨_, rfl⟩) (pa_cons (pe_glob (v := .int (2147483647)) rfl T.gGREATEST_INT ⟨_, rfl⟩) pa_nil))))))
      pss_nil)
      (pss_cons (ps_if (PW.pt (pw_or (pt_cmpR op_eq (pv 0) pe_str (nomark _)) (pw_or1 (pt_cmpR op_eq (pv 0) pe_str (nomark _)))))
      (pss_one (ps_ret (pe_call (ok_is_integer T) (hr.mono (by decide)) rfl T.gis_integer T.kis_integer T.bis_integer .nil pass0 (pa_cons (pv 1) (pa_cons pe_int (pa_cons (pe_glob (v := .int (4294967295)) rfl T.gGREATEST_NUMBER ⟨_, rfl⟩) pa_nil))))))
      pss_nil)
      (pss_cons (ps_if (pt_cmpR op_eq (pv 0) pe_str (nomark _))
      (pss_one (ps_ret (pe_and (pe_callB call_isi (by rfl) T.isinstance (by decide +kernel) (pa_cons (pv 1) (pa_cons (pe_bltn (v := .ty "str") (by rfl) T.str (by decide +kernel) rfl) pa_nil))) (pe_one (pe_call (ok_is_text T) (hr.mono (by decide)) rfl T.gis_text T.kis_text T.bis_text .nil pass0 (pa_cons (pv 1) pa_nil))))))
      pss_nil)
      (pss_cons (ps_if (pt_cmpR op_eq (pv 0) pe_str (nomark _))
      (pss_one (ps_ret (pe_call (ok__are_octets T) (hr.mono (by decide)) rfl T.g_are_octets T.k_are_octets T.b_are_octets .nil pass0 (pa_cons (pv 1) pa_nil))))
      pss_nil)
      (pss_one (ps_ret (pe_and (pe_cmpR op_eq (pv 0) pe_str (nomark _)) (pe_one (pe_call (ok__is_bound T) (hr.mono (by decide)) rfl T.g_is_bound T.k_is_bound T.b_is_bound .nil pass0 (pa_cons (pv 1) pa_nil))))))))))), ?_⟩
    have q0 := q H (Same.refl H)
    cases hk with
    | num h =>
      rename_i lo hi i
      obtain rfl : v = .int i := ha
      cases h with
      | uint => exact ⟨_, rfl, rfl, _, rfl, if_t (by decide +kernel) (if_t rfl ⟨_, rfl, _, _, _, rfl, q0⟩)⟩
      | maybe => exact ⟨_, rfl, rfl, _, rfl, if_f (by decide +kernel) ⟨_, rfl, rfl, _, rfl, if_t (by decide +kernel) ⟨_, rfl, _, _, _, rfl, q0⟩⟩⟩
      | int =>
        refine ⟨_, rfl, rfl, _, rfl, if_f (by decide +kernel) ⟨_, rfl, rfl, _, rfl, if_f (by decide +kernel) ?_⟩⟩
        exact ⟨_, rfl, rfl, _, rfl, if_t (by decide +kernel) ⟨_, rfl, _, _, _, rfl, q0⟩⟩
      | object =>
        refine ⟨_, rfl, rfl, _, rfl, if_f (by decide +kernel) ⟨_, rfl, rfl, _, rfl, if_f (by decide +kernel) ?_⟩⟩
        refine ⟨_, rfl, rfl, _, rfl, if_f (by decide +kernel) ⟨_, rfl, rfl, _, rfl, if_t (by decide +kernel) (if_t rfl ⟨_, rfl, _, _, _, rfl, q0⟩)⟩⟩
      | new =>
        refine ⟨_, rfl, rfl, _, rfl, if_f (by decide +kernel) ⟨_, rfl, rfl, _, rfl, if_f (by decide +kernel) ?_⟩⟩
        refine ⟨_, rfl, rfl, _, rfl, if_f (by decide +kernel) ⟨_, rfl, rfl, _, rfl, if_f (by decide +kernel) ⟨_, rfl, rfl, _, rfl, if_t (by decide +kernel) ⟨_, rfl, _, _, _, rfl, q0⟩⟩⟩⟩
    | txt =>
      rename_i s
      obtain ⟨rfl, hl⟩ := ha
      refine ⟨_, rfl, rfl, _, rfl, if_f (by decide +kernel) ⟨_, rfl, rfl, _, rfl, if_f (by decide +kernel) ?_⟩⟩
      refine ⟨_, rfl, rfl, _, rfl, if_f (by decide +kernel) ⟨_, rfl, rfl, _, rfl, if_f (by decide +kernel) ⟨_, rfl, rfl, _, rfl, if_f (by decide +kernel) ?_⟩⟩⟩
      refine ⟨_, rfl, rfl, _, rfl, if_t (by decide +kernel) ?_⟩
      exact ⟨_, rfl, .str s, .ty "str", .type "str", .type "str", true, rfl, .ty _, .base (.str _), kit_ty (by decide +kernel), _, rfl, if_t rfl ⟨_, rfl, s, rfl, by omega, q⟩⟩
    | oct =>
      rename_i xs
      obtain ⟨a, rfl, ha, hl⟩ := ha
      refine ⟨_, rfl, rfl, _, rfl, if_f (by decide +kernel) ⟨_, rfl, rfl, _, rfl, if_f (by decide +kernel) ?_⟩⟩
      refine ⟨_, rfl, rfl, _, rfl, if_f (by decide +kernel) ⟨_, rfl, rfl, _, rfl, if_f (by decide +kernel) ⟨_, rfl, rfl, _, rfl, if_f (by decide +kernel) ?_⟩⟩⟩
      refine ⟨_, rfl, rfl, _, rfl, if_f (by decide +kernel) ?_⟩
      exact ⟨_, rfl, rfl, _, rfl, if_t (by decide +kernel) ⟨_, rfl, a, xs, rfl, ha, hl, q⟩⟩
    | bnd =>
      rename_i z n
      obtain ⟨a, rfl, ha, hl⟩ := ha
      refine ⟨_, rfl, rfl, _, rfl, if_f (by decide +kernel) ⟨_, rfl, rfl, _, rfl, if_f (by decide +kernel) ?_⟩⟩
      refine ⟨_, rfl, rfl, _, rfl, if_f (by decide +kernel) ⟨_, rfl, rfl, _, rfl, if_f (by decide +kernel) ⟨_, rfl, rfl, _, rfl, if_f (by decide +kernel) ?_⟩⟩⟩
      refine ⟨_, rfl, rfl, _, rfl, if_f (by decide +kernel) ?_⟩
      refine ⟨_, rfl, rfl, _, rfl, if_f (by decide +kernel) ?_⟩
      exact ⟨_, rfl, rfl, _, rfl, if_t (by decide +kernel) ⟨_, rfl, a, z, n, rfl, ha, hl, q⟩⟩
/-- field_octets: a new list, or BadMessage -/
def sp_field_octets (K : PySem.W.Frag) (C : Addr) : Sp := fun vs H Q E => ∃ (kind : Str) (v : V) (x : AV) (ok : Bool) (os : List Int), vs = [.str kind, v] ∧ ArgSpec kind x ok os ∧ ArgAt K H v x ∧
  (ok = true → ∀ p H', NewL H H' p (os.map V.int) → Q (.ref p) H') ∧ (ok = false → ∀ H', Same H H' → E (.ref C) none H')
theorem sc_field_octets : FnScope ["kind", "value", "text", "number"] ["kind", "value"] (defScope s_field_octets) := ⟨rfl, rfl, rfl, by decide +kernel, rfl, by decide +kernel, by decide +kernel⟩
theorem ok_field_octets (T : Txt0 P K mg A) : FnOk P w K mg base (L2.CX P w) 6 A.ffield_octets A.dfield_octets ["kind", "value"] (sp_field_octets K A.CBadMessage) := by
  refine T.Ffield_octets.okX sc_field_octets (fun vs H Q E h => ?_) (fun cdv Ar outer s H vs Q E hr h => ?_)
  · obtain ⟨kind, v, x, ok, os, rfl, _⟩ := h
    rfl
  · obtain ⟨kind, v, x, ok, os, rfl, hk, ha, q, e⟩ := h
    refine ⟨_, (pss_cons (ps_if (pt_not (pt_val (pe_call (ok__is_of T) (hr.mono (by decide)) rfl T.g_is_of T.k_is_of T.b_is_of .nil pass0 (pa_cons (pv 0) (pa_cons (pv 1) pa_nil)))))
      (pss_one (ps_raise rfl (takes_of rfl rfl rfl rfl) (pmk_own PySem.F.excBase_ValueError T.xBadMessage T.gBadMessage T.kBadMessage (raises_own T.bxBadMessage T.txBadMessage) rfl)))
      pss_nil)
      (pss_cons (ps_if (pt_cmpR op_eq (pv 0) pe_str (nomark _))
      (pss_one (ps_ret (pe_call (ok__text_octets T) (hr.mono (by decide)) rfl T.g_text_octets T.k_text_octets T.b_text_octets .nil pass0 (pa_cons (pv 1) pa_nil))))
      pss_nil)
      (pss_cons (ps_if (pt_cmpR op_eq (pv 0) pe_str (nomark _))
      (pss_one (ps_ret (pe_call (ok__padded T) (hr.mono (by decide)) rfl T.g_padded T.k_padded T.b_padded .nil pass0 (pa_cons (pe_op op_cat (pe_call (ok_number_octets T) (hr.mono (by decide)) rfl T.gnumber_octets T.knumber_octets T.bnumber_octets .nil pass0 (pa_cons (pe_callB call_len_seq (by rfl) T.len PySem.boot_len (pa_cons (pv 1) pa_nil)) (pa_cons pe_int pa_nil))) (pv 1)) pa_nil))))
      pss_nil)
      (pss_cons (ps_if (pt_cmpR op_eq (pv 0) pe_str (nomark _))
      (pss_cons (ps_asg (pv 1) (pg_tup rfl (pgs_cons (pg_name (i := 2) sc_field_octets.nd rfl (Or.inl rfl)) (pgs_cons (pg_name (i := 3) sc_field_octets.nd rfl (Or.inl rfl)) pgs_nil))))
      (pss_one (ps_ret (pe_op op_cat (pe_call (ok__text_octets T) (hr.mono (by decide)) rfl T.g_text_octets T.k_text_octets T.b_text_octets .nil pass0 (pa_cons (pv 2) pa_nil)) (pe_call (ok_number_octets T) (hr.mono (by decide)) rfl T.gnumber_octets T.knumber_octets T.bnumber_octets .nil pass0 (pa_cons (pv 3) (pa_cons pe_int pa_nil)))))))
      pss_nil)
      (pss_one (ps_ret (pe_call (ok_number_octets T) (hr.mono (by decide)) rfl T.gnumber_octets T.knumber_octets T.bnumber_octets .nil pass0 (pa_cons (pe_op op_mod (pv 1) (pe_op op_pow pe_int pe_int)) (pa_cons pe_int pa_nil))))))))), ?_⟩
    refine ⟨_, rfl, _, rfl, kind, v, x, ok, os, rfl, hk, ha, fun H1 s1 => ⟨_, rfl, if_b (fun c => ?_) (fun c => ?_)⟩⟩
    · refine e ?_ H1 s1
      cases ok
      · rfl
      · cases c
    have hok : ok = true := by cases ok; · cases c
                               · rfl
    replace q : ∀ p H', NewL H H' p (os.map V.int) → Q (.ref p) H' := q hok
    replace ha := ha.to s1
    clear e c
    cases hk with
    | num h =>
      rename_i lo hi i
      obtain rfl : v = .int i := ha
      have hne : kind ≠ "text" ∧ kind ≠ "octets" ∧ kind ≠ "bound" := by cases h <;> exact ⟨by decide +kernel, by decide +kernel, by decide +kernel⟩
      refine ⟨_, rfl, rfl, _, rfl, if_f (decide_eq_false fun z => hne.1 (V.str.inj z)) ?_⟩
      refine ⟨_, rfl, rfl, _, rfl, if_f (decide_eq_false fun z => hne.2.1 (V.str.inj z)) ?_⟩
      refine ⟨_, rfl, rfl, _, rfl, if_f (decide_eq_false fun z => hne.2.2 (V.str.inj z)) ?_⟩
      refine ⟨_, rfl, _, _, rfl, rfl, ⟨by decide, by decide, by decide⟩, _, _, rfl, rfl, by show (0 : Int) < 2 ^ (32 : Int).toNat; decide +kernel, ?_⟩
      have e2 : i % 2 ^ (32 : Int).toNat = i % 4294967296 := by rw [show (2 : Int) ^ (32 : Int).toNat = 4294967296 by decide +kernel]
      refine ⟨_, 4, rfl, ?_, by decide, ?_⟩
      · rw [e2]; omega
      · rw [e2]; exact fun p H' hp hs he => q p H' ⟨s1.free hp, s1.trans hs, he⟩
    | txt =>
      rename_i z
      obtain ⟨rfl, hl⟩ := ha
      refine ⟨_, rfl, rfl, _, rfl, if_t (by decide +kernel) ⟨_, rfl, z, rfl, hl, fun p H' n => q p H' ⟨s1.free n.new, s1.trans n.same, n.at_⟩⟩⟩
    | oct =>
      rename_i xs
      obtain ⟨a, rfl, ha, hl⟩ := ha
      refine ⟨_, rfl, rfl, _, rfl, if_f (by decide +kernel) ⟨_, rfl, rfl, _, rfl, if_t (by decide +kernel) ?_⟩⟩
      refine ⟨_, rfl, a, _, rfl, .inl (SqL.of ha), _, 4, rfl, by omega, by decide, fun p H2 hp hs he => ?_⟩
      rw [List.length_map] at he
      refine ⟨_, rfl, p, a, _, _, rfl, rfl, he, hs _ _ ha, ?_, fun p3 n3 => ?_⟩
      · rw [List.length_map, List.length_map, octs_len]; exact len_line (by omega)
      refine ⟨p3, octs xs.length 4 ++ xs, rfl, by rw [upd_same, List.map_append], by rw [List.length_append, octs_len]; omega, fun p4 H4 n4 => q p4 H4 ?_⟩
      exact ⟨s1.free (hs.free ((same_upd n3).free n4.new)), s1.trans (hs.trans ((same_upd n3).trans n4.same)), n4.at_⟩
    | bnd =>
      rename_i z n
      obtain ⟨a, rfl, ha, hl⟩ := ha
      refine ⟨_, rfl, rfl, _, rfl, if_f (by decide +kernel) ⟨_, rfl, rfl, _, rfl, if_f (by decide +kernel) ⟨_, rfl, rfl, _, rfl, if_t (by decide +kernel) ?_⟩⟩⟩
      refine ⟨_, rfl, a, _, rfl, ha, rfl, _, _, rfl, _, _, rfl, rfl, ?_⟩
      refine ⟨_, rfl, z, rfl, hl, fun p2 H2 n2 => ?_⟩
      refine ⟨_, rfl, n, 4, rfl, ?_, by decide, fun p3 H3 n3 s3 e3 => ?_⟩
      · have h2 := (Bool.and_eq_true_iff.mp hok).2
        have h3 := of_decide_eq_true h2
        omega
      refine ⟨p2, p3, _, _, rfl, rfl, s3 _ _ n2.at_, e3, ?_, fun p4 n4 => q p4 _ ⟨?_, ?_, ?_⟩⟩
      · rw [List.length_map, List.length_map, octs_len]; have := textOcts_len z; exact len_line (by omega)
      · exact s1.free (n2.same.free (s3.free n4))
      · exact s1.trans (n2.same.trans (s3.trans (same_upd n4)))
      · rw [upd_same, List.map_append]
/-! ### the law's signs -/
def signs1 : Str := " !\"#$&'()*+,-./0123456789:;<=>?@ABCDEFGHIJKLMNOPQRSTUVWXYZ[\\]^_`"
def signs2 : Str := "abcdefghijklmnopqrstuvwxyz{|}~"
theorem signs_len : (signs1 ++ signs2).cps.toList.length = 94 := by decide +kernel
theorem signs_ok : (signs1 ++ signs2).cps.toList.all (fun c : Nat => codeOk (c : Int)) = true := by decide +kernel
def okCodes (cs : List Nat) : Prop := ∀ c ∈ cs, codeOk (c : Int) = true
theorem at_of' {α : Type} {xs : List α} {z : Int} {j : Nat} {v : α} (e : z = (j : Int)) (h : xs[j]? = some v) : atI xs z = some v := by
  rw [e]
  exact atI_nat h
def signAt (d : Int) : Nat := (signs1 ++ signs2).cps.toList.getD (d % 94).toNat 32
theorem signAt_ok (d : Int) : codeOk (signAt d : Int) = true := by
  have hl := signs_len
  have hj : (d % 94).toNat < (signs1 ++ signs2).cps.toList.length := by omega
  unfold signAt
  rw [List.getD_eq_getElem?_getD, List.getElem?_eq_getElem hj]
  exact List.all_eq_true.mp signs_ok _ (List.getElem_mem hj)
theorem join_singles (cs : List Nat) : Txt.join ⟨#[]⟩ (cs.map fun c => (⟨#[c]⟩ : Str)) = ⟨cs.toArray⟩ := by
  have h := SX.join_S [] (cs.map fun c => [c])
  rw [List.map_map] at h
  have e : ∀ l : List Nat, TL.joinL [] (l.map fun c => [c]) = l := by
    intro l
    induction l with
    | nil => rfl
    | cons a l ih =>
      cases l with
      | nil => rfl
      | cons b l => exact congrArg (a :: ·) ih
  rw [e] at h
  exact h
/-! ### arguments: kind, value, octets -/
structure Arg where
  kind : Str
  val : AV
  os : List Int
def bodyOf (args : List Arg) : List Int := args.flatMap Arg.os
theorem body_take {args : List Arg} {i : Nat} {g : Arg} (h : args[i]? = some g) : bodyOf (args.take (i + 1)) = bodyOf (args.take i) ++ g.os := fl_take' Arg.os args i g h
theorem body_le (args : List Arg) (i : Nat) : (bodyOf (args.take i)).length ≤ (bodyOf args).length := fl_le' Arg.os args i
theorem body_len_le {args : List Arg} {c : Nat} (h : ∀ g ∈ args, g.os.length ≤ c) : (bodyOf args).length ≤ c * args.length := by
  induction args with
  | nil => exact Nat.zero_le _
  | cons g r ih =>
    show (g.os ++ bodyOf r).length ≤ c * (r.length + 1)
    rw [List.length_append, Nat.mul_succ]
    have := ih fun x hx => h x (List.mem_cons_of_mem _ hx)
    have := h g List.mem_cons_self
    omega
/-! ### number_at, _cut, cut_messages -/
def numAt (xs : List Int) (at_ c : Nat) : Int := ((List.range c).map fun k => xs.getD (at_ + k) 0 * 2 ^ (8 * k)).sum
theorem numAt2 (xs : List Int) (p : Nat) : numAt xs p 2 = xs.getD p 0 + 256 * xs.getD (p + 1) 0 := by
  show xs.getD (p + 0) 0 * 2 ^ 0 + (xs.getD (p + 1) 0 * 2 ^ 8 + 0) = _
  rw [Nat.add_zero]; omega
theorem numAt4 (xs : List Int) (p : Nat) : numAt xs p 4 = xs.getD p 0 + 256 * xs.getD (p + 1) 0 + 65536 * xs.getD (p + 2) 0 + 16777216 * xs.getD (p + 3) 0 := by
  show xs.getD (p + 0) 0 * 2 ^ 0 + (xs.getD (p + 1) 0 * 2 ^ 8 + (xs.getD (p + 2) 0 * 2 ^ 16 + (xs.getD (p + 3) 0 * 2 ^ 24 + 0))) = _
  rw [Nat.add_zero]; omega
def okOcts (xs : List Int) : Prop := ∀ x ∈ xs, 0 ≤ x ∧ x ≤ 255
theorem getD_at {xs : List Int} {i : Nat} (h : i < xs.length) : (xs.map V.int)[i]? = some (.int (xs.getD i 0)) := by
  rw [List.getElem?_map, List.getElem?_eq_getElem h, List.getD_eq_getElem?_getD, List.getElem?_eq_getElem h]; rfl
theorem okOcts.get {xs : List Int} (h : okOcts xs) (i : Nat) : 0 ≤ xs.getD i 0 ∧ xs.getD i 0 ≤ 255 := by
  rw [List.getD_eq_getElem?_getD]
  cases e : xs[i]? with
  | none => decide
  | some x => exact h x (List.mem_of_getElem? e)
def sp_number_at (K : PySem.W.Frag) : Sp := fun vs H Q _ => ∃ (a : Addr) (xs : List Int) (p c : Nat), vs = [.ref a, .int (p : Int), .int (c : Int)] ∧ SqL K H a (xs.map V.int) ∧ okOcts xs ∧ p + c ≤ xs.length ∧ c ≤ 1000 ∧ ∀ H', Same H H' → Q (.int (numAt xs p c)) H'
theorem sc_number_at : FnScope ["octets", "at", "count", "place"] ["octets", "at", "count"] (defScope s_number_at) := ⟨rfl, rfl, rfl, by decide +kernel, rfl, by decide +kernel, by decide +kernel⟩
theorem ok_number_at (T : Txt0 P K mg A) : FnOk P w K mg base CX0 1 A.fnumber_at A.dnumber_at ["octets", "at", "count"] (sp_number_at K) := by
  refine T.Fnumber_at.ok sc_number_at (fun vs H Q E h => ?_) (fun cdv Ar outer s H vs Q E hr h => ?_)
  · obtain ⟨a, xs, p, c, rfl, _⟩ := h
    rfl
  · obtain ⟨a, xs, p, c, rfl, hS, ho, hl, hc, q⟩ := h
    refine ⟨_, (pss_one (ps_ret (pe_callB (cr_sum rfl) (by rfl) T.sum (by decide +kernel) (pa_cons (pe_lc (own := [("place", 3)]) (g := (gName 3)) (tt := tYes) rfl sc_number_at.nd (pi_range1 (by rfl) T.range (pa_cons (pv 2) pa_nil)) (blkOk_by (own := [("place", 3)]) (N := ["octets", "at", "count", "place"]) (sc := defScope s_number_at) (by decide +kernel)) (fun _ _ _ _ _ => (pg_name (i := 3) sc_number_at.nd rfl (Or.inl rfl))) (fun _ _ _ _ _ => pts_nil) (fun _ _ _ _ _ => by exact (pe_op op_shl (pe_ix (r := rIxL K) ix_list (pv 0) (pe_op op_add (pv 1) (pv 3)) (fun _ _ => rfl)) (pe_op op_mul pe_int (pv 3))))) pa_nil)))), ?_⟩
    refine ⟨_, rfl, (c : Int), rfl, by omega, by omega, fun D hD => ?_⟩
    refine lc_dp (walk_range (lo := 0) (n := (c : Int).toNat)) (K := K) (V0 := H) (H0 := H) (fun k => some (PyData.int (xs.getD (p + k) 0 * 2 ^ (8 * k)))) [some (.ref a), some (.int (p : Int)), some (.int (c : Int)), none] rfl (Same.refl _) hD (by omega) (fun _ _ => trivial) (fun i x H H' y => y.1) ?_ ?_
    · rintro i x U H1 hi xx ⟨_, rfl⟩ Qy Qn hy _
      have hb := ho.get (p + i)
      have e1 : (8 * (0 + (i : Int))).toNat = 8 * i := by omega
      refine ⟨rfl, _, rfl, _, rfl, _, rfl, _, _, rfl, rfl, a, _, _, .int (xs.getD (p + i) 0), rfl, rfl, xx.hh.seq hS, at_of (j := p + i) (by omega) (getD_at (by omega)), ?_⟩
      refine ⟨_, rfl, _, _, rfl, rfl, Or.inl ⟨by decide, by decide⟩, _, _, rfl, rfl, ⟨?_, ?_, ?_⟩, ?_⟩
      · show (0 : Int) ≤ 8 * (0 + (i : Int)); omega
      · show 8 * (0 + (i : Int)) ≤ 1000000; omega
      · have : (xs.getD (p + i) 0).natAbs ≤ 255 := by omega
        exact Nat.lt_of_le_of_lt this (by decide)
      · dsimp only
        rw [e1]
        exact hy _ _ _ _ rfl (Ext.refl xx.vh) (.int _)
    · rintro U H1 ys xx hDU dl _
      rw [show (c : Int).toNat = c by omega, fm_some, show ((List.range c).map fun k => PyData.int (xs.getD (p + k) 0 * 2 ^ (8 * k))) = ((List.range c).map fun k => xs.getD (p + k) 0 * 2 ^ (8 * k)).map PyData.int from by rw [List.map_map]; rfl] at dl
      have e := dp_intsV dl
      subst e
      exact ⟨D, _, rfl, SqL.of (xx.vh _ _ hDU), q _ xx.hh⟩
theorem cutV_nat {xs : List V} {i j : Nat} (h : i ≤ j) (hj : j ≤ xs.length) : cutV xs (some (i : Int)) (some (j : Int)) = (xs.drop i).take (j - i) := by
  unfold cutV
  rw [HT.sIx_nat, HT.sIx_nat, Nat.min_eq_left (show i ≤ xs.length by omega), Nat.min_eq_left hj]
/-! ### a rule: any(xs) of a list of ints -/
section
open PySem.Spec PyProof.Rows
theorem truth_ints {prog : Program} {w : World} {A : Around} {is : List Int} {its : List Value} (e : Vals (is.map V.int) its) :
    TruthOf prog w A (fun i v => its.toArray[i]? = some v) (fun i => (is.map fun x => (x != 0)).getD i false) := fun i v s Q E hv hq => by
  have hv' : its[i]? = some v := by simpa using hv
  have hlen : is.length = its.length := by rw [← e.length, List.length_map]
  have hi : i < is.length := by rw [hlen]; exact (List.getElem?_eq_some_iff.mp hv').1
  obtain ⟨u, hu, r⟩ := e.get (i := i) (x := .int is[i]) (by rw [List.getElem?_map, List.getElem?_eq_getElem hi]; rfl)
  rw [hv'] at hu
  obtain rfl := Option.some.inj hu
  obtain ⟨t, rfl⟩ := r
  have hg : (is.map fun x => (x != 0)).getD i false = (is[i] != 0) := by rw [List.getD_eq_getElem?_getD, List.getElem?_map, List.getElem?_eq_getElem hi]; rfl
  have hq' : Q ((is.map fun x => (x != 0)).getD i false) s := hq
  rw [hg] at hq'
  exact truthy_int hq'
def rAnyI (K : PySem.W.Frag) : List V → Hp → VK → Prop := fun vs H Q => ∃ (a : Addr) (is : List Int), vs = [V.ref a] ∧ SqL K H a (is.map V.int) ∧ Q (.bl (is.any fun x => (x != 0))) H
theorem cr_anyI {X : Cx} (hc : X.calm = true) : CallR X (.builtin "any") (rAnyI X.K) := by
  intro pins s σ H vs us Q I r h
  obtain ⟨a, is, rfl, hs, q⟩ := h
  obtain ⟨its, rv, hl, _⟩ := I.list hs
  rw [Vals.ref1 r]
  have hlen : is.length = its.length := by rw [← rv.length, List.length_map]
  refine call_any_walk (iter_any hl.isList fun s₂ e2 st hne => ?_)
  subst e2
  refine ⟨_, _, _, _, _, _, _, rfl, Walks.list (A := X.A.in1) (I.ok.hd hc) _ a hne its.toArray, st, truth_ints rv, fun h' tk hk => ?_⟩
  refine ⟨.bl _, H, I.kept fun b o eo => hk b o (fun hmem => ?_) (Heap.get?_push_of_some _ eo), ?_, q⟩
  · rcases List.mem_cons.mp hmem with e1 | hmem
    · exact absurd (e1 ▸ Heap.lt_size eo) (Nat.lt_irrefl _)
    · cases hmem
  · show Value.bool _ = Value.bool _
    have := any_range (is.map fun x => (x != 0))
    rw [List.length_map, hlen] at this
    rw [List.size_toArray, this, List.any_map]; rfl
end
/-! ### the reader: a model -/
inductive RErr
  | len | text | pad | miss
def rdNum (xs : List Int) (a : Nat) : Except RErr (Int × Nat) := if xs.length < a + 4 then .error .len else .ok (numAt xs a 4, a + 4)
def rdNamed (xs : List Int) (a : Nat) : Except RErr (Int × Nat) := match rdNum xs a with
  | .error e => .error e
  | .ok (n, b) => if n = 0 then .error .miss else .ok (n, b)
def rdPad (xs : List Int) (e : Nat) : Except RErr Nat :=
  if xs.length < e + padN e then .error .len else if ((xs.drop e).take (padN e)).any (fun x => (x != 0)) = true then .error .pad else .ok (e + padN e)
def codesS (cs : List Int) : Str := ⟨(cs.map Int.toNat).toArray⟩
def rdText (xs : List Int) (a : Nat) : Except RErr (Str × Nat) := match rdNum xs a with
  | .error e => .error e
  | .ok (l, b) => if ¬ (1 ≤ l ∧ l ≤ 1001) then .error .len else if xs.length < b + l.toNat then .error .len else
    if xs.getD (b + l.toNat - 1) 0 ≠ 0 ∨ ((xs.drop b).take (l.toNat - 1)).all codeOk = false then .error .text else
    match rdPad xs (b + l.toNat) with
    | .error e => .error e
    | .ok c => .ok (codesS ((xs.drop b).take (l.toNat - 1)), c)
def rdOcts (xs : List Int) (a : Nat) : Except RErr (List Int × Nat) := match rdNum xs a with
  | .error e => .error e
  | .ok (l, b) => if 16384 < l then .error .len else
    match rdPad xs (b + l.toNat) with
    | .error e => .error e
    | .ok c => .ok ((xs.drop b).take l.toNat, c)
def rdBound (xs : List Int) (a : Nat) : Except RErr (AV × Nat) := match rdText xs a with
  | .error e => .error e
  | .ok (s, b) => match rdNamed xs b with
    | .error e => .error e
    | .ok (n, c) => .ok (.bnd s n, c)
def rdKind (k : Str) (xs : List Int) (a : Nat) : Except RErr (AV × Nat) :=
  if k = "text" then (match rdText xs a with | .error e => .error e | .ok (s, b) => .ok (.txt s, b))
  else if k = "octets" then (match rdOcts xs a with | .error e => .error e | .ok (s, b) => .ok (.oct s, b))
  else if k = "bound" then rdBound xs a
  else if k = "object" ∨ k = "new" then (match rdNamed xs a with | .error e => .error e | .ok (s, b) => .ok (.num s, b))
  else match rdNum xs a with
    | .error e => .error e
    | .ok (n, b) => .ok (.num (if k = "int" ∧ 2147483647 < n then n - 4294967296 else n), b)
/-- what a reader of the octets xs from p promises: err: what each of its errors gives -/
structure Src (K : PySem.W.Frag) (H : Hp) (a : Addr) (xs : List Int) : Prop where
  at_ : SqL K H a (xs.map V.int)
  ok : okOcts xs
  len : xs.length < 100000
theorem Src.to {K : PySem.W.Frag} {H H' : Hp} {a : Addr} {xs : List Int} (h : Src K H a xs) (s : Same H H') : Src K H' a xs := ⟨s.seq h.at_, h.ok, h.len⟩
theorem cut_ints {xs : List Int} {i j : Nat} (h : i ≤ j) (hj : j ≤ xs.length) : cutV (xs.map V.int) (some (i : Int)) (some (j : Int)) = ((xs.drop i).take (j - i)).map V.int := by
  have := cutV_nat (xs := xs.map V.int) (i := i) (j := j) h (by rw [List.length_map]; exact hj)
  rw [List.map_take, List.map_drop]
  exact this
def sp__demand (K : PySem.W.Frag) (c : RErr → Addr) : Sp := fun vs H Q E => ∃ (a : Addr) (xs : List Int) (e : Nat), vs = [.ref a, .int (e : Int)] ∧ SqL K H a (xs.map V.int) ∧ (xs.length < e → E (.ref (c .len)) none H) ∧ (¬ xs.length < e → Q .non H)
def errOf (A : Adr) : RErr → Addr
  | .len => A.CBadLength
  | .text => A.CBadText
  | .pad => A.CBadPadding
  | .miss => A.CObjectMissing
theorem sc__demand : FnScope ["octets", "end"] ["octets", "end"] (defScope s__demand) := ⟨rfl, rfl, rfl, by decide +kernel, rfl, by decide +kernel, by decide +kernel⟩
theorem ok__demand (T : Txt0 P K mg A) : FnOk P w K mg base (L2N.CX P w) 1 A.f_demand A.d_demand ["octets", "end"] (sp__demand K (errOf A)) := by
  refine T.F_demand.okN sc__demand (fun vs H Q E h => ?_) (fun cdv Ar outer s H vs Q E hr h => ?_)
  · obtain ⟨a, xs, e, rfl, _⟩ := h
    rfl
  · obtain ⟨a, xs, e, rfl, hS, qe, q⟩ := h
    refine ⟨_, (pss_one (ps_if (pt_cmpR op_lt (pe_callB call_len_seq (by rfl) T.len PySem.boot_len (pa_cons (pv 0) pa_nil)) (pv 1) (nomark _))
      (pss_one (L2N.ps_raise rfl (L2N.takes_of rfl rfl rfl rfl) (L2N.pmk_own PySem.F.excBase_ValueError T.xBadLength T.gBadLength T.kBadLength (raises_own T.bxBadLength T.txBadLength) rfl)))
      pss_nil)), ?_⟩
    refine ⟨_, rfl, a, _, rfl, .inl hS, _, rfl, _, _, rfl, rfl, _, rfl, ?_⟩
    rw [List.length_map]
    exact iteP (fun c => qe (by omega)) (fun c => q (by omega))
def sp__read_number (K : PySem.W.Frag) (c : RErr → Addr) : Sp := fun vs H Q E => ∃ (a : Addr) (xs : List Int) (p : Nat), vs = [.ref a, .int (p : Int)] ∧ Src K H a xs ∧
  (∀ e, rdNum xs p = .error e → E (.ref (c e)) none H) ∧ (∀ n b t H', rdNum xs p = .ok (n, b) → Same H H' → SqT K H' t [.int n, .int (b : Int)] → Q (.ref t) H')
theorem sc__read_number : FnScope ["octets", "at"] ["octets", "at"] (defScope s__read_number) := ⟨rfl, rfl, rfl, by decide +kernel, rfl, by decide +kernel, by decide +kernel⟩
theorem ok__read_number (T : Txt0 P K mg A) : FnOk P w K mg base (L2N.CX P w) 2 A.f_read_number A.d_read_number ["octets", "at"] (sp__read_number K (errOf A)) := by
  refine T.F_read_number.okN sc__read_number (fun vs H Q E h => ?_) (fun cdv Ar outer s H vs Q E hr h => ?_)
  · obtain ⟨a, xs, p, rfl, _⟩ := h
    rfl
  · obtain ⟨a, xs, p, rfl, hS, qe, q⟩ := h
    refine ⟨_, (pss_cons (ps_expr (pe_call (ok__demand T) (hr.mono (by decide)) rfl T.g_demand T.k_demand T.b_demand .nil (L2N.passes_call (L2N.takes_of rfl rfl rfl rfl) (fun _ _ _ _ h => h)) (pa_cons (pv 0) (pa_cons (pe_op op_add (pv 1) pe_int) pa_nil))))
      (pss_one (ps_ret (pe_tup (pa_cons (pe_call (ok_number_at T) (hr.mono (by decide)) rfl T.gnumber_at T.knumber_at T.bnumber_at .nil pass0 (pa_cons (pv 0) (pa_cons (pv 1) (pa_cons pe_int pa_nil)))) (pa_cons (pe_op op_add (pv 1) pe_int) pa_nil)))))), ?_⟩
    unfold rdNum at qe q
    refine ⟨_, rfl, _, rfl, _, _, rfl, rfl, a, xs, p + 4, rfl, hS.at_, fun c => qe .len (by rw [if_pos c]), fun c => ?_⟩
    rw [if_neg c] at q
    refine ⟨_, rfl, _, rfl, a, xs, p, 4, rfl, hS.at_, hS.ok, by omega, by decide, fun H1 s1 => ?_⟩
    exact ⟨_, rfl, _, _, rfl, rfl, len_line (by show 2 ≤ 100000; decide), fun t ht => q _ _ t _ rfl (s1.trans (same_upd ht)) (SqT.of upd_same)⟩
def sp__read_named (K : PySem.W.Frag) (c : RErr → Addr) : Sp := fun vs H Q E => ∃ (a : Addr) (xs : List Int) (p : Nat), vs = [.ref a, .int (p : Int)] ∧ Src K H a xs ∧
  (∀ e H', rdNamed xs p = .error e → Same H H' → E (.ref (c e)) none H') ∧ (∀ n b t H', rdNamed xs p = .ok (n, b) → Same H H' → SqT K H' t [.int n, .int (b : Int)] → Q (.ref t) H')
theorem sc__read_named : FnScope ["octets", "at", "number", "behind"] ["octets", "at"] (defScope s__read_named) := ⟨rfl, rfl, rfl, by decide +kernel, rfl, by decide +kernel, by decide +kernel⟩
theorem ok__read_named (T : Txt0 P K mg A) : FnOk P w K mg base (L2N.CX P w) 3 A.f_read_named A.d_read_named ["octets", "at"] (sp__read_named K (errOf A)) := by
  refine T.F_read_named.okN sc__read_named (fun vs H Q E h => ?_) (fun cdv Ar outer s H vs Q E hr h => ?_)
  · obtain ⟨a, xs, p, rfl, _⟩ := h
    rfl
  · obtain ⟨a, xs, p, rfl, hS, qe, q⟩ := h
    refine ⟨_, (pss_cons (ps_asg (pe_call (ok__read_number T) (hr.mono (by decide)) rfl T.g_read_number T.k_read_number T.b_read_number .nil (L2N.passes_call (L2N.takes_of rfl rfl rfl rfl) (fun _ _ _ _ h => h)) (pa_cons (pv 0) (pa_cons (pv 1) pa_nil))) (pg_tup rfl (pgs_cons (pg_name (i := 2) sc__read_named.nd rfl (Or.inl rfl)) (pgs_cons (pg_name (i := 3) sc__read_named.nd rfl (Or.inl rfl)) pgs_nil))))
      (pss_cons (ps_if (pt_cmpR op_eq (pv 2) pe_int (nomark _))
      (pss_one (L2N.ps_raise rfl (L2N.takes_of rfl rfl rfl rfl) (L2N.pmk_own PySem.F.excBase_ValueError T.xObjectMissing T.gObjectMissing T.kObjectMissing (raises_own T.bxObjectMissing T.txObjectMissing) rfl)))
      pss_nil)
      (pss_one (ps_ret (pe_tup (pa_cons (pv 2) (pa_cons (pv 3) pa_nil))))))), ?_⟩
    unfold rdNamed at qe q
    refine ⟨_, rfl, _, rfl, a, xs, p, rfl, hS, fun e he => qe e H (by rw [he]) (Same.refl H), fun n b t H1 he s1 ht => ?_⟩
    rw [he] at qe q
    refine ⟨t, _, rfl, ht, rfl, _, _, rfl, _, _, rfl, rfl, ?_⟩
    refine ⟨_, rfl, rfl, _, rfl, iteEq (fun c => ?_) (fun c => ?_)⟩
    · exact qe .miss H1 (if_pos c) s1
    · exact ⟨_, rfl, _, rfl, len_line (by show 2 ≤ 100000; decide), fun t ht => q _ _ t _ (if_neg c) (s1.trans (same_upd ht)) (SqT.of upd_same)⟩
def sp__behind_padding (K : PySem.W.Frag) (c : RErr → Addr) : Sp := fun vs H Q E => ∃ (a : Addr) (xs : List Int) (p : Nat), vs = [.ref a, .int (p : Int)] ∧ Src K H a xs ∧
  (∀ e H', rdPad xs p = .error e → Same H H' → E (.ref (c e)) none H') ∧ (∀ b H', rdPad xs p = .ok b → Same H H' → Q (.int (b : Int)) H')
theorem sc__behind_padding : FnScope ["octets", "end", "behind"] ["octets", "end"] (defScope s__behind_padding) := ⟨rfl, rfl, rfl, by decide +kernel, rfl, by decide +kernel, by decide +kernel⟩
theorem ok__behind_padding (T : Txt0 P K mg A) : FnOk P w K mg base (L2N.CX P w) 2 A.f_behind_padding A.d_behind_padding ["octets", "end"] (sp__behind_padding K (errOf A)) := by
  refine T.F_behind_padding.okN sc__behind_padding (fun vs H Q E h => ?_) (fun cdv Ar outer s H vs Q E hr h => ?_)
  · obtain ⟨a, xs, p, rfl, _⟩ := h
    rfl
  · obtain ⟨a, xs, p, rfl, hS, qe, q⟩ := h
    refine ⟨_, (pss_cons (ps_set (i := 2) sc__behind_padding.nd rfl (Or.inl rfl) (pe_op op_add (pv 1) (pe_op op_mod (pe_un un_neg (pv 1)) pe_int)))
      (pss_cons (ps_expr (pe_call (ok__demand T) (hr.mono (by decide)) rfl T.g_demand T.k_demand T.b_demand .nil (L2N.passes_call (L2N.takes_of rfl rfl rfl rfl) (fun _ _ _ _ h => h)) (pa_cons (pv 0) (pa_cons (pv 2) pa_nil))))
      (pss_cons (ps_if (pt_val (pe_callB (cr_anyI rfl) (by rfl) T.any (by decide +kernel) (pa_cons (pe_slice (r := rSlL K) sl_list (pv 0) (po_some (pv 1)) (po_some (pv 2))) pa_nil)))
      (pss_one (L2N.ps_raise rfl (L2N.takes_of rfl rfl rfl rfl) (L2N.pmk_own PySem.F.excBase_ValueError T.xBadPadding T.gBadPadding T.kBadPadding (raises_own T.bxBadPadding T.txBadPadding) rfl)))
      pss_nil)
      (pss_one (ps_ret (pv 2)))))), ?_⟩
    unfold rdPad at qe q
    refine ⟨_, rfl, _, rfl, _, rfl, _, _, rfl, rfl, by show (0 : Int) < 4; decide, _, _, rfl, rfl, ?_⟩
    have ep : (p : Int) + -(p : Int) % 4 = ((p + padN p : Nat) : Int) := by unfold padN; omega
    dsimp only
    rw [ep]
    refine ⟨_, rfl, _, rfl, a, xs, p + padN p, rfl, hS.at_, fun c => qe .len H (by rw [if_pos c]) (Same.refl H), fun c => ?_⟩
    rw [if_neg c] at qe q
    refine ⟨_, rfl, _, rfl, _, rfl, _, rfl, _, rfl, a, _, rfl, hS.at_, fun b hb => ?_⟩
    rw [cut_ints (by omega) (by omega), show p + padN p - p = padN p by omega]
    have sb := same_upd (o := .lst (((xs.drop p).take (padN p)).map V.int)) hb
    refine ⟨b, _, rfl, SqL.of upd_same, _, rfl, if_b (fun c2 => qe .pad _ (if_pos c2) sb) (fun c2 => ⟨_, rfl, q _ _ (if_neg (by rw [c2]; decide)) sb⟩)⟩
theorem chars_at {c : Int} (h : codeOk c = true) : 0 ≤ c - 32 ∧ (" !\"#$ &'()*+,-./0123456789:;<=>?@ABCDEFGHIJKLMNOPQRSTUVWXYZ[\\]^_`abcdefghijklmnopqrstuvwxyz{|}~" : Str).cps.toList[(c - 32).toNat]? = some c.toNat := by
  have hc := of_decide_eq_true h
  refine ⟨by omega, ?_⟩
  have : ∀ k : Fin 95, k.val ≠ 5 → (" !\"#$ &'()*+,-./0123456789:;<=>?@ABCDEFGHIJKLMNOPQRSTUVWXYZ[\\]^_`abcdefghijklmnopqrstuvwxyz{|}~" : Str).cps.toList[k.val]? = some (k.val + 32) := by decide +kernel
  have := this ⟨(c - 32).toNat, by omega⟩ (by show (c - 32).toNat ≠ 5; omega)
  rw [show c.toNat = (c - 32).toNat + 32 by omega]
  exact this
def sp__read_octets (K : PySem.W.Frag) (c : RErr → Addr) : Sp := fun vs H Q E => ∃ (a : Addr) (xs : List Int) (p : Nat) (U : Hp), vs = [.ref a, .int (p : Int)] ∧ Src K H a xs ∧ Same U H ∧
  (∀ e H', rdOcts xs p = .error e → Same H H' → E (.ref (c e)) none H') ∧
  (∀ ys b v t U' H', rdOcts xs p = .ok (ys, b) → Ext U H U' H' → U' v = some (.lst (ys.map V.int)) → SqT K H' t [.ref v, .int (b : Int)] → Q (.ref t) H')
theorem sc__read_octets : FnScope ["octets", "at", "length", "begin", "end", "behind"] ["octets", "at"] (defScope s__read_octets) := ⟨rfl, rfl, rfl, by decide +kernel, rfl, by decide +kernel, by decide +kernel⟩
theorem ok__read_octets (T : Txt0 P K mg A) : FnOk P w K mg base (L2N.CX P w) 3 A.f_read_octets A.d_read_octets ["octets", "at"] (sp__read_octets K (errOf A)) := by
  refine T.F_read_octets.okN sc__read_octets (fun vs H Q E h => ?_) (fun cdv Ar outer s H vs Q E hr h => ?_)
  · obtain ⟨a, xs, p, U, rfl, _⟩ := h
    rfl
  · obtain ⟨a, xs, p, U, rfl, hS, sU, qe, q⟩ := h
    refine ⟨_, (pss_cons (ps_asg (pe_call (ok__read_number T) (hr.mono (by decide)) rfl T.g_read_number T.k_read_number T.b_read_number .nil (L2N.passes_call (L2N.takes_of rfl rfl rfl rfl) (fun _ _ _ _ h => h)) (pa_cons (pv 0) (pa_cons (pv 1) pa_nil))) (pg_tup rfl (pgs_cons (pg_name (i := 2) sc__read_octets.nd rfl (Or.inl rfl)) (pgs_cons (pg_name (i := 3) sc__read_octets.nd rfl (Or.inl rfl)) pgs_nil))))
      (pss_cons (ps_if (pt_cmpR op_gt (pv 2) (pe_glob (v := .int (16384)) rfl T.gMOST_OCTETS ⟨_, rfl⟩) (nomark _))
      (pss_one (L2N.ps_raise rfl (L2N.takes_of rfl rfl rfl rfl) (L2N.pmk_own PySem.F.excBase_ValueError T.xBadLength T.gBadLength T.kBadLength (raises_own T.bxBadLength T.txBadLength) rfl)))
      pss_nil)
      (pss_cons (ps_set (i := 4) sc__read_octets.nd rfl (Or.inl rfl) (pe_op op_add (pv 3) (pv 2)))
      (pss_cons (ps_set (i := 5) sc__read_octets.nd rfl (Or.inl rfl) (pe_call (ok__behind_padding T) (hr.mono (by decide)) rfl T.g_behind_padding T.k_behind_padding T.b_behind_padding .nil (L2N.passes_call (L2N.takes_of rfl rfl rfl rfl) (fun _ _ _ _ h => h)) (pa_cons (pv 0) (pa_cons (pv 4) pa_nil))))
      (pss_one (ps_ret (pe_tup (pa_cons (pe_slice (r := rSlL K) sl_list (pv 0) (po_some (pv 3)) (po_some (pv 4))) (pa_cons (pv 5) pa_nil))))))))), ?_⟩
    unfold rdOcts at qe q
    refine ⟨_, rfl, _, rfl, a, xs, p, rfl, hS, fun e he => qe e H (by rw [he]) (Same.refl H), fun n b t H1 he s1 ht => ?_⟩
    rw [he] at qe q
    dsimp only at qe q
    have hn0 : 0 ≤ n := by
      unfold rdNum at he
      split at he
      · cases he
      · cases he
        rw [numAt4]
        have := hS.ok.get p; have := hS.ok.get (p + 1); have := hS.ok.get (p + 2); have := hS.ok.get (p + 3)
        omega
    refine ⟨t, _, rfl, ht, rfl, _, _, rfl, _, _, rfl, rfl, ?_⟩
    refine ⟨_, rfl, _, _, rfl, rfl, _, rfl, iteP (fun c => qe .len H1 (if_pos c) s1) (fun c => ?_)⟩
    have c' : ¬ 16384 < n := c
    rw [if_neg c'] at qe q
    refine ⟨_, rfl, _, rfl, _, _, rfl, rfl, ?_⟩
    have eb : (b : Int) + n = ((b + n.toNat : Nat) : Int) := by omega
    dsimp only
    rw [eb]
    refine ⟨_, rfl, _, rfl, a, xs, b + n.toNat, rfl, hS.to s1, fun e H2 he s2 => qe e H2 (by rw [he]) (s1.trans s2), fun d H2 hd s2 => ?_⟩
    rw [hd] at q
    have hdl : b + n.toNat ≤ xs.length := by
      unfold rdPad at hd
      split at hd
      · cases hd
      · omega
    refine ⟨_, rfl, _, rfl, _, rfl, _, rfl, _, rfl, a, _, rfl, (s1.trans s2).seq hS.at_, fun v hv => ?_⟩
    rw [cut_ints (by omega) hdl, show b + n.toNat - b = n.toNat by omega]
    refine ⟨_, rfl, len_line (by show 2 ≤ 100000; decide), fun t2 ht2 => ?_⟩
    have x1 : Ext U H U H2 := ⟨Same.refl U, sU.trans (s1.trans s2), s1.trans s2, fun _ h => Or.inl h⟩
    have x2 := Ext.new (o := .lst (((xs.drop b).take n.toNat).map V.int)) x1.vh hv
    exact q _ _ v t2 _ _ rfl ((x1.trans x2).trans (Ext.skip x2.vh ht2)) upd_same (SqT.of upd_same)
/-! ### _read_text -/
theorem rdNum_nn {xs : List Int} (ho : okOcts xs) {p : Nat} {n : Int} {b : Nat} (he : rdNum xs p = .ok (n, b)) : 0 ≤ n := by
  unfold rdNum at he
  split at he
  · cases he
  · cases he
    rw [numAt4]
    have := ho.get p; have := ho.get (p + 1); have := ho.get (p + 2); have := ho.get (p + 3)
    omega
theorem rdPad_le {xs : List Int} {e b : Nat} (h : rdPad xs e = .ok b) : b = e + padN e ∧ b ≤ xs.length := by
  unfold rdPad at h
  split at h
  · cases h
  · split at h
    · cases h
    · cases h
      exact ⟨rfl, by omega⟩
theorem codesS_len (cs : List Int) : (codesS cs).length = cs.length := by show (cs.map Int.toNat).toArray.size = _; rw [List.size_toArray, List.length_map]
def sp__read_text (K : PySem.W.Frag) (c : RErr → Addr) : Sp := fun vs H Q E => ∃ (a : Addr) (xs : List Int) (p : Nat), vs = [.ref a, .int (p : Int)] ∧ Src K H a xs ∧
  (∀ e H', rdText xs p = .error e → Same H H' → E (.ref (c e)) none H') ∧ (∀ z b t H', rdText xs p = .ok (z, b) → z.length < 80000 → Same H H' → SqT K H' t [.str z, .int (b : Int)] → Q (.ref t) H')
theorem sc__read_text : FnScope ["octets", "at", "length", "begin", "end", "codes", "code", "behind"] ["octets", "at"] (defScope s__read_text) := ⟨rfl, rfl, rfl, by decide +kernel, rfl, by decide +kernel, by decide +kernel⟩
theorem ok__read_text (T : Txt0 P K mg A) : FnOk P w K mg base (L2N.CX P w) 3 A.f_read_text A.d_read_text ["octets", "at"] (sp__read_text K (errOf A)) := by
  refine T.F_read_text.okN sc__read_text (fun vs H Q E h => ?_) (fun cdv Ar outer s H vs Q E hr h => ?_)
  · obtain ⟨a, xs, p, rfl, _⟩ := h
    rfl
  · obtain ⟨a, xs, p, rfl, hS, qe, q⟩ := h
    refine ⟨_, (pss_cons (ps_asg (pe_call (ok__read_number T) (hr.mono (by decide)) rfl T.g_read_number T.k_read_number T.b_read_number .nil (L2N.passes_call (L2N.takes_of rfl rfl rfl rfl) (fun _ _ _ _ h => h)) (pa_cons (pv 0) (pa_cons (pv 1) pa_nil))) (pg_tup rfl (pgs_cons (pg_name (i := 2) sc__read_text.nd rfl (Or.inl rfl)) (pgs_cons (pg_name (i := 3) sc__read_text.nd rfl (Or.inl rfl)) pgs_nil))))
      (pss_cons (ps_if (pt_not (pt_chain op_le op_le pe_int (pv 2) (pe_op op_add (pe_glob (v := .int (1000)) rfl T.gLONGEST_TEXT ⟨_, rfl⟩) pe_int)))
      (pss_one (L2N.ps_raise rfl (L2N.takes_of rfl rfl rfl rfl) (L2N.pmk_own PySem.F.excBase_ValueError T.xBadLength T.gBadLength T.kBadLength (raises_own T.bxBadLength T.txBadLength) rfl)))
      pss_nil)
      (pss_cons (ps_set (i := 4) sc__read_text.nd rfl (Or.inl rfl) (pe_op op_add (pv 3) (pv 2)))
      (pss_cons (ps_expr (pe_call (ok__demand T) (hr.mono (by decide)) rfl T.g_demand T.k_demand T.b_demand .nil (L2N.passes_call (L2N.takes_of rfl rfl rfl rfl) (fun _ _ _ _ h => h)) (pa_cons (pv 0) (pa_cons (pv 4) pa_nil))))
      (pss_cons (ps_set (i := 5) sc__read_text.nd rfl (Or.inl rfl) (pe_slice (r := rSlL K) sl_list (pv 0) (po_some (pv 3)) (po_some (pe_op op_sub (pv 4) pe_int))))
      (pss_cons (ps_if (PW.pt (pw_or (pt_cmpR op_ne (pe_ix (r := rIxL K) ix_list (pv 0) (pe_op op_sub (pv 4) pe_int) (fun _ _ => rfl)) pe_int (nomark _)) (pw_or1 (pt_not (pt_val (pe_callB (cr_all rfl) (by rfl) T.all (by decide +kernel) (pa_cons (pe_lc (own := [("code", 6)]) (g := (gName 6)) (tt := tYes) rfl sc__read_text.nd (pi_list (pv 5)) (blkOk_by (own := [("code", 6)]) (N := ["octets", "at", "length", "begin", "end", "codes", "code", "behind"]) (sc := defScope s__read_text) (by decide +kernel)) (fun _ _ _ _ _ => (pg_name (i := 6) sc__read_text.nd rfl (Or.inl rfl))) (fun _ _ _ _ _ => pts_nil) (fun _ _ _ _ _ => by exact (pe_call (ok__is_code T) (hr.mono (by decide)) rfl T.g_is_code T.k_is_code T.b_is_code .nil pass0 (pa_cons (pv 6) pa_nil)))) pa_nil)))))))
      (pss_one (L2N.ps_raise rfl (L2N.takes_of rfl rfl rfl rfl) (L2N.pmk_own PySem.F.excBase_ValueError T.xBadText T.gBadText T.kBadText (raises_own T.bxBadText T.txBadText) rfl)))
      pss_nil)
      (pss_cons (ps_set (i := 7) sc__read_text.nd rfl (Or.inl rfl) (pe_call (ok__behind_padding T) (hr.mono (by decide)) rfl T.g_behind_padding T.k_behind_padding T.b_behind_padding .nil (L2N.passes_call (L2N.takes_of rfl rfl rfl rfl) (fun _ _ _ _ h => h)) (pa_cons (pv 0) (pa_cons (pv 4) pa_nil))))
      (pss_one (ps_ret (pe_tup (pa_cons (pe_join pe_str (pe_lc (own := [("code", 6)]) (g := (gName 6)) (tt := tYes) rfl sc__read_text.nd (pi_list (pv 5)) (blkOk_by (own := [("code", 6)]) (N := ["octets", "at", "length", "begin", "end", "codes", "code", "behind"]) (sc := defScope s__read_text) (by decide +kernel)) (fun _ _ _ _ _ => (pg_name (i := 6) sc__read_text.nd rfl (Or.inl rfl))) (fun _ _ _ _ _ => pts_nil) (fun _ _ _ _ _ => by exact (pe_ix (r := rIxS) ix_str (pe_glob (v := .str " !\"#$ &'()*+,-./0123456789:;<=>?@ABCDEFGHIJKLMNOPQRSTUVWXYZ[\\]^_`abcdefghijklmnopqrstuvwxyz{|}~") rfl T.g_CHARACTERS ⟨_, rfl⟩) (pe_op op_sub (pv 6) (pe_glob (v := .int (32)) rfl T.g_FIRST_CODE ⟨_, rfl⟩)) (fun _ _ => rfl))))) (pa_cons (pv 7) pa_nil)))))))))))), ?_⟩
    unfold rdText at qe q
    refine ⟨_, rfl, _, rfl, a, xs, p, rfl, hS, fun e he => qe e H (by rw [he]) (Same.refl H), fun n b t H1 he s1 ht => ?_⟩
    rw [he] at qe q
    dsimp only at qe q
    have hn0 := rdNum_nn hS.ok he
    refine ⟨t, _, rfl, ht, rfl, _, _, rfl, _, _, rfl, rfl, ?_⟩
    have bad : ¬ (1 ≤ n ∧ n ≤ 1001) → E (.ref A.CBadLength) none H1 := fun c => qe .len H1 (if_pos c) s1
    refine ⟨_, rfl, _, _, rfl, rfl, _, rfl, iteP (fun c1 => ?_) (fun c1 => ⟨_, rfl, if_t rfl (bad fun z => c1 z.1)⟩)⟩
    refine ⟨_, _, rfl, rfl, _, _, rfl, rfl, _, rfl, iteN (fun c2 => bad fun z => c2 z.2) (fun c2 => ?_)⟩
    have c2' : n ≤ 1001 := c2
    rw [if_neg (fun z => z ⟨c1, c2'⟩)] at qe q
    refine ⟨_, rfl, _, rfl, _, _, rfl, rfl, ?_⟩
    have eb : (b : Int) + n = ((b + n.toNat : Nat) : Int) := by omega
    dsimp only
    rw [eb]
    refine ⟨_, rfl, _, rfl, a, xs, b + n.toNat, rfl, (hS.to s1).at_, fun c => qe .len H1 (if_pos c) s1, fun c3 => ?_⟩
    rw [if_neg c3] at qe q
    refine ⟨_, rfl, _, rfl, _, rfl, _, rfl, _, _, rfl, rfl, _, rfl, a, _, rfl, (hS.to s1).at_, fun v hv => ?_⟩
    have eb2 : ((b + n.toNat : Nat) : Int) - 1 = ((b + n.toNat - 1 : Nat) : Int) := by omega
    dsimp only
    rw [eb2, cut_ints (by omega) (by omega), show b + n.toNat - 1 - b = n.toNat - 1 by omega]
    generalize hcs : (xs.drop b).take (n.toNat - 1) = cs at qe q
    have hcl : cs.length ≤ 1000 := by rw [← hcs, List.length_take]; omega
    have s2 : Same H (upd H1 v (.lst (cs.map V.int))) := s1.trans (same_upd hv)
    have hv2 : (upd H1 v (.lst (cs.map V.int))) v = some (.lst (cs.map V.int)) := upd_same
    generalize upd H1 v (.lst (cs.map V.int)) = H2 at s2 hv2
    have bad2 : (xs.getD (b + n.toNat - 1) 0 ≠ 0 ∨ cs.all codeOk = false) → ∀ H', Same H H' → E (.ref A.CBadText) none H' := fun c H' s => qe .text H' (if_pos c) s
    refine ⟨_, rfl, _, rfl, _, _, rfl, rfl, a, _, _, .int (xs.getD (b + n.toNat - 1) 0), rfl, rfl, s2.seq hS.at_, at_of (j := b + n.toNat - 1) (by omega) (getD_at (by omega)), rfl, _, rfl, iteNe (fun c => if_t rfl (bad2 (Or.inl c) H2 s2)) (fun c4 => ?_)⟩
    refine ⟨_, rfl, v, rfl, ⟨_, SqL.of hv2⟩, fun D hD => ?_⟩
    refine lc_dp (walk_list (K := K) (a := v) (xs := cs.map V.int)) (K := K) (V0 := H2) (H0 := H2) (fun i => (cs[i]?).map fun x => PyData.bool (codeOk x)) [some (.ref a), some (.int (p : Int)), some (.int n), some (.int (b : Int)), some (.int ((b + n.toNat : Nat) : Int)), some (.ref v), none, none] rfl (Same.refl _) hD (by rw [List.length_map]; omega) (fun H' s => s.seq (SqL.of hv2)) (fun i x H H' y => y.1) ?_ ?_
    · rintro i x U H3 hi xx ⟨_, hx⟩ Qy Qn hy _
      rw [List.getElem?_map] at hx
      obtain ⟨z, hz, rfl⟩ := Option.map_eq_some_iff.mp hx
      exact ⟨rfl, _, rfl, z, rfl, hy _ _ _ _ (by rw [hz]; rfl) (Ext.refl xx.vh) (.bl _)⟩
    rintro U H3 _ xx _ _ dl
    rw [List.length_map, show fm (fun i => (cs[i]?).map fun x => PyData.bool (codeOk x)) cs.length = (cs.map codeOk).map PyData.bool from by
      rw [List.map_map]; exact fm_list _ _ _ rfl _ fun i x hx => by rw [hx]; rfl] at dl
    refine ⟨D, _, rfl, xx.vh.seq (dp_boolsL dl), ?_⟩
    have s3 := s2.trans xx.hh
    have hv3 := xx.hh _ _ hv2
    rw [List.all_map, show (id ∘ codeOk) = codeOk from rfl]
    cases hall : cs.all codeOk with
    | false => exact ⟨_, rfl, bad2 (Or.inr hall) H3 s3⟩
    | true =>
      rw [if_neg (fun z => z.elim (fun z => z c4) (fun z => by rw [hall] at z; cases z))] at qe q
      refine ⟨_, rfl, ?_⟩
      refine ⟨_, rfl, _, rfl, a, xs, b + n.toNat, rfl, hS.to s3, fun e H4 he s4 => qe e H4 (by rw [he]) (s3.trans s4), fun d H4 hd s4 => ?_⟩
      rw [hd] at q
      have hv4 := s4 _ _ hv3
      have s4' := s3.trans s4
      refine ⟨⟨_, rfl⟩, _, rfl, v, rfl, ⟨_, SqL.of hv4⟩, fun D2 hD2 => ?_⟩
      refine lc_dp (walk_list (K := K) (a := v) (xs := cs.map V.int)) (K := K) (V0 := H4) (H0 := H4) (fun i => (cs[i]?).map fun x => PyData.str ⟨#[x.toNat]⟩) [some (.ref a), some (.int (p : Int)), some (.int n), some (.int (b : Int)), some (.int ((b + n.toNat : Nat) : Int)), some (.ref v), none, some (.int (d : Int))] rfl (Same.refl _) hD2 (by rw [List.length_map]; omega) (fun H' s => s.seq (SqL.of hv4)) (fun i x H H' y => y.1) ?_ ?_
      · rintro i x U5 H5 hi xx5 ⟨_, hx⟩ Qy Qn hy _
        rw [List.getElem?_map] at hx
        obtain ⟨z, hz, rfl⟩ := Option.map_eq_some_iff.mp hx
        obtain ⟨k0, kc⟩ := chars_at (List.all_eq_true.mp hall z (List.mem_of_getElem? hz))
        exact ⟨rfl, _, rfl, _, _, rfl, rfl, _, _, z.toNat, rfl, rfl, by decide +kernel, at_of' (Int.toNat_of_nonneg k0).symm kc, hy _ _ _ _ (by rw [hz]; rfl) (Ext.refl xx5.vh) (.str _)⟩
      rintro U5 H5 ys xx5 hDU dl5 _
      rw [List.length_map, show fm (fun i => (cs[i]?).map fun x => PyData.str ⟨#[x.toNat]⟩) cs.length = ((cs.map Int.toNat).map fun c => (⟨#[c]⟩ : Str)).map PyData.str from by
        rw [List.map_map, List.map_map]; exact fm_list _ _ _ rfl _ fun i x hx => by rw [hx]; rfl] at dl5
      have e5 := dp_strsV dl5
      subst e5
      refine ⟨⟨#[]⟩, D2, (cs.map Int.toNat).map fun c => (⟨#[c]⟩ : Str), by decide +kernel, rfl, .inl (SqL.of (xx5.vh _ _ hDU)), ?_, ?_⟩
      · have e : ∀ cs : List Nat, ((cs.map fun c => (⟨#[c]⟩ : Str)).map (·.length)).sum = cs.length := by
          intro cs
          induction cs with
          | nil => rfl
          | cons c cs ih => rw [List.map_cons, List.map_cons, List.sum_cons, ih]; show 1 + cs.length = cs.length + 1; omega
        rw [e, List.length_map]; show cs.length + _ * 0 ≤ _; omega
      · rw [join_singles]
        refine ⟨_, rfl, len_line (by show 2 ≤ 100000; decide), fun t5 ht5 => ?_⟩
        exact q (codesS cs) d t5 _ rfl (by rw [codesS_len]; omega) (s4'.trans (xx5.hh.trans (same_upd ht5))) (SqT.of upd_same)
/-! ### _read, read_arguments -/
def sp__read (K : PySem.W.Frag) (c : RErr → Addr) : Sp := fun vs H Q E => ∃ (k : Str) (a : Addr) (xs : List Int) (p : Nat) (U : Hp), vs = [.str k, .ref a, .int (p : Int)] ∧ Src K H a xs ∧ Same U H ∧
  (∀ e H', rdKind k xs p = .error e → Same H H' → E (.ref (c e)) none H') ∧
  (∀ x b v t U' H', rdKind k xs p = .ok (x, b) → Ext U H U' H' → ArgAt K U' v x → SqT K H' t [v, .int (b : Int)] → Q (.ref t) H')
theorem sc__read : FnScope ["kind", "octets", "at", "text", "behind", "number"] ["kind", "octets", "at"] (defScope s__read) := ⟨rfl, rfl, rfl, by decide +kernel, rfl, by decide +kernel, by decide +kernel⟩
theorem ok__read (T : Txt0 P K mg A) : FnOk P w K mg base (L2N.CX P w) 4 A.f_read A.d_read ["kind", "octets", "at"] (sp__read K (errOf A)) := by
  refine T.F_read.okN sc__read (fun vs H Q E h => ?_) (fun cdv Ar outer s H vs Q E hr h => ?_)
  · obtain ⟨k, a, xs, p, U, rfl, _⟩ := h
    rfl
  · obtain ⟨k, a, xs, p, U, rfl, hS, sU, qe, q⟩ := h
    refine ⟨_, (pss_cons (ps_if (pt_cmpR op_eq (pv 0) pe_str (nomark _))
      (pss_one (ps_ret (pe_call (ok__read_text T) (hr.mono (by decide)) rfl T.g_read_text T.k_read_text T.b_read_text .nil (L2N.passes_call (L2N.takes_of rfl rfl rfl rfl) (fun _ _ _ _ h => h)) (pa_cons (pv 1) (pa_cons (pv 2) pa_nil)))))
      pss_nil)
      (pss_cons (ps_if (pt_cmpR op_eq (pv 0) pe_str (nomark _))
      (pss_one (ps_ret (pe_call (ok__read_octets T) (hr.mono (by decide)) rfl T.g_read_octets T.k_read_octets T.b_read_octets .nil (L2N.passes_call (L2N.takes_of rfl rfl rfl rfl) (fun _ _ _ _ h => h)) (pa_cons (pv 1) (pa_cons (pv 2) pa_nil)))))
      pss_nil)
      (pss_cons (ps_if (pt_cmpR op_eq (pv 0) pe_str (nomark _))
      (pss_cons (ps_asg (pe_call (ok__read_text T) (hr.mono (by decide)) rfl T.g_read_text T.k_read_text T.b_read_text .nil (L2N.passes_call (L2N.takes_of rfl rfl rfl rfl) (fun _ _ _ _ h => h)) (pa_cons (pv 1) (pa_cons (pv 2) pa_nil))) (pg_tup rfl (pgs_cons (pg_name (i := 3) sc__read.nd rfl (Or.inl rfl)) (pgs_cons (pg_name (i := 4) sc__read.nd rfl (Or.inl rfl)) pgs_nil))))
      (pss_cons (ps_asg (pe_call (ok__read_named T) (hr.mono (by decide)) rfl T.g_read_named T.k_read_named T.b_read_named .nil (L2N.passes_call (L2N.takes_of rfl rfl rfl rfl) (fun _ _ _ _ h => h)) (pa_cons (pv 1) (pa_cons (pv 4) pa_nil))) (pg_tup rfl (pgs_cons (pg_name (i := 5) sc__read.nd rfl (Or.inl rfl)) (pgs_cons (pg_name (i := 4) sc__read.nd rfl (Or.inl rfl)) pgs_nil))))
      (pss_one (ps_ret (pe_tup (pa_cons (pe_tup (pa_cons (pv 3) (pa_cons (pv 5) pa_nil))) (pa_cons (pv 4) pa_nil)))))))
      pss_nil)
      (C8.pss_cut (ps_if (PW.pt (pw_or (pt_cmpR op_eq (pv 0) pe_str (nomark _)) (pw_or1 (pt_cmpR op_eq (pv 0) pe_str (nomark _)))))
      (pss_one (ps_ret (pe_call (ok__read_named T) (hr.mono (by decide)) rfl T.g_read_named T.k_read_named T.b_read_named .nil (L2N.passes_call (L2N.takes_of rfl rfl rfl rfl) (fun _ _ _ _ h => h)) (pa_cons (pv 1) (pa_cons (pv 2) pa_nil)))))
      pss_nil)
      (pss_cons (ps_asg (pe_call (ok__read_number T) (hr.mono (by decide)) rfl T.g_read_number T.k_read_number T.b_read_number .nil (L2N.passes_call (L2N.takes_of rfl rfl rfl rfl) (fun _ _ _ _ h => h)) (pa_cons (pv 1) (pa_cons (pv 2) pa_nil))) (pg_tup rfl (pgs_cons (pg_name (i := 5) sc__read.nd rfl (Or.inl rfl)) (pgs_cons (pg_name (i := 4) sc__read.nd rfl (Or.inl rfl)) pgs_nil))))
      (C8.pss_cut (ps_if (PW.pt (pw_and (pt_cmpR op_eq (pv 0) pe_str (nomark _)) (pw_and1 (pt_cmpR op_gt (pv 5) (pe_glob (v := .int (2147483647)) rfl T.gGREATEST_INT ⟨_, rfl⟩) (nomark _)))))
      (pss_one (ps_aug (i := 5) sc__read.nd rfl (Or.inl rfl) (pe_op op_pow pe_int pe_int) ip_sub))
      pss_nil)
      (pss_one (ps_ret (pe_tup (pa_cons (pv 5) (pa_cons (pv 4) pa_nil))))))))))), ?_⟩
    unfold rdKind at qe q
    have xk : ∀ {H1 : Hp}, Same H H1 → Ext U H U H1 := fun s => ⟨Same.refl U, sU.trans s, s, fun _ h => Or.inl h⟩
    refine ⟨_, rfl, rfl, _, rfl, if_b (fun c => ?_) (fun c => ?_)⟩
    · have e : k = "text" := V.str.inj (of_decide_eq_true c)
      rw [if_pos e] at qe q
      refine ⟨_, rfl, _, rfl, a, xs, p, rfl, hS, fun e H' he s => qe e H' (by rw [he]) s, fun z b t H' he hz s ht => ?_⟩
      exact q (.txt z) b (.str z) t U H' (by rw [he]) (xk s) ⟨rfl, hz⟩ ht
    have n1 : ¬ k = "text" := fun z => by rw [z, decide_eq_true rfl] at c; cases c
    rw [if_neg n1] at qe q
    refine ⟨_, rfl, rfl, _, rfl, if_b (fun c => ?_) (fun c => ?_)⟩
    · have e : k = "octets" := V.str.inj (of_decide_eq_true c)
      rw [if_pos e] at qe q
      refine ⟨_, rfl, _, rfl, a, xs, p, U, rfl, hS, sU, fun e H' he s => qe e H' (by rw [he]) s, fun ys b v t U' H' he hx hv ht => ?_⟩
      refine q (.oct ys) b (.ref v) t U' H' (by rw [he]) hx ⟨v, rfl, hv, ?_⟩ ht
      unfold rdOcts at he
      have := hS.len
      split at he
      · cases he
      · split at he
        · cases he
        · split at he
          · cases he
          · cases he
            rw [List.length_take, List.length_drop]; omega
    have n2 : ¬ k = "octets" := fun z => by rw [z, decide_eq_true rfl] at c; cases c
    rw [if_neg n2] at qe q
    refine ⟨_, rfl, rfl, _, rfl, if_b (fun c => ?_) (fun c => ?_)⟩
    · have e : k = "bound" := V.str.inj (of_decide_eq_true c)
      rw [if_pos e] at qe q
      unfold rdBound at qe q
      refine ⟨_, rfl, _, rfl, a, xs, p, rfl, hS, fun e H' he s => qe e H' (by rw [he]) s, fun z b t H1 he hz s1 ht => ?_⟩
      rw [he] at qe q
      dsimp only at qe q
      refine ⟨t, _, rfl, ht, rfl, _, _, rfl, _, _, rfl, rfl, ?_⟩
      refine ⟨_, rfl, _, rfl, a, xs, b, rfl, hS.to s1, fun e H' he s => qe e H' (by rw [he]) (s1.trans s), fun n d t2 H2 he2 s2 ht2 => ?_⟩
      rw [he2] at q
      refine ⟨t2, _, rfl, ht2, rfl, _, _, rfl, _, _, rfl, rfl, ?_⟩
      refine ⟨_, rfl, _, rfl, len_line (by show 2 ≤ 100000; decide), fun v hv => ?_⟩
      refine ⟨_, rfl, len_line (by show 2 ≤ 100000; decide), fun t3 ht3 => ?_⟩
      have x1 := (xk (s1.trans s2)).trans (Ext.new (o := .tup [.str z, .int n]) (xk (s1.trans s2)).vh hv)
      exact q (.bnd z n) d (.ref v) t3 _ _ rfl (x1.trans (Ext.skip x1.vh ht3)) ⟨v, rfl, SqT.of upd_same, hz⟩ (SqT.of upd_same)
    have n3 : ¬ k = "bound" := fun z => by rw [z, decide_eq_true rfl] at c; cases c
    rw [if_neg n3] at qe q
    refine ⟨fun σ' H' => σ' = [some (.str k), some (.ref a), some (.int (p : Int)), none, none, none] ∧ H' = H ∧ ¬ (k = "object" ∨ k = "new"), ?_, ?_⟩
    · have both : (k = "object" ∨ k = "new") → ∀ (Q' : VK), Q' = Q → sp__read_named K (errOf A) [.ref a, .int (p : Int)] H Q' E := fun e Q' eq => by
        subst eq
        rw [if_pos e] at qe q
        refine ⟨a, xs, p, rfl, hS, fun e H' he s => qe e H' (by rw [he]) s, fun n b t H' he s ht => ?_⟩
        exact q (.num n) b (.int n) t U H' (by rw [he]) (xk s) rfl ht
      refine ⟨_, rfl, rfl, _, rfl, if_b (fun c => ?_) (fun c => ?_)⟩
      · exact if_t rfl ⟨_, rfl, _, rfl, both (Or.inl (V.str.inj (of_decide_eq_true c))) _ rfl⟩
      refine ⟨_, rfl, rfl, _, rfl, if_b (fun c2 => ?_) (fun c2 => ?_)⟩
      · exact ⟨_, rfl, _, rfl, both (Or.inr (V.str.inj (of_decide_eq_true c2))) _ rfl⟩
      · exact ⟨rfl, rfl, fun z => by
          rcases z with z | z
          · rw [z, decide_eq_true rfl] at c; cases c
          · rw [z, decide_eq_true rfl] at c2; cases c2⟩
    rintro σ' H' ⟨rfl, e, n4⟩
    obtain rfl : H = H' := e.symm
    rw [if_neg n4] at qe q
    refine ⟨_, rfl, _, rfl, a, xs, p, rfl, hS, fun e he => qe e H (by rw [he]) (Same.refl H), fun n b t H1 he s1 ht => ?_⟩
    rw [he] at qe q
    dsimp only at qe q
    refine ⟨t, _, rfl, ht, rfl, _, _, rfl, _, _, rfl, rfl, ?_⟩
    refine ⟨fun σ' H' => σ' = [some (.str k), some (.ref a), some (.int (p : Int)), none, some (.int (b : Int)), some (.int (if k = "int" ∧ 2147483647 < n then n - 4294967296 else n))] ∧ H' = H1, ?_, ?_⟩
    · refine ⟨_, rfl, rfl, _, rfl, if_b (fun c => ?_) (fun c => if_f rfl ⟨?_, rfl⟩)⟩
      · have e : k = "int" := V.str.inj (of_decide_eq_true c)
        refine ⟨_, rfl, _, _, rfl, rfl, _, rfl, iteP (fun c2 => ?_) (fun c2 => ⟨?_, rfl⟩)⟩
        · have c2' : 2147483647 < n := c2
          rw [if_pos ⟨e, c2'⟩]
          refine ⟨_, rfl, _, _, rfl, rfl, ⟨by decide, by decide, by decide⟩, _, _, rfl, rfl, ?_, rfl⟩
          rw [show (2 : Int) ^ (32 : Int).toNat = 4294967296 by decide +kernel]; rfl
        · have c2' : ¬ 2147483647 < n := c2
          rw [if_neg (fun z => c2' z.2)]; rfl
      · rw [if_neg (fun z => by rw [z.1, decide_eq_true rfl] at c; cases c)]; rfl
    rintro σ' H' ⟨rfl, e⟩
    obtain rfl : H1 = H' := e.symm
    exact ⟨_, rfl, _, rfl, len_line (by show 2 ≤ 100000; decide), fun t3 ht3 => q (.num _) b (.int _) t3 U _ rfl (xk (s1.trans (same_upd ht3))) rfl (SqT.of upd_same)⟩
/-- read_arguments: the kinds from the i-th on -/
def rdAll (xs : List Int) : List Str → Nat → Except RErr (List AV × Nat)
  | [], p => .ok ([], p)
  | k :: ks, p => match rdKind k xs p with
    | .error e => .error e
    | .ok (x, b) => match rdAll xs ks b with
      | .error e => .error e
      | .ok (r, c) => .ok (x :: r, c)
def rdArgs (xs : List Int) (ks : List Str) : Except RErr (List AV) := match rdAll xs ks 0 with
  | .error e => .error e
  | .ok (r, c) => if c < xs.length then .error .len else .ok r
/-- the values of a list, one by one -/
def ValsAt (K : PySem.W.Frag) (H : Hp) (vs : List V) (rs : List AV) : Prop := vs.length = rs.length ∧ ∀ (i : Nat) (v : V), vs[i]? = some v → ∃ x, rs[i]? = some x ∧ ArgAt K H v x
theorem ValsAt.nil {K : PySem.W.Frag} {H : Hp} : ValsAt K H [] [] := ⟨rfl, fun i x hx => by cases i <;> cases hx⟩
theorem ValsAt.to {K : PySem.W.Frag} {H H' : Hp} {vs : List V} {rs : List AV} (h : ValsAt K H vs rs) (s : Same H H') : ValsAt K H' vs rs := by
  refine ⟨h.1, fun i v hv => ?_⟩
  obtain ⟨x, e1, e2⟩ := h.2 i v hv
  exact ⟨x, e1, e2.to s⟩
theorem ValsAt.push {K : PySem.W.Frag} {H : Hp} {vs : List V} {rs : List AV} (h : ValsAt K H vs rs) {v : V} {x : AV} (e : ArgAt K H v x) : ValsAt K H (vs ++ [v]) (rs ++ [x]) := by
  refine ⟨by rw [List.length_append, List.length_append, h.1]; rfl, fun i y hy => ?_⟩
  by_cases c : i < vs.length
  · rw [List.getElem?_append_left c] at hy
    obtain ⟨z, a1, a2⟩ := h.2 i y hy
    exact ⟨z, by rw [List.getElem?_append_left (by rw [← h.1]; exact c)]; exact a1, a2⟩
  · rw [List.getElem?_append_right (by omega)] at hy
    have hi : i - vs.length = 0 := by
      cases e : i - vs.length with
      | zero => rfl
      | succ n => rw [e] at hy; cases hy
    rw [hi] at hy
    refine ⟨x, ?_, by rw [← Option.some.inj hy]; exact e⟩
    rw [List.getElem?_append_right (by rw [← h.1]; omega), ← h.1, hi]; rfl
def sp_read_arguments (K : PySem.W.Frag) (c : RErr → Addr) : Sp := fun vs H Q E => ∃ (a b : Addr) (ks : List Str) (xs : List Int), vs = [.ref a, .ref b] ∧ SqL K H a (ks.map V.str) ∧ ks.length < 60000 ∧ Src K H b xs ∧
  (∀ e H', rdArgs xs ks = .error e → Same H H' → E (.ref (c e)) none H') ∧
  (∀ rs us p H', rdArgs xs ks = .ok rs → H p = none → Same H H' → H' p = some (.lst us) → ValsAt K H' us rs → Q (.ref p) H')
theorem sc_read_arguments : FnScope ["kinds", "octets", "values", "at", "kind", "value"] ["kinds", "octets"] (defScope s_read_arguments) := ⟨rfl, rfl, rfl, by decide +kernel, rfl, by decide +kernel, by decide +kernel⟩
theorem ok_read_arguments (T : Txt0 P K mg A) : FnOk P w K mg base (L2N.CX P w) 5 A.fread_arguments A.dread_arguments ["kinds", "octets"] (sp_read_arguments K (errOf A)) := by
  refine T.Fread_arguments.okN sc_read_arguments (fun vs H Q E h => ?_) (fun cdv Ar outer s H vs Q E hr h => ?_)
  · obtain ⟨a, b, ks, xs, rfl, _⟩ := h
    rfl
  · obtain ⟨a, b, ks, xs, rfl, hK, hkl, hS, qe, q⟩ := h
    refine ⟨_, (pss_cons (ps_set (i := 2) sc_read_arguments.nd rfl (Or.inl rfl) (pe_lst pa_nil))
      (pss_cons (ps_set (i := 3) sc_read_arguments.nd rfl (Or.inl rfl) pe_int)
      (pss_cons (ps_for (passes_of rfl) rfl (pi_list (pv 0)) (pg_name (i := 4) sc_read_arguments.nd rfl (Or.inl rfl))
      (pss_cons (ps_asg (pe_call (ok__read T) (hr.mono (by decide)) rfl T.g_read T.k_read T.b_read .nil (L2N.passes_call (L2N.takes_of rfl rfl rfl rfl) (fun _ _ _ _ h => h)) (pa_cons (pv 4) (pa_cons (pv 1) (pa_cons (pv 3) pa_nil)))) (pg_tup rfl (pgs_cons (pg_name (i := 5) sc_read_arguments.nd rfl (Or.inl rfl)) (pgs_cons (pg_name (i := 3) sc_read_arguments.nd rfl (Or.inl rfl)) pgs_nil))))
      (pss_one (ps_expr (pe_bm PySem.F.plainAttrs_list PySem.F.slot_list_append PySem.F.type_list_append mt_append (pv 2) (pa_cons (pv 5) pa_nil))))))
      (pss_cons (ps_if (pt_cmpR op_lt (pv 3) (pe_callB call_len_seq (by rfl) T.len PySem.boot_len (pa_cons (pv 1) pa_nil)) (nomark _))
      (pss_one (L2N.ps_raise rfl (L2N.takes_of rfl rfl rfl rfl) (L2N.pmk_own PySem.F.excBase_ValueError T.xBadLength T.gBadLength T.kBadLength (raises_own T.bxBadLength T.txBadLength) rfl)))
      pss_nil)
      (pss_one (ps_ret (pv 2))))))), ?_⟩
    unfold rdArgs at qe q
    refine ⟨len_line (by show 0 ≤ 100000; decide), fun p hp => ?_⟩
    have sp := same_upd (o := .lst []) hp
    refine ⟨_, rfl, a, rfl, ⟨_, sp.seq hK⟩, for_list (K := K) (a := a) (xs := ks.map V.str) (fun i σ H' => ∃ (pl : Nat) (v4 v5 : Option V) (U : Hp) (us : List V) (rs : List AV), σ = [some (.ref a), some (.ref b), some (.ref p), some (.int (pl : Int)), v4, v5] ∧ Ext H H U H' ∧ U p = none ∧ H' p = some (.lst us) ∧ ValsAt K U us rs ∧ us.length = i ∧
        rdAll xs ks 0 = (match rdAll xs (ks.drop i) pl with | .error e => .error e | .ok (r, c) => .ok (rs ++ r, c)))
      ⟨0, none, none, H, [], [], rfl, Ext.skip (Same.refl H) hp, hp, upd_same, ValsAt.nil, rfl, ?_⟩ (fun i σ H' _ ⟨_, _, _, _, _, _, _, x, _⟩ => x.hh.seq hK) ?_ ?_⟩
    · rw [List.drop_zero]
      cases rdAll xs ks 0 with
      | error e => rfl
      | ok r => rfl
    · rintro i x σ H1 hi ⟨pl, v4, v5, U, us, rs, rfl, x1, hU, hp1, hv, hl, hR⟩
      rw [List.getElem?_map] at hi
      obtain ⟨k, hk, rfl⟩ := Option.map_eq_some_iff.mp hi
      have hd : ks.drop i = k :: ks.drop (i + 1) := by
        have hil := (List.getElem?_eq_some_iff.mp hk).1
        rw [List.drop_eq_getElem_cons hil, (List.getElem?_eq_some_iff.mp hk).2]
      rw [hd] at hR
      refine ⟨_, rfl, _, rfl, _, rfl, k, b, xs, pl, U, rfl, hS.to x1.hh, x1.vh, fun e H2 he s2 => ?_, fun y c v t U2 H2 he x2 hy ht => ?_⟩
      · refine qe e H2 ?_ (x1.hh.trans s2)
        rw [hR]
        show (match (match rdAll xs (k :: ks.drop (i + 1)) pl with | .error e => .error e | .ok (r, c) => .ok (rs ++ r, c) : Except RErr (List AV × Nat)) with | .error e => .error e | .ok (r, c) => if c < xs.length then .error .len else .ok r : Except RErr (List AV)) = _
        unfold rdAll
        rw [he]
      · refine ⟨t, _, rfl, ht, rfl, _, _, rfl, _, _, rfl, rfl, ?_⟩
        have hp2 := x2.hh _ _ hp1
        have hU2 : U2 p = none := x2.keepOut hU (by rw [hp1]; exact fun z => by cases z)
        have hil := (List.getElem?_eq_some_iff.mp hk).1
        refine ⟨_, rfl, .inl ⟨rfl, _, SqL.of hp2⟩, _, rfl, p, us, v, rfl, rfl, hp2, lt_line (by omega), ?_⟩
        refine ⟨c, _, _, U2, us ++ [v], rs ++ [y], rfl, (x1.trans x2).poke hp hU2, hU2, upd_same, (hv.to x2.vv).push hy, by rw [List.length_append, hl]; rfl, ?_⟩
        rw [hR]
        conv => lhs; unfold rdAll
        rw [he]
        dsimp only
        cases rdAll xs (ks.drop (i + 1)) c with
        | error e => rfl
        | ok r => show Except.ok (rs ++ (y :: r.1), r.2) = Except.ok (rs ++ [y] ++ r.1, r.2); rw [List.append_assoc]; rfl
    · rintro σ H1 ⟨pl, v4, v5, U, us, rs, rfl, x1, hU, hp1, hv, hl, hR⟩
      rw [List.length_map, List.drop_length] at hR
      have hR' : rdAll xs ks 0 = .ok (rs, pl) := by rw [hR]; show Except.ok (rs ++ [], pl) = _; rw [List.append_nil]
      rw [hR'] at qe q
      dsimp only at qe q
      refine ⟨_, rfl, _, rfl, b, _, rfl, .inl (x1.hh.seq hS.at_), _, _, rfl, rfl, _, rfl, ?_⟩
      rw [List.length_map]
      refine iteP (fun c => qe .len H1 (if_pos (by omega)) x1.hh) (fun c => ?_)
      exact ⟨_, rfl, q rs us p H1 (if_neg (by omega)) hp x1.hh hp1 (hv.to x1.vh)⟩
/-! ### encode_message -/
/-- the list of the arguments, all of them of their kinds -/
structure ArgsAt (K : PySem.W.Frag) (H : Hp) (a : Addr) (args : List Arg) : Prop where
  ex : ∃ xs : List V, SqL K H a xs ∧ xs.length = args.length ∧ ∀ (i : Nat) (x : V), xs[i]? = some x → ∃ (g : Arg) (t : Addr) (v : V), args[i]? = some g ∧ x = .ref t ∧ SqT K H t [.str g.kind, v] ∧ ArgAt K H v g.val
  ok : ∀ g ∈ args, ArgSpec g.kind g.val true g.os
theorem ArgsAt.to {K : PySem.W.Frag} {H H' : Hp} {a : Addr} {args : List Arg} (h : ArgsAt K H a args) (s : Same H H') : ArgsAt K H' a args := by
  obtain ⟨xs, h1, h2, h3⟩ := h.ex
  refine ⟨⟨xs, s.seq h1, h2, fun i x hx => ?_⟩, h.ok⟩
  obtain ⟨g, t, v, e1, e2, e3, e4⟩ := h3 i x hx
  exact ⟨g, t, v, e1, e2, s.sqt e3, e4.to s⟩
def msgOcts (n o : Int) (body : List Int) : List Int := octs n 4 ++ octs o 2 ++ octs ((8 + body.length : Nat) : Int) 2 ++ body
def encBad (n o : Int) (args : List Arg) : Prop := ¬ (1 ≤ n ∧ n ≤ 4294967295) ∨ ¬ (0 ≤ o ∧ o ≤ 65535) ∨ 20 < args.length
def encLong (args : List Arg) : Prop := 20480 < 8 + (bodyOf args).length
def sp_encode_message (K : PySem.W.Frag) (B L : Addr) : Sp := fun vs H Q E => ∃ (n o : Int) (a : Addr) (args : List Arg), vs = [.int n, .int o, .ref a] ∧ ArgsAt K H a args ∧ (bodyOf args).length < 60000 ∧ args.length < 60000 ∧
  (encBad n o args → ∀ H', Same H H' → E (.ref B) none H') ∧ (¬ encBad n o args → encLong args → ∀ H', Same H H' → E (.ref L) none H') ∧
  (¬ encBad n o args → ¬ encLong args → ∀ p H', NewL H H' p ((msgOcts n o (bodyOf args)).map V.int) → Q (.ref p) H')
theorem sc_encode_message : FnScope ["number", "opcode", "arguments", "body", "kind", "value", "size"] ["number", "opcode", "arguments"] (defScope s_encode_message) := ⟨rfl, rfl, rfl, by decide +kernel, rfl, by decide +kernel, by decide +kernel⟩
theorem ok_encode_message (T : Txt0 P K mg A) : FnOk P w K mg base (L2.CX P w) 7 A.fencode_message A.dencode_message ["number", "opcode", "arguments"] (sp_encode_message K A.CBadMessage A.CMessageTooLong) := by
  refine T.Fencode_message.okX sc_encode_message (fun vs H Q E h => ?_) (fun cdv Ar outer s H vs Q E hr h => ?_)
  · obtain ⟨n, o, a, args, rfl, _⟩ := h
    rfl
  · obtain ⟨n, o, a, args, rfl, hA, hb, hl, qb, ql, q⟩ := h
    obtain ⟨xs, hS, hxl, hx⟩ := hA.ex
    refine ⟨_, (pss_cons (ps_if (pt_not (pt_val (pe_call (ok_is_integer T) (hr.mono (by decide)) rfl T.gis_integer T.kis_integer T.bis_integer .nil pass0 (pa_cons (pv 0) (pa_cons pe_int (pa_cons (pe_glob (v := .int (4294967295)) rfl T.gGREATEST_NUMBER ⟨_, rfl⟩) pa_nil))))))
      (pss_one (ps_raise rfl (takes_of rfl rfl rfl rfl) (pmk_own PySem.F.excBase_ValueError T.xBadMessage T.gBadMessage T.kBadMessage (raises_own T.bxBadMessage T.txBadMessage) rfl)))
      pss_nil)
      (pss_cons (ps_if (pt_not (pt_val (pe_call (ok_is_integer T) (hr.mono (by decide)) rfl T.gis_integer T.kis_integer T.bis_integer .nil pass0 (pa_cons (pv 1) (pa_cons pe_int (pa_cons (pe_glob (v := .int (65535)) rfl T.gGREATEST_OPCODE ⟨_, rfl⟩) pa_nil))))))
      (pss_one (ps_raise rfl (takes_of rfl rfl rfl rfl) (pmk_own PySem.F.excBase_ValueError T.xBadMessage T.gBadMessage T.kBadMessage (raises_own T.bxBadMessage T.txBadMessage) rfl)))
      pss_nil)
      (pss_cons (ps_if (pt_cmpR op_gt (pe_callB call_len_seq (by rfl) T.len PySem.boot_len (pa_cons (pv 2) pa_nil)) (pe_glob (v := .int (20)) rfl T.gMOST_ARGUMENTS ⟨_, rfl⟩) (nomark _))
      (pss_one (ps_raise rfl (takes_of rfl rfl rfl rfl) (pmk_own PySem.F.excBase_ValueError T.xBadMessage T.gBadMessage T.kBadMessage (raises_own T.bxBadMessage T.txBadMessage) rfl)))
      pss_nil)
      (pss_cons (ps_set (i := 3) sc_encode_message.nd rfl (Or.inl rfl) (pe_lst pa_nil))
      (pss_cons (ps_for (passes_of rfl) rfl (pi_list (pv 2)) (pg_tup rfl (pgs_cons (pg_name (i := 4) sc_encode_message.nd rfl (Or.inl rfl)) (pgs_cons (pg_name (i := 5) sc_encode_message.nd rfl (Or.inl rfl)) pgs_nil)))
      (pss_one (ps_expr (pe_bm PySem.F.plainAttrs_list PySem.F.slot_list_extend PySem.F.type_list_extend mt_extend (pv 3) (pa_cons (pe_call (ok_field_octets T) (hr.mono (by decide)) rfl T.gfield_octets T.kfield_octets T.bfield_octets .nil (passes_call (takes_of rfl rfl rfl rfl) (fun _ _ _ _ h => h)) (pa_cons (pv 4) (pa_cons (pv 5) pa_nil))) pa_nil)))))
      (pss_cons (ps_set (i := 6) sc_encode_message.nd rfl (Or.inl rfl) (pe_op op_add (pe_glob (v := .int (8)) rfl T.gHEADER_SIZE ⟨_, rfl⟩) (pe_callB call_len_seq (by rfl) T.len PySem.boot_len (pa_cons (pv 3) pa_nil))))
      (pss_cons (ps_if (pt_cmpR op_gt (pv 6) (pe_glob (v := .int (20480)) rfl T.gGREATEST_SIZE ⟨_, rfl⟩) (nomark _))
      (pss_one (ps_raise rfl (takes_of rfl rfl rfl rfl) (pmk_own PySem.F.excBase_ValueError T.xMessageTooLong T.gMessageTooLong T.kMessageTooLong (raises_own T.bxMessageTooLong T.txMessageTooLong) rfl)))
      pss_nil)
      (pss_one (ps_ret (pe_op op_cat (pe_op op_cat (pe_op op_cat (pe_call (ok_number_octets T) (hr.mono (by decide)) rfl T.gnumber_octets T.knumber_octets T.bnumber_octets .nil pass0 (pa_cons (pv 0) (pa_cons pe_int pa_nil))) (pe_call (ok_number_octets T) (hr.mono (by decide)) rfl T.gnumber_octets T.knumber_octets T.bnumber_octets .nil pass0 (pa_cons (pv 1) (pa_cons pe_int pa_nil)))) (pe_call (ok_number_octets T) (hr.mono (by decide)) rfl T.gnumber_octets T.knumber_octets T.bnumber_octets .nil pass0 (pa_cons (pv 6) (pa_cons pe_int pa_nil)))) (pv 3))))))))))), ?_⟩
    refine ⟨_, rfl, n, 1, 4294967295, rfl, _, rfl, iteN (fun c => qb (Or.inl c) H (Same.refl H)) (fun c1 => ?_)⟩
    refine ⟨_, rfl, o, 0, 65535, rfl, _, rfl, iteN (fun c => qb (Or.inr (Or.inl c)) H (Same.refl H)) (fun c2 => ?_)⟩
    refine ⟨_, rfl, a, _, rfl, .inl hS, _, _, rfl, rfl, _, rfl, iteP (fun c => qb (Or.inr (Or.inr (by omega))) H (Same.refl H)) (fun c3 => ?_)⟩
    have nb : ¬ encBad n o args := fun z => by
      rcases z with z | z | z
      · exact z c1
      · exact z c2
      · omega
    refine ⟨by decide, fun p hp => ?_⟩
    refine ⟨_, rfl, a, rfl, ⟨_, (same_upd hp).seq hS⟩, for_list (K := K) (a := a) (xs := xs) (fun i σ H' => ∃ v4 v5 : Option V, σ = [some (.int n), some (.int o), some (.ref a), some (.ref p), v4, v5, none] ∧ Same H H' ∧ H' p = some (.lst ((bodyOf (args.take i)).map V.int)))
      ⟨_, _, rfl, same_upd hp, upd_same⟩ (fun i σ H' _ ⟨_, _, _, s, _⟩ => s.seq hS) ?_ ?_⟩
    · rintro i x σ H1 hi ⟨v4, v5, rfl, s1, e1⟩
      obtain ⟨g, t, v, hg, rfl, ht, hv⟩ := hx i x hi
      refine ⟨t, _, rfl, s1.sqt ht, rfl, _, _, rfl, _, _, rfl, rfl, ?_⟩
      refine ⟨_, rfl, .inl ⟨rfl, _, SqL.of e1⟩, ?_⟩
      refine ⟨_, rfl, _, rfl, g.kind, v, g.val, true, g.os, rfl, hA.ok g (List.mem_of_getElem? hg), hv.to s1, fun _ p2 H2 n2 => ?_, fun z => nomatch z⟩
      have e2 := n2.same _ _ e1
      have hbt := body_take hg
      have hbl := body_le args (i + 1)
      rw [hbt, List.length_append] at hbl
      refine ⟨p, p2, _, _, rfl, rfl, e2, n2.at_, ?_, ?_⟩
      · rw [List.length_map, List.length_map]; exact len_line (by omega)
      refine ⟨_, _, rfl, fun b u e => ?_, ?_⟩
      · rw [upd_ne (ne_of_none e hp)]; exact n2.same _ _ (s1 b u e)
      · rw [upd_same, hbt, List.map_append]
    · rintro σ H1 ⟨v4, v5, rfl, s1, e1⟩
      rw [hxl, List.take_length] at e1
      refine ⟨_, rfl, p, _, rfl, .inl (SqL.of e1), _, _, rfl, rfl, ?_⟩
      rw [List.length_map]
      have ec : (8 : Int) + ((bodyOf args).length : Int) = ((8 + (bodyOf args).length : Nat) : Int) := by omega
      refine ⟨_, rfl, _, _, rfl, rfl, _, rfl, iteP (fun c => ?_) (fun c => ?_)⟩
      · exact ql nb (by show 20480 < _; have : (20480 : Int) < 8 + ((bodyOf args).length : Int) := c; omega) H1 s1
      have nl : ¬ encLong args := fun z => c (by show (20480 : Int) < 8 + ((bodyOf args).length : Int); have : 20480 < 8 + (bodyOf args).length := z; omega)
      refine ⟨_, rfl, n, 4, rfl, by omega, by decide, fun p2 H2 h2 s2 e2 => ?_⟩
      refine ⟨_, rfl, o, 2, rfl, by omega, by decide, fun p3 H3 h3 s3 e3 => ?_⟩
      refine ⟨p2, p3, _, _, rfl, rfl, s3 _ _ e2, e3, ?_, fun p4 h4 => ?_⟩
      · rw [List.length_map, List.length_map, octs_len, octs_len]; exact len_line (by decide)
      refine ⟨_, rfl, ((8 + (bodyOf args).length : Nat) : Int), 2, ?_, by omega, by decide, fun p5 H5 h5 s5 e5 => ?_⟩
      · exact congrArg (fun z => [V.int z, V.int 2]) ec
      refine ⟨p4, p5, _, _, rfl, rfl, s5 _ _ upd_same, e5, ?_, fun p6 h6 => ?_⟩
      · rw [List.length_append, List.length_map, List.length_map, List.length_map, octs_len, octs_len, octs_len]; exact len_line (by decide)
      have e1' := same_upd (o := .lst ((octs n 4).map V.int ++ (octs o 2).map V.int ++ (octs ((8 + (bodyOf args).length : Nat) : Int) 2).map V.int)) h6 _ _ (s5 _ _ (same_upd (o := .lst ((octs n 4).map V.int ++ (octs o 2).map V.int)) h4 _ _ (s3 _ _ (s2 _ _ e1))))
      refine ⟨_, rfl, p6, p, _, _, rfl, rfl, upd_same, e1', ?_, fun p7 h7 => q nb nl p7 _ ⟨?_, ?_, ?_⟩⟩
      · rw [List.length_append, List.length_append, List.length_map, List.length_map, List.length_map, List.length_map, octs_len, octs_len, octs_len]; exact len_line (by omega)
      · exact s1.free (s2.free (s3.free ((same_upd h4).free (s5.free ((same_upd h6).free h7)))))
      · exact s1.trans (s2.trans (s3.trans ((same_upd h4).trans (s5.trans ((same_upd h6).trans (same_upd h7))))))
      · rw [upd_same]
        unfold msgOcts
        rw [List.map_append, List.map_append, List.map_append]
/-! ### a rule: a walk of zip of a tuple and a list -/
section
open PySem.Spec PyProof.Rows
def ItzM (K : PySem.W.Frag) (a b : Addr) : It :=
  ⟨fun i H => ∃ (xs ys : List V) (x y : V), SqT K H a xs ∧ SqL K H b ys ∧ xs[i]? = some x ∧ ys[i]? = some y,
    fun i H v H' => ∃ T x y, v = .ref T ∧ H T = none ∧ H' = upd H T (.tup [x, y]) ∧ (∀ xs, SqT K H a xs → xs[i]? = some x) ∧ ∀ ys, SqL K H b ys → ys[i]? = some y,
    fun i H => ∃ xs ys : List V, SqT K H a xs ∧ SqL K H b ys ∧ i ≤ xs.length ∧ i ≤ ys.length ∧ (i = xs.length ∨ i = ys.length)⟩
theorem sepM {z TI TO i1 i2 a b : Addr} (D : ZipApart z TI TO i1 i2 a b) : ZipSep2 z TI TO i1 i2 [i1, a] [i2, b] where
  TIz := D.TIz
  TOz := D.TOz
  TITO := D.TITO
  TIi1 := D.TIi1
  mem1 := by simp
  zf1 := by simp only [List.mem_cons, List.not_mem_nil, or_false]; exact fun h => h.elim D.i1z.symm D.l1z.symm
  Tf1 := by simp only [List.mem_cons, List.not_mem_nil, or_false]; exact fun h => h.elim D.TOi1 D.l1TO.symm
  TIi2 := D.TIi2
  mem2 := by simp
  zf2 := by simp only [List.mem_cons, List.not_mem_nil, or_false]; exact fun h => h.elim D.i2z.symm D.l2z.symm
  Tf2 := by simp only [List.mem_cons, List.not_mem_nil, or_false]; exact fun h => h.elim D.TOi2 D.l2TO.symm
  sep1_2 := by simp only [List.mem_cons, List.not_mem_nil, or_false]; exact fun h => h.elim D.i12 D.l2i1.symm
  sep2_1 := by simp only [List.mem_cons, List.not_mem_nil, or_false]; exact fun h => h.elim D.i12.symm D.l1i2.symm
theorem turn_zipM {P : Program} {w : World} {K : PySem.W.Frag} {elts : List Expr} {kk : Nat} {tpos : Pos} {a b z TI TO i1 i2 : Addr} (D : ZipApart z TI TO i1 i2 a b) :
    Turn P w K (.Tuple elts kk tpos) (ItzM K a b) [z, TI, TO, i1, i2] z (fun i h => IsZip h z TI TO .none ∧ IsTupOf2 h TI (.ref i1) (.ref i2) ∧ (∃ x y, IsTupOf2 h TO x y) ∧ h.IsTupleIter i1 a i ∧ h.IsListIter i2 b i) where
  mem := by simp
  obj := fun i h st c hc => by
    obtain ⟨hz, hTI, ⟨x, y, hTO⟩, ⟨o1, e1, _, d1⟩, ⟨o2, e2, _, d2⟩⟩ := st
    simp only [List.mem_cons, List.not_mem_nil, or_false] at hc
    rcases hc with rfl | rfl | rfl | rfl | rfl
    · exact ⟨_, hz, fun v q => nomatch q⟩
    · exact ⟨_, hTI, fun v q => nomatch q⟩
    · exact ⟨_, hTO, fun v q => nomatch q⟩
    · exact ⟨o1, e1, fun v q => by rw [d1] at q; cases q⟩
    · exact ⟨o2, e2, fun v q => by rw [d2] at q; cases q⟩
  keep := fun i h h' st k => by
    obtain ⟨hz, hTI, ⟨x, y, hTO⟩, h1, h2⟩ := st
    exact ⟨k z (by simp) _ hz, k TI (by simp) _ hTI, ⟨x, y, k TO (by simp) _ hTO⟩, h1.at fun o q => k i1 (by simp) o q, h2.at fun o q => k i2 (by simp) o q⟩
  item := by
    intro X hP hw hK hc i pins s σ H E I hf st hg
    subst hP hw hK
    obtain ⟨hz, hTI, ⟨x0, y0, hTO⟩, h1, h2⟩ := st
    obtain ⟨xs, ys, x, y, hqx, hqy, hx, hy⟩ := hg
    obtain ⟨its, rv, p, _⟩ := I.tuple hqx
    obtain ⟨its2, rv2, p2, _⟩ := I.list hqy
    obtain ⟨u, hu, ru⟩ := rv.get hx
    obtain ⟨u2, hu2, ru2⟩ := rv2.get hy
    have hzl : z < s.heap.objs.size := Heap.lt_size hz
    have hh : X.A.handled = none := I.ok.hd hc
    have g1 : its.toArray[i]? = some u := by simpa using hu
    have g2 : its2.toArray[i]? = some u2 := by simpa using hu2
    refine wpAny_pyNext_zipD2_item (sepM D) (Draws.tuple (A := X.A.in1) hh i1 a D.l1i1 its.toArray) (Draws.list (A := X.A.in1) hh i2 b D.l2i2 its2.toArray) hz hTI hTO ⟨h1, p⟩ ⟨h2, p2.isList⟩
      (Array.getElem?_eq_some_iff.mp g1).1 (Array.getElem?_eq_some_iff.mp g2).1 fun x1 x2 h' tk e1 e2 z' TO' h1' h2' hT hsz hk => ?_
    obtain rfl : u = x1 := Option.some.inj (g1.symm.trans e1)
    obtain rfl : u2 = x2 := Option.some.inj (g2.symm.trans e2)
    refine ⟨_, rfl, wpAny_letOwnedTupleGo_zip (s := { s with heap := h', toks := tk }) z' fun h'' z'' sb => ?_⟩
    have hT2 : h''.get? s.heap.objs.size = some { cls := .type "tuple", data := .seq #[u, u2] } := (sb.2 _ (Nat.ne_of_gt hzl)).trans hT
    have new : ObjOk X.prog X.w (upd H s.heap.objs.size (.tup [x, y])) h'' s.heap.objs.size (.tup [x, y]) :=
      ⟨by show 2 ≤ sizeLine; decide, [u, u2], .cons ru (.cons ru2 .nil), ⟨_, hT2, rfl, _, rfl⟩⟩
    have I1 : Inv X pins σ (upd H s.heap.objs.size (.tup [x, y])) { s with heap := h'', toks := tk } :=
      I.turnedNew (t' := tk) (ch := [z, TI, TO, i1, i2]) (fun c o hb q => by
        simp only [List.mem_cons, List.not_mem_nil, or_false, not_or] at hb
        exact (sb.2 c hb.1).trans (hk c o hb.1 hb.2.2.1 hb.2.2.2.1 hb.2.2.2.2 q)) hf (Nat.le_refl _) new
    refine ⟨.ref s.heap.objs.size, _, I1, rfl, ⟨_, x, y, rfl, I.hok.fresh (Nat.le_refl _), rfl, fun l hl => by rw [I.tuple_inj hl hqx]; exact hx, fun l hl => by rw [I.list_inj hl hqy]; exact hy⟩, ⟨z'', ?_, ⟨u, u2, ?_⟩, ?_, ?_⟩, fun c hcm => ?_⟩
    · exact (sb.2 _ D.TIz).trans (hk _ _ D.TIz D.TITO D.TIi1 D.TIi2 hTI)
    · exact (sb.2 _ D.TOz).trans TO'
    · exact h1'.1.at fun o q => (sb.2 _ D.i1z).trans q
    · exact h2'.1.at fun o q => (sb.2 _ D.i2z).trans q
    · have hlt : c < s.heap.objs.size := by
        simp only [List.mem_cons, List.not_mem_nil, or_false] at hcm
        obtain ⟨_, e1, _⟩ := h1
        obtain ⟨_, e2, _⟩ := h2
        rcases hcm with rfl | rfl | rfl | rfl | rfl
        · exact hzl
        · exact Heap.lt_size hTI
        · exact Heap.lt_size hTO
        · exact Heap.lt_size e1
        · exact Heap.lt_size e2
      rw [upd_ne (Nat.ne_of_lt hlt)]
      exact (hf c hcm).1
  done := by
    intro X hP hw hK hc i pins s σ H E I hf st hg
    subst hP hw hK
    obtain ⟨hz, hTI, ⟨x0, y0, hTO⟩, h1, h2⟩ := st
    obtain ⟨xs, ys, hqx, hqy, l1, l2, hend⟩ := hg
    obtain ⟨its, rv, p, _⟩ := I.tuple hqx
    obtain ⟨its2, rv2, p2, _⟩ := I.list hqy
    have n1 : its.toArray.size = xs.length := by rw [List.size_toArray]; exact rv.length.symm
    have n2 : its2.toArray.size = ys.length := by rw [List.size_toArray]; exact rv2.length.symm
    have hh : X.A.handled = none := I.ok.hd hc
    exact wpAny_pyNext_zipD2_end (sepM D) (Draws.tuple (A := X.A.in1) hh i1 a D.l1i1 its.toArray) (Draws.list (A := X.A.in1) hh i2 b D.l2i2 its2.toArray) hz hTI hTO ⟨h1, p⟩ ⟨h2, p2.isList⟩ (by omega) (by omega) (by omega) fun h' tk hk =>
      ⟨rfl, I.turnedL (t' := tk) (ch := [z, TI, TO, i1, i2]) (fun c o hb q => by
        simp only [List.mem_cons, List.not_mem_nil, or_false, not_or] at hb
        exact hk c o hb.1 hb.2.2.1 hb.2.2.2.1 hb.2.2.2.2 q) hf⟩
  self := fun A i s Q E st h => wpAny_pyIter_zip st.1 h
def iZipM (K : PySem.W.Frag) (ta : TA) : TI := fun σ H R => ta σ H fun vs H1 => ∃ a b xs ys, vs = [.ref a, .ref b] ∧ SqT K H1 a xs ∧ SqL K H1 b ys ∧ R (ItzM K a b) H1
theorem pi_zipM {X : Cx} {e e2 : Expr} {ta : TA} {p pos tpos : Pos} {elts : List Expr} {kk : Nat} (hg : Gl X "zip") (hm : X.mg "zip" = none) (ha : PA X [e, e2] ta)
    (hs : starEach [e, e2] X.env = (false, eval e X.env) :: starEach [e2] X.env := by rfl) (hpl : (backTo pos (starEach [e2] X.env)).any (·.1) = false := by rfl) :
    PI X (.Tuple elts kk tpos) (.Call (.Name "zip" p) [e, e2] [] pos) (iZipM X.K ta) := by
  refine ⟨fun pins s σ H R I h => ?_⟩
  refine Call_ (ld_blt I hg hm PyProof.Rows.boot_zip (PyProof.Rows.callWith_type1 (thn (ha.run pos pins s σ H _ I h) fun us s1 ⟨vs, H1, I1, r1, q1⟩ => ?_) hs hpl))
  obtain ⟨a, b, xs, ys, ex, hqx, hqy, q⟩ := q1
  subst ex
  obtain ⟨u, u2, rfl, r, r2⟩ : ∃ u u2, us = [u, u2] ∧ RelV (.ref a) u ∧ RelV (.ref b) u2 := by
    cases r1 with
    | cons r rr => cases rr with
      | cons r' rr => cases rr; exact ⟨_, _, rfl, r, r'⟩
  obtain rfl : u = Value.ref a := r
  obtain rfl : u2 = Value.ref b := r2
  obtain ⟨its, rv, p1, _⟩ := I1.tuple hqx
  obtain ⟨its2, rv2, p2, _⟩ := I1.list hqy
  obtain ⟨o1, ho1, _⟩ := id p1
  refine zip_begins2 (begins_tuple a its.toArray) (begins_list b its2.toArray) p1 p2.isList fun h' hz hTI hTO h1 h2 hsz hk => wpAny_pyIter_zip hz ?_
  have I2 : Inv X pins σ H1 { s1 with heap := h' } := I1.kept (t' := s1.toks) hk
  refine ⟨s1.heap.objs.size + 4, [s1.heap.objs.size + 4, s1.heap.objs.size + 2, s1.heap.objs.size + 3, s1.heap.objs.size, s1.heap.objs.size + 1], _, _, H1, rfl, I2, turn_zipM (PySem.W.ktu_apart s1.heap.objs.size a b (Heap.lt_size ho1) p2.lt), ⟨hz, hTI, ⟨_, _, hTO⟩, ⟨_, h1, rfl, rfl⟩, ⟨_, h2, rfl, rfl⟩⟩, fun c hcm => ?_, q⟩
  have hle : s1.heap.objs.size ≤ c := by
    simp only [List.mem_cons, List.not_mem_nil, or_false] at hcm
    rcases hcm with rfl | rfl | rfl | rfl | rfl
    · exact Nat.le_add_right _ _
    · exact Nat.le_add_right _ _
    · exact Nat.le_add_right _ _
    · exact Nat.le_refl _
    · exact Nat.le_add_right _ _
  exact I1.fpOk hle (I1.hok.fresh hle)
end
/-! ### a rule: list(zip(a, b)) of any two iterators: the pairs are kept -/
section
open PySem.Spec PyProof.Rows
section
variable {prog : Program} {w : World} {A : Around} {E : Value → Shared → Prop} {s : Shared} {z TI TO i1 i2 T : Addr} {fp1 fp2 : List Addr} {n1 n2 i : Nat} {P1 P2 : Nat → Value → Prop} {St1 St2 : Nat → Heap → Prop} {f : Bool} {oT : Obj}
theorem heldD_item {Q : Value → Shared → Prop} (S : ZipSep2 z TI TO i1 i2 fp1 fp2) (D1 : Draws prog w A i1 fp1 n1 P1 St1) (D2 : Draws prog w A i2 fp2 n2 P2 St2)
    (hz : IsZipHeld s.heap z TI TO T f) (hT : s.heap.get? T = some oT) (hTI : IsTupOf2 s.heap TI (.ref i1) (.ref i2)) (st1 : St1 i s.heap) (st2 : St2 i s.heap) (hlt1 : i < n1) (hlt2 : i < n2)
    (hQ : ∀ x1 x2 h' tk, P1 i x1 → P2 i x2 → IsZipHeld h' z TI TO T true → St1 (i + 1) h' → St2 (i + 1) h' → IsTupOf2 h' s.heap.objs.size x1 x2 →
      (∀ c o, c ≠ z → c ≠ i1 → c ≠ i2 → s.heap.get? c = some o → h'.get? c = some o) → Q (.ref s.heap.objs.size) { s with heap := h', toks := tk }) :
    wpAny (model prog w) A (Builtin.«zip.__next__» ⟨[.ref z], []⟩) (fun fin s' => ∃ v, fin = .done (.ret v) ∧ Q v s') E s := by
  obtain ⟨hp, g, d, tk0, os⟩ := s
  show wpAny _ _ (field (.ref z) 2 >>= _) _ _ _
  refine wpAny_bind (wpAny_field hz rfl (x := .bool false) rfl ?_)
  show wpAny _ _ (field (.ref z) 3 >>= _) _ _ _
  refine wpAny_bind (wpAny_field hz rfl (x := .ref TI) rfl ?_)
  refine wpAny_bind (wpAny_seqItems hTI rfl ?_)
  show wpAny _ _ (Builtin.SmallTypes.ownedTupleIsFree (.ref z) >>= _) _ _ _
  refine wpAny_bind (wpAny_tupleHeld_zip hz hT fun g0 hz0 hs0 => ?_)
  replace hs0 : Heap.SameBut z hp g0 := hs0
  simp only [Bool.false_eq_true, if_false]
  refine wpAny_bind ?_
  rw [← Array.forIn_toList]
  simp only [List.forIn_cons, List.forIn_nil]
  refine wpAny_bind (wpAny_bind (wpAny_holding ?_))
  show wpAny _ _ (Builtin.SmallTypes.nextOf (.ref i1) >>= _) _ _ ⟨g0, g, d, tk0, os⟩
  refine wpAny_bind (D1.item i _ _ _ hlt1 (D1.over st1 hs0 S.zf1) fun x1 p1 tk1 hx1 sn1 hp1 => wpAny_pure ?_)
  replace hp1 : Heap.SameBut i1 g0 p1 := hp1
  refine wpAny_pure ?_
  refine wpAny_bind (wpAny_bind (wpAny_holding ?_))
  show wpAny _ _ (Builtin.SmallTypes.nextOf (.ref i2) >>= _) _ _ ⟨p1, g, d, tk1, os⟩
  refine wpAny_bind (D2.item i _ _ _ hlt2 (D2.over (D2.over st2 hs0 S.zf2) hp1 S.sep1_2) fun x2 p2 tk2 hx2 sn2 hp2 => wpAny_pure ?_)
  replace hp2 : Heap.SameBut i2 p1 p2 := hp2
  refine wpAny_pure (wpAny_pure ?_)
  show wpAny _ _ (newTuple [x1, x2] >>= _) _ _ _
  refine wpAny_bind (wpAny_newTuple ?_)
  have hsz : p2.objs.size = hp.objs.size := by rw [hp2.1, hp1.1, hs0.1]
  have hz2 : IsZipHeld p2 z TI TO T true := hp2.extBut _ _ S.zi2 (hp1.extBut _ _ S.zi1 hz0)
  have hk : ∀ c o, c ≠ z → c ≠ i1 → c ≠ i2 → hp.get? c = some o → p2.get? c = some o := fun c o c0 c1 c2 e => hp2.extBut _ _ c2 (hp1.extBut _ _ c1 (hs0.extBut _ _ c0 e))
  have hj1 : St1 (i + 1) p2 := D1.over sn1 hp2 S.sep2_1
  have up : ∀ c o, p2.get? c = some o → (p2.push { cls := .type "tuple", data := .seq #[x1, x2] }).get? c = some o := fun c o e => Heap.get?_push_of_some _ e
  have hN : IsTupOf2 (p2.push { cls := .type "tuple", data := .seq #[x1, x2] }) p2.objs.size x1 x2 := Heap.get?_push_size _ rfl
  refine wpAny_pure ⟨_, rfl, ?_⟩
  show Q (.ref p2.objs.size) _
  rw [hsz] at hN ⊢
  exact hQ x1 x2 _ tk2 hx1 hx2 (up _ _ hz2) (D1.frame _ _ _ hj1 fun b _ o e => up b o e) (D2.frame _ _ _ sn2 fun b _ o e => up b o e) hN fun c o c0 c1 c2 e => up c o (hk c o c0 c1 c2 e)
theorem heldD_end {Q : Fin → Shared → Prop} (S : ZipSep2 z TI TO i1 i2 fp1 fp2) (D1 : Draws prog w A i1 fp1 n1 P1 St1) (D2 : Draws prog w A i2 fp2 n2 P2 St2)
    (hz : IsZipHeld s.heap z TI TO T f) (hT : s.heap.get? T = some oT) (hTI : IsTupOf2 s.heap TI (.ref i1) (.ref i2)) (st1 : St1 i s.heap) (st2 : St2 i s.heap) (hi : i = n1)
    (hE : ∀ h' e, (∀ c o, c ≠ z → c ≠ i1 → s.heap.get? c = some o → h'.get? c = some o) → (∃ o, h'.get? e = some o ∧ o.cls = .type "StopIteration") → E (.ref e) { s with heap := h' }) :
    wpAny (model prog w) A (Builtin.«zip.__next__» ⟨[.ref z], []⟩) Q E s := by
  subst hi
  show wpAny _ _ (field (.ref z) 2 >>= _) _ _ _
  refine wpAny_bind (wpAny_field hz rfl (x := .bool false) rfl ?_)
  show wpAny _ _ (field (.ref z) 3 >>= _) _ _ _
  refine wpAny_bind (wpAny_field hz rfl (x := .ref TI) rfl ?_)
  refine wpAny_bind (wpAny_seqItems hTI rfl ?_)
  show wpAny _ _ (Builtin.SmallTypes.ownedTupleIsFree (.ref z) >>= _) _ _ _
  refine wpAny_bind (wpAny_tupleHeld_zip hz hT fun g0 hz0 hs0 => ?_)
  simp only [Bool.false_eq_true, if_false]
  refine wpAny_bind ?_
  rw [← Array.forIn_toList]
  simp only [List.forIn_cons, List.forIn_nil]
  refine wpAny_bind (wpAny_bind (wpAny_holding ?_))
  show wpAny _ _ (Builtin.SmallTypes.nextOf (.ref i1) >>= _) _ _ _
  refine wpAny_bind (D1.done _ _ _ (D1.over st1 hs0 S.zf1) fun h2 e hs2 he => ?_)
  exact hE h2 e (fun c o c0 c1 x => hs2 _ _ c1 (hs0.extBut _ _ c0 x)) he
theorem heldD_next {Q : Option Value → Shared → Prop} (S : ZipSep2 z TI TO i1 i2 fp1 fp2) (D1 : Draws prog w A.in1 i1 fp1 n1 P1 St1) (D2 : Draws prog w A.in1 i2 fp2 n2 P2 St2)
    (hz : IsZipHeld s.heap z TI TO T f) (hT : s.heap.get? T = some oT) (hTI : IsTupOf2 s.heap TI (.ref i1) (.ref i2)) (st1 : St1 i s.heap) (st2 : St2 i s.heap) (hlt1 : i < n1) (hlt2 : i < n2)
    (hQ : ∀ x1 x2 h' tk, P1 i x1 → P2 i x2 → IsZipHeld h' z TI TO T true → St1 (i + 1) h' → St2 (i + 1) h' → IsTupOf2 h' s.heap.objs.size x1 x2 →
      (∀ c o, c ≠ z → c ≠ i1 → c ≠ i2 → s.heap.get? c = some o → h'.get? c = some o) → Q (some (.ref s.heap.objs.size)) { s with heap := h', toks := tk }) :
    wpAny (model prog w) A (pyNext (.ref z)) Q E s := by
  have hTy : s.TypeIs (.ref z) "zip" := ⟨_, hz, rfl⟩
  unfold pyNext
  exact wpAny_bind (wpAny_attempt (wpAny_callSpecial?_slot (name := Str.ofString "__next__") hTy F.slot_zip_next
    (wpAny_call_entry F.slot_zip_next hTy F.entry_zip_next
      (heldD_item S D1 D2 hz hT hTI st1 st2 hlt1 hlt2 fun x1 x2 h' tk a1 a2 a3 a4 a5 a6 a7 => wpAny_pure (hQ x1 x2 h' tk a1 a2 a3 a4 a5 a6 a7)) (F.args_zip_next_1 _))))
theorem heldD_stop {Q : Option Value → Shared → Prop} (S : ZipSep2 z TI TO i1 i2 fp1 fp2) (D1 : Draws prog w A.in1 i1 fp1 n1 P1 St1) (D2 : Draws prog w A.in1 i2 fp2 n2 P2 St2)
    (hz : IsZipHeld s.heap z TI TO T f) (hT : s.heap.get? T = some oT) (hTI : IsTupOf2 s.heap TI (.ref i1) (.ref i2)) (st1 : St1 i s.heap) (st2 : St2 i s.heap) (hi : i = n1)
    (hQ : ∀ h', (∀ c o, c ≠ z → c ≠ i1 → s.heap.get? c = some o → h'.get? c = some o) → Q none { s with heap := h' }) :
    wpAny (model prog w) A (pyNext (.ref z)) Q E s := by
  have hTy : s.TypeIs (.ref z) "zip" := ⟨_, hz, rfl⟩
  unfold pyNext
  refine wpAny_bind (wpAny_attempt (wpAny_callSpecial?_slot (name := Str.ofString "__next__") hTy F.slot_zip_next
    (wpAny_call_entry F.slot_zip_next hTy F.entry_zip_next (heldD_end S D1 D2 hz hT hTI st1 st2 hi fun h' e hk he => ?_) (F.args_zip_next_1 _))))
  obtain ⟨o, ho, hc⟩ := he
  refine wpAny_bind (wpAny_isInstance (T := "StopIteration") (b := true) ⟨o, ho, hc⟩ isSubtype_stop ?_)
  exact wpAny_pure (hQ _ hk)
end
section
variable {X : Cx} {pins : List (Addr × Obj)} {σ : L2.St} {z TI TO i1 i2 a b S : Addr} {xs ys : List V} {H0 : Hp}
structure LpE (X : Cx) (pins : List (Addr × Obj)) (σ : L2.St) (S : Addr) (xs ys : List V) (H0 : Hp) (i : Nat) (Ts : List Addr) (H : Hp) (s : Shared) (c : Nat) : Prop where
  inv : Inv X pins σ H s
  same : Same H0 H
  len : Ts.length = i
  tup : ∀ (j : Nat) (t : Addr), Ts[j]? = some t → ∃ x y, xs[j]? = some x ∧ ys[j]? = some y ∧ H t = some (.tup [x, y]) ∧ H0 t = none
  lst : s.heap.get? S = some { cls := .type "list", dict := none, data := .seq (Ts.map Value.ref).toArray c, slots := #[] }
  fpS : FpOk X pins H S
structure LpI (X : Cx) (pins : List (Addr × Obj)) (σ : L2.St) (z TI TO i1 i2 a b S : Addr) (xs ys : List V) (H0 : Hp) (i : Nat) (Ts : List Addr) (H : Hp) (s : Shared) (c : Nat) : Prop where
  e : LpE X pins σ S xs ys H0 i Ts H s c
  fp : ∀ c ∈ [z, TI, TO, i1, i2], FpOk X pins H c
  lt : ∀ c ∈ [z, TI, TO, i1, i2], c < s.heap.objs.size
  tie : IsTupOf2 s.heap TI (.ref i1) (.ref i2)
  it1 : s.heap.IsTupleIter i1 a i
  it2 : s.heap.IsListIter i2 b i
  zs : (IsZip s.heap z TI TO .none ∧ ∃ u v, IsTupOf2 s.heap TO u v) ∨ ∃ T f x y, IsZipHeld s.heap z TI TO T f ∧ H T = some (.tup [x, y])
theorem fpOk_upd {H : Hp} {T c : Addr} {o : HO} (h : FpOk X pins H c) (n : c ≠ T) : FpOk X pins (upd H T o) c := ⟨by rw [upd_ne n]; exact h.1, h.2⟩
theorem lp_push {H : Hp} {Ts : List Addr} {s : Shared} {c i tk : Nat} {x y : V} {u u2 : Value} {h' : Heap} {T : Addr} {f : Bool} (D : ZipApart z TI TO i1 i2 a b) (hS : S ∉ [z, TI, TO, i1, i2]) (L : LpI X pins σ z TI TO i1 i2 a b S xs ys H0 i Ts H s c)
    (hx : xs[i]? = some x) (hy : ys[i]? = some y) (ru : RelV x u) (ru2 : RelV y u2)
    (z' : IsZipHeld h' z TI TO T f) (hTT : ∃ x1 y1, upd H s.heap.objs.size (.tup [x, y]) T = some (.tup [x1, y1])) (j1 : h'.IsTupleIter i1 a (i + 1)) (j2 : h'.IsListIter i2 b (i + 1)) (hT : IsTupOf2 h' s.heap.objs.size u u2)
    (hk : ∀ c o, c ≠ z → c ≠ TO → c ≠ i1 → c ≠ i2 → s.heap.get? c = some o → h'.get? c = some o) :
    ∃ c', LpI X pins σ z TI TO i1 i2 a b S xs ys H0 (i + 1) (Ts ++ [s.heap.objs.size]) (upd H s.heap.objs.size (.tup [x, y])) { s with heap := h'.update S (Obj.mapSeq (·.push (.ref s.heap.objs.size))), toks := tk } c' := by
  simp only [List.mem_cons, List.not_mem_nil, or_false, not_or] at hS
  obtain ⟨sz, sTI, sTO, s1, s2⟩ := hS
  have fr : H s.heap.objs.size = none := L.e.inv.hok.fresh (Nat.le_refl _)
  have hS' := hk S _ sz sTO s1 s2 L.e.lst
  have e2 := Heap.get?_update_self (Obj.mapSeq (·.push (Value.ref s.heap.objs.size))) hS' rfl
  have oth : ∀ c o, c ≠ S → h'.get? c = some o → (h'.update S (Obj.mapSeq (·.push (Value.ref s.heap.objs.size)))).get? c = some o := fun c o n e => (Heap.get?_update_other _ _ (Ne.symm n)).trans e
  have nS : S ≠ s.heap.objs.size := Nat.ne_of_lt (Heap.lt_size L.e.lst)
  have nt : ∀ c u, H c = some u → c ≠ s.heap.objs.size := fun c u e n => by rw [n, fr] at e; cases e
  have hsz : s.heap.objs.size < (h'.update S (Obj.mapSeq (·.push (Value.ref s.heap.objs.size)))).objs.size := Heap.lt_size (oth _ _ nS.symm hT)
  have new : ObjOk X.prog X.w (upd H s.heap.objs.size (.tup [x, y])) (h'.update S (Obj.mapSeq (·.push (Value.ref s.heap.objs.size)))) s.heap.objs.size (.tup [x, y]) :=
    ⟨by show 2 ≤ sizeLine; decide, [u, u2], .cons ru (.cons ru2 .nil), ⟨_, oth _ _ nS.symm hT, rfl, _, rfl⟩⟩
  have I1 : Inv X pins σ (upd H s.heap.objs.size (.tup [x, y])) { s with heap := h'.update S (Obj.mapSeq (·.push (Value.ref s.heap.objs.size))), toks := tk } :=
    L.e.inv.turnedNew (t' := tk) (ch := [S, z, TI, TO, i1, i2]) (fun c o hb q => by
      simp only [List.mem_cons, List.not_mem_nil, or_false, not_or] at hb
      exact oth c o hb.1 (hk c o hb.2.1 hb.2.2.2.1 hb.2.2.2.2.1 hb.2.2.2.2.2 q)) (fun c hc => by
      rcases List.mem_cons.mp hc with rfl | hc
      · exact L.e.fpS
      · exact L.fp c hc) (Nat.le_refl _) new
  have ea : (List.map Value.ref (Ts ++ [s.heap.objs.size])).toArray = (List.map Value.ref Ts).toArray.push (.ref s.heap.objs.size) := by simp
  obtain ⟨c', e3⟩ : ∃ c', (h'.update S (Obj.mapSeq (·.push (Value.ref s.heap.objs.size)))).get? S = some { cls := .type "list", dict := none, data := .seq (List.map Value.ref (Ts ++ [s.heap.objs.size])).toArray c', slots := #[] } := ⟨_, by rw [ea]; exact e2⟩
  refine ⟨c', ⟨I1, fun c u e => ?_, ?_, fun j t hj => ?_, e3, fpOk_upd L.e.fpS nS⟩, fun c hc => fpOk_upd (L.fp c hc) (Nat.ne_of_lt (L.lt c hc)), fun c hc => Nat.lt_trans (L.lt c hc) hsz, oth _ _ (Ne.symm sTI) (hk _ _ D.TIz D.TITO D.TIi1 D.TIi2 L.tie), j1.at fun o e => oth _ o (Ne.symm s1) e, j2.at fun o e => oth _ o (Ne.symm s2) e, .inr ?_⟩
  · rw [upd_ne (nt _ _ (L.e.same c u e))]; exact L.e.same c u e
  · rw [List.length_append, L.e.len]; rfl
  · by_cases hlt : j < Ts.length
    · rw [List.getElem?_append_left hlt] at hj
      obtain ⟨x1, y1, e1, e2, e3, e4⟩ := L.e.tup j t hj
      exact ⟨x1, y1, e1, e2, by rw [upd_ne (nt _ _ e3)]; exact e3, e4⟩
    · rw [List.getElem?_append_right (by omega)] at hj
      have hj0 : j - Ts.length = 0 := by
        cases hd : j - Ts.length with
        | zero => rfl
        | succ m => rw [hd] at hj; cases hj
      rw [hj0] at hj
      injection hj with hj
      have hji : j = i := by have := L.e.len; omega
      rw [← hj, hji]
      refine ⟨x, y, hx, hy, upd_same, ?_⟩
      cases q : H0 s.heap.objs.size with
      | none => rfl
      | some o => have := L.e.same _ _ q; rw [fr] at this; cases this
  · obtain ⟨x1, y1, e⟩ := hTT
    exact ⟨T, f, x1, y1, oth _ _ (Ne.symm sz) z', e⟩
theorem lp_end {H : Hp} {Ts : List Addr} {s : Shared} {c i tk : Nat} {h' : Heap} (hS : S ∉ [z, TI, TO, i1, i2]) (L : LpI X pins σ z TI TO i1 i2 a b S xs ys H0 i Ts H s c)
    (hk : ∀ c o, c ≠ z → c ≠ TO → c ≠ i1 → c ≠ i2 → s.heap.get? c = some o → h'.get? c = some o) : LpE X pins σ S xs ys H0 i Ts H { s with heap := h', toks := tk } c := by
  simp only [List.mem_cons, List.not_mem_nil, or_false, not_or] at hS
  obtain ⟨sz, sTI, sTO, s1, s2⟩ := hS
  refine ⟨L.e.inv.turnedL (t' := tk) (ch := [z, TI, TO, i1, i2]) (fun c o hb q => ?_) L.fp, L.e.same, L.e.len, L.e.tup, hk S _ sz sTO s1 s2 L.e.lst, L.e.fpS⟩
  simp only [List.mem_cons, List.not_mem_nil, or_false, not_or] at hb
  exact hk c o hb.1 hb.2.2.1 hb.2.2.2.1 hb.2.2.2.2 q
theorem lp_loop {A : Around} {R : Result → Shared → Prop} (hh : A.handled = none) (D : ZipApart z TI TO i1 i2 a b) (hS : S ∉ [z, TI, TO, i1, i2]) (qx : SqT X.K H0 a xs) (qy : SqL X.K H0 b ys) (hl : xs.length = ys.length) (hz : xs.length ≤ 1000000) (res : Value) :
    ∀ (k i : Nat) (s : Shared) (H : Hp) (Ts : List Addr) (c : Nat), xs.length - i = k → i ≤ xs.length → LpI X pins σ z TI TO i1 i2 a b S xs ys H0 i Ts H s c →
    (∀ s' H' Ts' c', LpE X pins σ S xs ys H0 xs.length Ts' H' s' c' → R (.ok (.ret res)) s') →
    codeAny (model X.prog X.w) A (.builtin "list.extend.loop" ⟨[.ref S, .ref z, res], []⟩) R s := by
  intro k
  induction k with
  | zero =>
    intro i s H Ts c hk hi L hR
    have hin : i = xs.length := by omega
    subst hin
    obtain ⟨its, rv, p, _⟩ := L.e.inv.tuple (L.e.same.sqt qx)
    obtain ⟨its2, rv2, p2, _⟩ := L.e.inv.list (L.e.same.seq qy)
    have n1 : its.toArray.size = xs.length := by rw [List.size_toArray]; exact rv.length.symm
    have n2 : its2.toArray.size = ys.length := by rw [List.size_toArray]; exact rv2.length.symm
    refine codeAny_builtin F.entry_extend_loop ?_
    rw [Around.under_plainId F.plain_extend_loop _]
    show wpAny _ A.in1 (pyNext (.ref z) >>= _) _ _ s
    rcases L.zs with ⟨hz0, u, v, hTO⟩ | ⟨T, f, x0, y0, hz0, hT0⟩
    · exact wpAny_bind (wpAny_pyNext_zipD2_end (sepM D) (Draws.tuple (A := A.in1.in1) hh i1 a D.l1i1 its.toArray) (Draws.list (A := A.in1.in1) hh i2 b D.l2i2 its2.toArray) hz0 L.tie hTO ⟨L.it1, p⟩ ⟨L.it2, p2.isList⟩ (by omega) (by omega) (by omega) fun h' tk hk =>
        wpAny_pure (hR _ _ _ _ (lp_end hS L hk)))
    · obtain ⟨_, _, ⟨oT, hoT, _⟩, _⟩ := L.e.inv.tuple (SqT.of hT0)
      exact wpAny_bind (heldD_stop (sepM D) (Draws.tuple (A := A.in1.in1) hh i1 a D.l1i1 its.toArray) (Draws.list (A := A.in1.in1) hh i2 b D.l2i2 its2.toArray) hz0 hoT L.tie ⟨L.it1, p⟩ ⟨L.it2, p2.isList⟩ n1.symm fun h' hk =>
        wpAny_pure (hR _ _ _ _ (lp_end (tk := s.toks) hS L fun c o h0 _ h1 _ e => hk c o h0 h1 e)))
  | succ k ih =>
    intro i s H Ts c hk hi L hR
    have hlt : i < xs.length := by omega
    have hlt2 : i < ys.length := by omega
    obtain ⟨its, rv, p, _⟩ := L.e.inv.tuple (L.e.same.sqt qx)
    obtain ⟨its2, rv2, p2, _⟩ := L.e.inv.list (L.e.same.seq qy)
    have hx : xs[i]? = some xs[i] := List.getElem?_eq_getElem hlt
    have hy : ys[i]? = some ys[i] := List.getElem?_eq_getElem hlt2
    obtain ⟨u, hu, ru⟩ := rv.get hx
    obtain ⟨u2, hu2, ru2⟩ := rv2.get hy
    have g1 : its.toArray[i]? = some u := by simpa using hu
    have g2 : its2.toArray[i]? = some u2 := by simpa using hu2
    have hS2 := hS
    simp only [List.mem_cons, List.not_mem_nil, or_false, not_or] at hS2
    have hts := L.e.len
    refine codeAny_builtin F.entry_extend_loop ?_
    rw [Around.under_plainId F.plain_extend_loop _]
    show wpAny _ A.in1 (pyNext (.ref z) >>= _) _ _ s
    rcases L.zs with ⟨hz0, u0, v0, hTO⟩ | ⟨T, f, x0, y0, hz0, hT0⟩
    · refine wpAny_bind (wpAny_pyNext_zipD2_item (sepM D) (Draws.tuple (A := A.in1.in1) hh i1 a D.l1i1 its.toArray) (Draws.list (A := A.in1.in1) hh i2 b D.l2i2 its2.toArray) hz0 L.tie hTO ⟨L.it1, p⟩ ⟨L.it2, p2.isList⟩
        (Array.getElem?_eq_some_iff.mp g1).1 (Array.getElem?_eq_some_iff.mp g2).1 fun x1 x2 h' tk e1 e2 z' TO' h1' h2' hT hsz hk => ?_)
      obtain rfl : u = x1 := Option.some.inj (g1.symm.trans e1)
      obtain rfl : u2 = x2 := Option.some.inj (g2.symm.trans e2)
      obtain ⟨c', L2⟩ := lp_push (tk := tk) (f := false) D hS L hx hy ru ru2 z' ⟨_, _, upd_same⟩ h1'.1 h2'.1 hT hk
      have hS' := hk S _ hS2.1 hS2.2.2.1 hS2.2.2.2.1 hS2.2.2.2.2 L.e.lst
      show wpAny _ A.in1 (updateSeq S (·.push (.ref s.heap.objs.size)) >>= _) _ _ _
      refine wpAny_bind ?_
      refine wpAny_updateSeq (s := { s with heap := h', toks := tk }) hS' rfl (wpAny_pure ⟨plainId_quiet F.plain_extend_loop _, ih (i + 1) _ _ _ _ (by omega) hlt L2 hR⟩) ?_ ?_
      · simp only [List.size_toArray, List.length_map]; rw [sizeLine_eq]; omega
      · simp only [Array.size_push, List.size_toArray, List.length_map]; rw [sizeLine_eq]; omega
    · obtain ⟨_, _, ⟨oT, hoT, _⟩, _⟩ := L.e.inv.tuple (SqT.of hT0)
      refine wpAny_bind (heldD_next (sepM D) (Draws.tuple (A := A.in1.in1) hh i1 a D.l1i1 its.toArray) (Draws.list (A := A.in1.in1) hh i2 b D.l2i2 its2.toArray) hz0 hoT L.tie ⟨L.it1, p⟩ ⟨L.it2, p2.isList⟩
        (Array.getElem?_eq_some_iff.mp g1).1 (Array.getElem?_eq_some_iff.mp g2).1 fun x1 x2 h' tk e1 e2 z' h1' h2' hT hk => ?_)
      obtain rfl : u = x1 := Option.some.inj (g1.symm.trans e1)
      obtain rfl : u2 = x2 := Option.some.inj (g2.symm.trans e2)
      have nT : T ≠ s.heap.objs.size := fun n => by rw [n, L.e.inv.hok.fresh (Nat.le_refl _)] at hT0; cases hT0
      obtain ⟨c', L2⟩ := lp_push (tk := tk) (f := true) D hS L hx hy ru ru2 z' ⟨x0, y0, by rw [upd_ne nT]; exact hT0⟩ h1'.1 h2'.1 hT (fun c o h0 _ h1 h2 e => hk c o h0 h1 h2 e)
      have hS' := hk S _ hS2.1 hS2.2.2.2.1 hS2.2.2.2.2 L.e.lst
      show wpAny _ A.in1 (updateSeq S (·.push (.ref s.heap.objs.size)) >>= _) _ _ _
      refine wpAny_bind ?_
      refine wpAny_updateSeq (s := { s with heap := h', toks := tk }) hS' rfl (wpAny_pure ⟨plainId_quiet F.plain_extend_loop _, ih (i + 1) _ _ _ _ (by omega) hlt L2 hR⟩) ?_ ?_
      · simp only [List.size_toArray, List.length_map]; rw [sizeLine_eq]; omega
      · simp only [Array.size_push, List.size_toArray, List.length_map]; rw [sizeLine_eq]; omega
theorem lp_touch {H : Hp} {Ts : List Addr} {s : Shared} {c c' i tk : Nat} {h' : Heap} (hS : S ∉ [z, TI, TO, i1, i2]) (L : LpI X pins σ z TI TO i1 i2 a b S xs ys H0 i Ts H s c)
    (hsz : s.heap.objs.size ≤ h'.objs.size) (hk : ∀ c o, c ≠ S → s.heap.get? c = some o → h'.get? c = some o) (e : h'.get? S = some { cls := .type "list", dict := none, data := .seq (Ts.map Value.ref).toArray c', slots := #[] }) :
    LpI X pins σ z TI TO i1 i2 a b S xs ys H0 i Ts H { s with heap := h', toks := tk } c' := by
  simp only [List.mem_cons, List.not_mem_nil, or_false, not_or] at hS
  obtain ⟨sz, sTI, sTO, s1, s2⟩ := hS
  refine ⟨⟨L.e.inv.turnedL (t' := tk) (ch := [S]) (fun c o hb q => hk c o (fun n => hb (by simp [n])) q) (fun c hc => by rw [List.mem_singleton.mp hc]; exact L.e.fpS), L.e.same, L.e.len, L.e.tup, e, L.e.fpS⟩, L.fp, fun c hc => Nat.lt_of_lt_of_le (L.lt c hc) hsz,
    hk _ _ (Ne.symm sTI) L.tie, L.it1.at fun o q => hk _ o (Ne.symm s1) q, L.it2.at fun o q => hk _ o (Ne.symm s2) q, ?_⟩
  rcases L.zs with ⟨hz, u, v, hTO⟩ | ⟨T, f, x, y, hz, hT⟩
  · exact .inl ⟨hk _ _ (Ne.symm sz) hz, u, v, hk _ _ (Ne.symm sTO) hTO⟩
  · exact .inr ⟨T, f, x, y, hk _ _ (Ne.symm sz) hz, hT⟩
theorem lp_take {H : Hp} {Ts : List Addr} {s : Shared} {c i : Nat} (L : LpE X pins σ S xs ys H0 i Ts H s c) (hi : i ≤ 1000000) : Inv X pins σ (upd H S (.lst (Ts.map V.ref))) s := by
  have vr : ∀ l : List Addr, Vals (l.map V.ref) (l.map Value.ref) := fun l => by
    induction l with
    | nil => exact .nil
    | cons t r ih => exact .cons rfl ih
  refine L.inv.take (t' := s.toks) (h' := s.heap) (fun _ _ _ e => e) L.fpS ⟨?_, Ts.map Value.ref, c, vr Ts, L.lst⟩
  rw [List.length_map, L.len, sizeLine_eq]; omega
theorem zip_no_len : typeLookup (.type "zip") "__len__" = pure none := am_miss_of_fast (by decide +kernel)
theorem zip_no_hint : typeLookup (.type "zip") "__length_hint__" = pure none := am_miss_of_fast (by decide +kernel)
theorem lp_extend {A : Around} {R : Result → Shared → Prop} (hh : A.handled = none) (D : ZipApart z TI TO i1 i2 a b) (hS : S ∉ [z, TI, TO, i1, i2]) (qx : SqT X.K H0 a xs) (qy : SqL X.K H0 b ys) (hl : xs.length = ys.length) (hz : xs.length ≤ 1000000) (res : Value)
    {s : Shared} {H : Hp} {c : Nat} (L : LpI X pins σ z TI TO i1 i2 a b S xs ys H0 0 [] H s c) (hz0 : IsZip s.heap z TI TO .none)
    (hR : ∀ s' H' Ts' c', LpE X pins σ S xs ys H0 xs.length Ts' H' s' c' → R (.ok (.ret res)) s') :
    wpAny (model X.prog X.w) A.in1 (Builtin.List.listExtendWith (.ref S) (.ref z) res)
      (fun fin s' => match fin with | .done f => R (.ok f) s' | .again c' => c'.quiet = true ∧ codeAny (model X.prog X.w) A c' R s') (fun e s' => R (.error e) s') s := by
  have hTy : s.TypeIs (.ref z) "zip" := ⟨_, hz0, rfl⟩
  have hS2 := hS
  simp only [List.mem_cons, List.not_mem_nil, or_false, not_or] at hS2
  have hL := L.e.lst
  unfold Builtin.List.listExtendWith
  refine wpAny_bind (wpAny_typeOf hTy ?_)
  have h1 : Builtin.List.listSameRef (.ref S) (.ref z) = false := by simp [Builtin.List.listSameRef, hS2.1]
  have h2 : (Value.type "zip" == Value.type "list") = false := by decide
  have h3 : (Value.type "zip" == Value.type "tuple") = false := by decide
  simp only [h1, h2, h3, Bool.or_false, Bool.false_eq_true, if_false]
  refine wpAny_bind (wpAny_pyIter_zip hz0 ?_)
  refine wpAny_bind (wpAny_holding ?_)
  unfold Builtin.List.listLengthHint
  refine wpAny_bind (wpAny_specialOf hTy zip_no_len ?_)
  show wpAny _ A.in1 (specialOf (Value.ref z) (Str.ofString "__length_hint__") >>= _) _ _ _
  refine wpAny_bind (wpAny_specialOf hTy zip_no_hint ?_)
  refine wpAny_pure ?_
  show wpAny _ A.in1 (rule "list.extend.makes-room" >>= fun _ => Builtin.List.listTouch (.ref S) >>= fun _ =>
    again (.builtin "list.extend.loop" ⟨[.ref S, .ref z, res], []⟩)) _ _ _
  refine wpAny_bind (wpAny_rule ?_)
  refine wpAny_bind ?_
  show wpAny _ A.in1 (updateSeq S (·.push .none) >>= fun _ => updateSeq S (·.pop)) _ _ _
  refine wpAny_bind (wpAny_updateSeq hL rfl ?_)
  have e2 := Heap.get?_update_self (Obj.mapSeq (·.push Value.none)) hL rfl
  refine wpAny_updateSeq (hz := by seq_fits) e2 rfl ?_
  have e3 := Heap.get?_update_self (Obj.mapSeq (·.pop)) e2 rfl
  have oth : ∀ b o, b ≠ S → s.heap.get? b = some o → ((s.heap.update S (Obj.mapSeq (·.push Value.none))).update S (Obj.mapSeq (·.pop))).get? b = some o :=
    fun b o hb e => (Heap.get?_update_other _ _ (Ne.symm hb)).trans ((Heap.get?_update_other _ _ (Ne.symm hb)).trans e)
  have L3 := lp_touch (s := s) (tk := s.toks) (h' := (s.heap.update S (Obj.mapSeq (·.push Value.none))).update S (Obj.mapSeq (·.pop))) hS L (by rw [(Heap.SameBut.update ..).1, (Heap.SameBut.update ..).1]; exact Nat.le_refl _) oth e3
  exact wpAny_pure ⟨plainId_quiet F.plain_extend_loop _, lp_loop hh D hS qx qy hl hz res xs.length 0 _ H [] _ (by omega) (Nat.zero_le _) L3 hR⟩
theorem lp_init {A : Around} {R : Result → Shared → Prop} (hh : A.handled = none) (D : ZipApart z TI TO i1 i2 a b) {s : Shared} (qx : SqT X.K H0 a xs) (qy : SqL X.K H0 b ys) (hl : xs.length = ys.length) (hz : xs.length ≤ 1000000)
    (I : Inv X pins σ H0 s) (fp : ∀ c ∈ [z, TI, TO, i1, i2], FpOk X pins H0 c) (lt : ∀ c ∈ [z, TI, TO, i1, i2], c < s.heap.objs.size) (tie : IsTupOf2 s.heap TI (.ref i1) (.ref i2)) (it1 : s.heap.IsTupleIter i1 a 0) (it2 : s.heap.IsListIter i2 b 0)
    (hz0 : IsZip s.heap z TI TO .none) {u v : Value} (hTO : IsTupOf2 s.heap TO u v)
    (hR : ∀ s' H' Ts' c', LpE X pins σ s.heap.objs.size xs ys H0 xs.length Ts' H' s' c' → R (.ok (.ret .none)) s') :
    wpAny (model X.prog X.w) A.in1 (Builtin.«list.__init__» ⟨[.ref s.heap.objs.size, .ref z], []⟩)
      (fun fin s' => match fin with | .done f => R (.ok f) s' | .again c' => c'.quiet = true ∧ codeAny (model X.prog X.w) A c' R s') (fun e s' => R (.error e) s') { s with heap := s.heap.push { cls := .type "list", data := .seq #[] } } := by
  have e0 : (s.heap.push { cls := .type "list", data := .seq #[] }).get? s.heap.objs.size = some { cls := .type "list", data := .seq #[] } := Heap.get?_push_size _ rfl
  show wpAny _ _ (do let old ← Builtin.List.listItems (.ref s.heap.objs.size); Builtin.List.listUpdate (.ref s.heap.objs.size) (fun _ => #[]); letGo old.toList.reverse; Builtin.List.listExtendWith (.ref s.heap.objs.size) (.ref z) .none) _ _ _
  refine wpAny_bind ?_
  unfold Builtin.List.listItems
  refine wpAny_bind (wpAny_seqItems e0 rfl (wpAny_pure ?_))
  show wpAny _ _ (updateSeq s.heap.objs.size (fun _ => #[]) >>= fun _ => letGo (#[] : Array Value).toList.reverse >>= fun _ => Builtin.List.listExtendWith (.ref s.heap.objs.size) (.ref z) .none) _ _ _
  refine wpAny_bind (wpAny_updateSeq e0 rfl ?_)
  have e2 := Heap.get?_update_self (Obj.mapSeq (fun _ => (#[] : Array Value))) e0 rfl
  have oth : ∀ c o, s.heap.get? c = some o → ((s.heap.push { cls := .type "list", data := .seq #[] }).update s.heap.objs.size (Obj.mapSeq (fun _ => (#[] : Array Value)))).get? c = some o := fun c o e =>
    (Heap.get?_update_other _ _ (Nat.ne_of_gt (Heap.lt_size e))).trans (Heap.get?_push_of_some _ e)
  refine wpAny_bind (wpAny_letGo ?_)
  have hS : s.heap.objs.size ∉ [z, TI, TO, i1, i2] := fun h => Nat.lt_irrefl _ (lt _ h)
  have sz : s.heap.objs.size ≤ ((s.heap.push { cls := .type "list", data := .seq #[] }).update s.heap.objs.size (Obj.mapSeq (fun _ => (#[] : Array Value)))).objs.size := by
    rw [(Heap.SameBut.update ..).1, Heap.size_push]; exact Nat.le_succ _
  have L : LpI X pins σ z TI TO i1 i2 a b s.heap.objs.size xs ys H0 0 [] H0 { s with heap := (s.heap.push { cls := .type "list", data := .seq #[] }).update s.heap.objs.size (Obj.mapSeq (fun _ => (#[] : Array Value))) } _ :=
    ⟨⟨I.kept (t' := s.toks) oth, Same.refl _, rfl, fun j t h => (by cases h), e2, I.fpOk (Nat.le_refl _) (I.hok.fresh (Nat.le_refl _))⟩, fp, fun c hc => Nat.lt_of_lt_of_le (lt c hc) sz, oth _ _ tie, it1.at fun o q => oth _ o q, it2.at fun o q => oth _ o q, .inl ⟨oth _ _ hz0, u, v, oth _ _ hTO⟩⟩
  exact lp_extend hh D hS qx qy hl hz .none L (oth _ _ hz0) hR
theorem lp_call {A : Around} {E : Value → Shared → Prop} {Q : Value → Shared → Prop} (hh : A.handled = none) (D : ZipApart z TI TO i1 i2 a b) {s : Shared} (qx : SqT X.K H0 a xs) (qy : SqL X.K H0 b ys) (hl : xs.length = ys.length) (hz : xs.length ≤ 1000000)
    (I : Inv X pins σ H0 s) (fp : ∀ c ∈ [z, TI, TO, i1, i2], FpOk X pins H0 c) (lt : ∀ c ∈ [z, TI, TO, i1, i2], c < s.heap.objs.size) (tie : IsTupOf2 s.heap TI (.ref i1) (.ref i2)) (it1 : s.heap.IsTupleIter i1 a 0) (it2 : s.heap.IsListIter i2 b 0)
    (hz0 : IsZip s.heap z TI TO .none) {u v : Value} (hTO : IsTupOf2 s.heap TO u v)
    (hQ : ∀ (s' : Shared) (H' : Hp) (Ts' : List Addr), Inv X pins σ (upd H' s.heap.objs.size (.lst (Ts'.map V.ref))) s' → Same H0 H' → Ts'.length = xs.length → (∀ (j : Nat) (t : Addr), Ts'[j]? = some t → ∃ x y, xs[j]? = some x ∧ ys[j]? = some y ∧ H' t = some (.tup [x, y]) ∧ H0 t = none) →
      H' s.heap.objs.size = none → Q (.ref s.heap.objs.size) s') :
    wpAny (model X.prog X.w) A (call (.type "list") [.ref z]) Q E s := by
  refine callType_codes (Q₁ := fun obj s₁ => obj = .ref s.heap.objs.size ∧ s₁ = { s with heap := s.heap.push { cls := .type "list", data := .seq #[] } }) F.called_list (F.typeCall_list_1 _) F.entry_list_init
    (code_list_new _ ⟨rfl, rfl⟩) fun obj s₁ h₁ => ?_
  obtain ⟨rfl, rfl⟩ := h₁
  refine ⟨⟨_, Heap.get?_push_size _ rfl, rfl⟩, F.args_list_init_2 _ _, lp_init (A := A.in1) hh D qx qy hl hz I fp lt tie it1 it2 hz0 hTO fun s' H' Ts' c' L => ?_⟩
  exact ⟨rfl, hQ s' H' Ts' (lp_take L hz) L.same L.len L.tup L.fpS.1⟩
end
def tListZip (K : PySem.W.Frag) (ta : TA) : TE := fun σ H Q => ta σ H fun vs H1 => ∃ (a b : Addr) (xs ys : List V), vs = [.ref a, .ref b] ∧ SqT K H1 a xs ∧ SqL K H1 b ys ∧ xs.length = ys.length ∧ xs.length ≤ 1000000 ∧
  ∀ (p : Addr) (Ts : List Addr) (H' : Hp), Same H1 H' → Ts.length = xs.length → (∀ (j : Nat) (t : Addr), Ts[j]? = some t → ∃ x y, xs[j]? = some x ∧ ys[j]? = some y ∧ H' t = some (.tup [x, y]) ∧ H1 t = none) → H' p = none → Q (.ref p) (upd H' p (.lst (Ts.map V.ref)))
theorem pe_listZip {X : Cx} {e e2 : Expr} {ta : TA} {p pos p2 pos2 : Pos} (hcalm : X.calm = true) (hgl : Gl X "list") (hml : X.mg "list" = none) (hg : Gl X "zip") (hm : X.mg "zip" = none) (ha : PA X [e, e2] ta)
    (hs : starEach [e, e2] X.env = (false, eval e X.env) :: starEach [e2] X.env := by rfl) (hpl : (backTo pos2 (starEach [e2] X.env)).any (·.1) = false := by rfl)
    (na : starEach [(.Call (.Name "zip" p2) [e, e2] [] pos2 : Expr)] X.env = (false, eval (.Call (.Name "zip" p2) [e, e2] [] pos2) X.env) :: starEach [] X.env := by rfl) :
    PE X (.Call (.Name "list" p) [.Call (.Name "zip" p2) [e, e2] [] pos2] [] pos) (tListZip X.K ta) := by
  refine ⟨fun pins s σ H Q I h => ?_⟩
  refine Call_ (ld_blt I hgl hml boot_list (PyProof.Rows.callWith_type1 (args_cons ?_ na) na))
  refine Call_ (ld_blt I hg hm PyProof.Rows.boot_zip (PyProof.Rows.callWith_type1 (thn (ha.run pos2 pins s σ H _ I h) fun us s1 ⟨vs, H1, I1, r1, q1⟩ => ?_) hs hpl))
  obtain ⟨a, b, xs, ys, ex, hqx, hqy, hl, hz, q⟩ := q1
  subst ex
  obtain ⟨u, u2, rfl, r, r2⟩ : ∃ u u2, us = [u, u2] ∧ RelV (.ref a) u ∧ RelV (.ref b) u2 := by
    cases r1 with
    | cons r rr => cases rr with
      | cons r' rr => cases rr; exact ⟨_, _, rfl, r, r'⟩
  obtain rfl : u = Value.ref a := r
  obtain rfl : u2 = Value.ref b := r2
  obtain ⟨its, rv, p1, _⟩ := I1.tuple hqx
  obtain ⟨its2, rv2, p2, _⟩ := I1.list hqy
  obtain ⟨o1, ho1, _⟩ := id p1
  refine zip_begins2 (begins_tuple a its.toArray) (begins_list b its2.toArray) p1 p2.isList fun h' hz0 hTI hTO h1 h2 hsz hk => args_nil ?_
  have I2 : Inv X pins σ H1 { s1 with heap := h' } := I1.kept (t' := s1.toks) hk
  have mem : ∀ c ∈ [s1.heap.objs.size + 4, s1.heap.objs.size + 2, s1.heap.objs.size + 3, s1.heap.objs.size, s1.heap.objs.size + 1], s1.heap.objs.size ≤ c ∧ c < h'.objs.size := fun c hcm => by
    simp only [List.mem_cons, List.not_mem_nil, or_false] at hcm
    rw [hsz]
    rcases hcm with rfl | rfl | rfl | rfl | rfl
    · exact ⟨Nat.le_add_right _ _, Nat.add_lt_add_left (by decide) _⟩
    · exact ⟨Nat.le_add_right _ _, Nat.add_lt_add_left (by decide) _⟩
    · exact ⟨Nat.le_add_right _ _, Nat.add_lt_add_left (by decide) _⟩
    · exact ⟨Nat.le_refl _, Nat.lt_add_of_pos_right (by decide)⟩
    · exact ⟨Nat.le_add_right _ _, Nat.add_lt_add_left (by decide) _⟩
  refine lp_call (I2.ok.hd hcalm) (PySem.W.ktu_apart s1.heap.objs.size a b (Heap.lt_size ho1) p2.lt) hqx hqy hl hz I2 (fun c hc => I1.fpOk (mem c hc).1 (I1.hok.fresh (mem c hc).1)) (fun c hc => (mem c hc).2) hTI ⟨_, h1, rfl, rfl⟩ ⟨_, h2, rfl, rfl⟩ hz0 hTO fun s' H' Ts' I3 sm ln tp hn => ?_
  exact ⟨.ref _, _, I3, rfl, q _ Ts' H' sm ln tp hn⟩
end
section
/-! ### xs == [], xs != [] of a list of any items (our own rule, by the library's for lists of unlike lengths) -/
open PySem PySem.Spec PyProof.Rows
def rEqNil (K : PySem.W.Frag) (neg : Bool) : R2 := fun x y H Q => ∃ a b xs, x = .ref a ∧ y = .ref b ∧ SqL K H a xs ∧ SqL K H b [] ∧ Q (.bl (if neg then !xs.isEmpty else xs.isEmpty)) H
theorem op_eqNil {X : Cx} (hu : X.A.units + 64 < cLine) : OpR X (compareOp .Eq) (rEqNil X.K false) := by
  intro pins s σ H x y v u Q I rx ry h
  obtain ⟨a, b, xs, rfl, rfl, ha, hb, q⟩ := h
  cases (show v = Value.ref a from rx)
  cases (show u = Value.ref b from ry)
  obtain ⟨us, r1, p1, _⟩ := I.list ha
  obtain ⟨ws, r2, p2, _⟩ := I.list hb
  cases r2
  cases xs with
  | nil =>
    cases r1
    exact SeqAt.eq_listAt (e := fun _ => true) p1.isList p2.isList rfl (by omega) (fun j h1 h2 => absurd h1 (Nat.not_lt_zero j)) ⟨.bl true, H, I, rfl, q⟩
  | cons z zs =>
    cases r1
    exact SeqAt.eq_list_lengthsAt p1.isList p2.isList (by simp) (by omega) ⟨.bl false, H, I, rfl, q⟩
theorem op_neNil {X : Cx} (hu : X.A.units + 64 < cLine) : OpR X (compareOp .NotEq) (rEqNil X.K true) := by
  intro pins s σ H x y v u Q I rx ry h
  obtain ⟨a, b, xs, rfl, rfl, ha, hb, q⟩ := h
  cases (show v = Value.ref a from rx)
  cases (show u = Value.ref b from ry)
  obtain ⟨us, r1, p1, _⟩ := I.list ha
  obtain ⟨ws, r2, p2, _⟩ := I.list hb
  cases r2
  cases xs with
  | nil =>
    cases r1
    exact SeqAt.RcNeAt.lists (e := fun _ => true) p1.isList p2.isList rfl (by omega) (fun j h1 h2 => absurd h1 (Nat.not_lt_zero j)) _ _ _ _ ⟨.bl false, H, I, rfl, q⟩
  | cons z zs =>
    cases r1
    exact SeqAt.RcNeAt.lists_lengths p1.isList p2.isList (by simp) (by omega) _ _ _ _ ⟨.bl true, H, I, rfl, q⟩
end
/-! ### comprehensions whose items are told by a relation of ours -/
section
variable {α : Type} (Rl : Hp → V → α → Prop)
def AllR (U : Hp) : List V → List α → Prop
  | [], [] => True
  | z :: zs, r :: rs => Rl U z r ∧ AllR U zs rs
  | _, _ => False
variable {Rl}
theorem allr_len {U : Hp} : ∀ {zs : List V} {rs : List α}, AllR Rl U zs rs → zs.length = rs.length
  | [], [], _ => rfl
  | _ :: zs, _ :: rs, h => by rw [List.length_cons, List.length_cons, allr_len h.2]
  | [], _ :: _, h => h.elim
  | _ :: _, [], h => h.elim
theorem allr_get {U : Hp} : ∀ {zs : List V} {rs : List α} {i : Nat} {z : V}, AllR Rl U zs rs → zs[i]? = some z → ∃ r, rs[i]? = some r ∧ Rl U z r
  | [], [], i, z, _, e => by cases e
  | z :: zs, r :: rs, 0, _, h, e => by cases e; exact ⟨r, rfl, h.1⟩
  | z :: zs, r :: rs, i + 1, _, h, e => allr_get (zs := zs) (rs := rs) (i := i) h.2 e
  | [], _ :: _, _, _, h, _ => h.elim
  | _ :: _, [], _, _, h, _ => h.elim
theorem allr_app {U : Hp} : ∀ {zs ws : List V} {rs ss : List α}, AllR Rl U zs rs → AllR Rl U ws ss → AllR Rl U (zs ++ ws) (rs ++ ss)
  | [], _, [], _, _, g => g
  | _ :: zs, _, _ :: rs, _, h, g => ⟨h.1, allr_app h.2 g⟩
  | [], _, _ :: _, _, h, _ => h.elim
  | _ :: _, _, [], _, h, _ => h.elim
theorem allr_to (mono : ∀ U U' v a, Same U U' → Rl U v a → Rl U' v a) {U U' : Hp} (s : Same U U') : ∀ {zs : List V} {rs : List α}, AllR Rl U zs rs → AllR Rl U' zs rs
  | [], [], _ => trivial
  | _ :: zs, _ :: rs, h => ⟨mono _ _ _ _ s h.1, allr_to mono s h.2⟩
  | [], _ :: _, h => h.elim
  | _ :: _, [], h => h.elim
variable (Rl) in
structure LcR (V0 H0 : Hp) (D : Addr) (acc : List α) (H : Hp) : Prop where
  ex : ∃ V xs, Ext V0 H0 V H ∧ V D = none ∧ H D = some (.lst xs) ∧ AllR Rl V xs acc
theorem lc_rel (mono : ∀ U U' v a, Same U U' → Rl U v a → Rl U' v a) {J : It} {n : Nat} {G : Hp → Prop} {Y : Nat → Hp → V → Hp → Prop} (wk : Walk J n G Y) {V0 H0 : Hp} {D : Addr} {g : TG} {tt : TT} {te : TE} {vs : List Nat} {σ : St} {Qd : Hp → Prop} (f : Nat → Option α) (σ0 : St) (hσ : wipe σ vs = σ0) (s0 : Same V0 H0) (hD : H0 D = none) (hn : n < 100000)
    (hG : ∀ H, Same H0 H → G H) (hY : ∀ i H x H', Y i H x H' → H' = H)
    (hs : ∀ i x V H, i < n → Ext V0 H0 V H → Y i H x H → ∀ (Qy : VK) (Qn : Hp → Prop), (∀ d y V' H', f i = some d → Ext V H V' H' → Rl V' y d → Qy y H') → (f i = none → ∀ V' H', Ext V H V' H' → Qn H') →
      g x σ0 H fun σ2 H2 => wipe σ2 vs = σ0 ∧ tt σ2 H2 fun b H3 => if b = true then te σ2 H3 Qy else Qn H3)
    (hd : ∀ (U H : Hp) (xs : List V), Ext V0 H0 U H → U D = some (.lst xs) → AllR Rl U xs (fm f n) → Qd H) :
    ∃ W : Nat → Nat → Hp → Prop, (∃ m, W 0 m (upd H0 D (.lst []))) ∧ ∀ i m H, W i m H →
      (J.stop i H ∧ Qd H) ∨ (J.go i H ∧ ∃ Nx : Hp → Prop, (∀ H', Nx H' → ∃ m', m' < m ∧ W (i + 1) m' H') ∧ ∀ x H', J.yld i H x H' → g x (wipe σ vs) H' fun σ2 H2 => wipe σ2 vs = wipe σ vs ∧ tt σ2 H2 fun b H3 =>
        if b = true then te σ2 H3 fun y H4 => ∃ acc, H4 D = some (.lst acc) ∧ acc.length < sizeLine ∧ Nx (upd H4 D (.lst (acc ++ [y]))) else Nx H3) := by
  subst hσ
  refine lc_it wk (fun i H => LcR Rl V0 H0 D (fm f i) H) ⟨V0, [], Ext.skip s0 hD, s0.free hD, upd_same, trivial⟩ (fun i H _ p => ?_) (fun i x H H' hi p y => ?_) (fun H p => ?_)
  · obtain ⟨V, xs, x, _⟩ := p.ex
    exact hG H x.hh
  · obtain ⟨V, xs, x0, hv, hdd, dp⟩ := p.ex
    obtain rfl := hY i H x H' y
    refine hs i x V H' hi x0 y _ _ (fun d y' V' H4 e x2 dy => ?_) (fun e V' H4 x2 => ?_)
    · have hl : xs.length < 100000 := by
        rw [allr_len dp]; exact Nat.lt_of_le_of_lt (fm_len f i) (Nat.lt_trans hi hn)
      have hv' : V' D = none := x2.keepOut hv (by rw [hdd]; exact fun z => by cases z)
      refine ⟨xs, x2.hh _ _ hdd, lt_line hl, V', xs ++ [y'], (x0.trans x2).poke hD hv', hv', upd_same, ?_⟩
      rw [fm_succ, e]
      exact allr_app (allr_to mono x2.vv dp) ⟨dy, trivial⟩
    · have hv' : V' D = none := x2.keepOut hv (by rw [hdd]; exact fun z => by cases z)
      rw [fm_succ, e]
      show LcR Rl V0 H0 D (fm f i ++ []) H4
      rw [List.append_nil]
      exact ⟨V', xs, x0.trans x2, hv', x2.hh _ _ hdd, allr_to mono x2.vv dp⟩
  · obtain ⟨U, xs, x, hv, hdd, dp⟩ := p.ex
    exact hd _ H xs (x.take hD hv hdd) upd_same (allr_to mono (same_upd hv) dp)
end
/-! ### split at one sign, by lists of codes -/
def spC (c : Nat) : List Nat → List (List Nat)
  | [] => [[]]
  | x :: r => if x = c then [] :: spC c r else match spC c r with
    | [] => [[x]]
    | p :: q => (x :: p) :: q
def jnC (c : Nat) : List (List Nat) → List Nat
  | [] => []
  | [p] => p
  | p :: r => p ++ c :: jnC c r
theorem spC_app (c : Nat) : ∀ (p : List Nat), c ∉ p → (spC c p = [p]) ∧ ∀ t, spC c (p ++ c :: t) = p :: spC c t
  | [], _ => ⟨rfl, fun t => by show (if c = c then [] :: spC c t else _) = _; rw [if_pos rfl]⟩
  | x :: p, h => by
    have hx : x ≠ c := fun z => h (by rw [z]; exact List.mem_cons_self ..)
    obtain ⟨h1, h2⟩ := spC_app c p (fun z => h (List.mem_cons_of_mem _ z))
    refine ⟨?_, fun t => ?_⟩
    · show (if x = c then _ else match spC c p with | [] => [[x]] | p :: q => (x :: p) :: q) = _
      rw [if_neg hx, h1]
    · show (if x = c then _ else match spC c (p ++ c :: t) with | [] => [[x]] | p :: q => (x :: p) :: q) = _
      rw [if_neg hx, h2 t]
theorem spC_jn (c : Nat) : ∀ (ps : List (List Nat)), ps ≠ [] → (∀ p ∈ ps, c ∉ p) → spC c (jnC c ps) = ps
  | [], h, _ => absurd rfl h
  | [p], _, h => (spC_app c p (h p (List.mem_cons_self ..))).1
  | p :: q :: r, _, h => by
    show spC c (p ++ c :: jnC c (q :: r)) = _
    rw [(spC_app c p (h p (List.mem_cons_self ..))).2, spC_jn c (q :: r) (fun z => by cases z) fun x hx => h x (List.mem_cons_of_mem _ hx)]
theorem jn_cps (c : Nat) : ∀ (ts : List Str), (Str.join ⟨#[c]⟩ ts).cps.toList = jnC c (ts.map fun t => t.cps.toList)
  | [] => rfl
  | [_] => rfl
  | p :: q :: r => by
    show (p ++ ⟨#[c]⟩ ++ Str.join ⟨#[c]⟩ (q :: r)).cps.toList = p.cps.toList ++ c :: jnC c ((q :: r).map fun t => t.cps.toList)
    rw [← jn_cps c (q :: r)]
    show ((p.cps ++ #[c]) ++ (Str.join ⟨#[c]⟩ (q :: r)).cps).toList = _
    simp
def spS (c : Nat) (t : Str) : List Str := (spC c t.cps.toList).map fun l => ⟨l.toArray⟩
theorem split_sp (x : Str) (c : Nat) : Txt.split x ⟨#[c]⟩ = spS c x := by
  have h1 := StrLaws.join_split x ⟨#[c]⟩
  have h2 := StrLaws.split_free x c
  have h3 : Txt.split x ⟨#[c]⟩ ≠ [] := fun z => by
    unfold Txt.split at z
    split at z
    · cases z
    · split at z
      · cases z
      · rw [StrLaws.partsBetween_eq] at z
        obtain ⟨p, r, e⟩ := StrLaws.partsFrom_ne x (Str.length ⟨#[c]⟩) 0 (Builtin.Str.occurrences x ⟨#[c]⟩ 0 x.length (x.length + 1))
        rw [e] at z; cases z
  generalize Txt.split x ⟨#[c]⟩ = ps at h1 h2 h3
  unfold spS
  rw [← h1, jn_cps, spC_jn c _ (fun z => h3 (List.map_eq_nil_iff.mp z)) (fun p hp => by
    obtain ⟨t, ht, rfl⟩ := List.mem_map.mp hp
    exact h2 t ht), List.map_map]
  exact (List.map_id'' (fun t => rfl) ps).symm
/-! ### the tables of requests and events; event_octets -/
def evD (rows : List (Str × List Str)) : PyData := .tuple (rows.map fun r => .tuple [.str r.1, .tuple (r.2.map PyData.str)])
theorem dpall_strs {K : PySem.W.Frag} {H : Hp} : ∀ {vs : List V} {ss : List Str}, DpAll K H vs (ss.map PyData.str) → vs = ss.map V.str
  | _, [], h => by cases h; rfl
  | _, s :: r, h => by
    cases h with
    | cons h1 h2 => rw [dp_str h1, dpall_strs h2]; rfl
/-- rows that begin with a name -/
def rowsD (rows : List (Str × List PyData)) : PyData := .tuple (rows.map fun r => .tuple (.str r.1 :: r.2))
theorem evD_rows (rows : List (Str × List Str)) : evD rows = rowsD (rows.map fun r => (r.1, [.tuple (r.2.map PyData.str)])) := by unfold evD rowsD; rw [List.map_map]; rfl
def sp__opcode_of (K : PySem.W.Frag) : Sp := fun vs H Q _ => ∃ (ar : Addr) (rows : List (Str × List PyData)) (name : Str) (j : Nat) (row : Str × List PyData), vs = [.ref ar, .str name] ∧ Dp K H (.ref ar) (rowsD rows) ∧ rows.length < 1000 ∧
  rows[j]? = some row ∧ row.1 = name ∧ (∀ (m : Nat) (row' : Str × List PyData), m < j → rows[m]? = some row' → row'.1 ≠ name) ∧ ∀ H', Same H H' → Q (.int (j : Nat)) H'
theorem sc__opcode_of : FnScope ["rows", "name", "row"] ["rows", "name"] (defScope s__opcode_of) := ⟨rfl, rfl, rfl, by decide +kernel, rfl, by decide +kernel, by decide +kernel⟩
theorem ok__opcode_of (T : Txt0 P K mg A) : FnOk P w K mg base CX0 1 A.f_opcode_of A.d_opcode_of ["rows", "name"] (sp__opcode_of K) := by
  refine T.F_opcode_of.ok sc__opcode_of (fun vs H Q E h => ?_) (fun cdv Ar outer s H vs Q E hr h => ?_)
  · obtain ⟨_, _, _, _, _, rfl, _⟩ := h
    rfl
  · obtain ⟨ar, rows, name, j, row, rfl, dr, hl, hj, hn, hm, q⟩ := h
    obtain ⟨pr, zs, e0, qs, ds⟩ := dp_tuple dr
    cases e0
    have hzl : zs.length = rows.length := by rw [dpall_len ds, List.length_map]
    refine ⟨_, (pss_one (ps_ret (pe_bm PySem.F.plainAttrs_list PySem.F.slot_list_index PySem.F.type_list_index mt_index (pe_lc (own := [("row", 2)]) (g := (gName 2)) (tt := tYes) rfl sc__opcode_of.nd (pi_tup (pv 0)) (blkOk_by (own := [("row", 2)]) (N := ["rows", "name", "row"]) (sc := defScope s__opcode_of) (by decide +kernel)) (fun _ _ _ _ _ => (pg_name (i := 2) sc__opcode_of.nd rfl (Or.inl rfl))) (fun _ _ _ _ _ => pts_nil) (fun _ _ _ _ _ => by exact (pe_ix (r := rIxT K) ix_tup (pv 2) pe_int (fun _ _ => rfl)))) (pa_cons (pv 1) pa_nil)))), ?_⟩
    refine ⟨_, rfl, ar, rfl, ⟨_, qs⟩, fun D hD => ?_⟩
    refine lc_dp (walk_tup (K := K) (a := ar) (xs := zs)) (K := K) (V0 := H) (H0 := H) (fun i => (rows[i]?).map fun r => PyData.str r.1) _ rfl (Same.refl _) hD (by omega) (fun H' s => s.sqt qs) (fun i x H H' y => y.1) ?_ ?_
    · rintro n z U2 H4 hn' xx ⟨_, hz⟩ Qy Qn hy hno
      obtain ⟨d, hd, dv⟩ := dpall_get ds hz
      rw [List.getElem?_map] at hd
      obtain ⟨r, hr, rfl⟩ := Option.map_eq_some_iff.mp hd
      obtain ⟨pt, ws, rfl, qw, dw⟩ := dp_tuple dv
      cases dw with
      | cons d1 d2 =>
        obtain rfl := dp_str d1
        have qw' := xx.hh.sqt qw
        walk_at "go"
        exact hy (.str r.1) _ _ _ (by rw [hr]; rfl) (Ext.refl xx.vh) (.str _)
    · rintro U2 H4 ws xx uD dA _
      rw [hzl, fm_map] at dA
      have ew : ws = (rows.map fun r => r.1).map V.str := dpall_strs (by rw [List.map_map]; exact dA)
      subst ew
      have eD := xx.vh _ _ uD
      refine ⟨.inl ⟨rfl, _, SqL.of eD⟩, ?_⟩
      walk_at "go"
      have hj2 : ((rows.map fun r => r.1).map V.str)[j]? = some (.str row.1) := by rw [List.getElem?_map, List.getElem?_map, hj]; rfl
      refine ⟨D, _, .str name, j, .str row.1, rfl, rfl, SqL.of eD, rfl, ?_, hj2, ?_, fun m z' hlt hz' => ?_, ?_⟩
      · rw [List.map_map, List.all_map]; exact List.all_eq_true.mpr fun _ _ => rfl
      · show (row.1 == name) = true
        rw [hn]; exact beq_self_eq_true _
      · rw [List.getElem?_map, List.getElem?_map] at hz'
        obtain ⟨y, hy, rfl⟩ := Option.map_eq_some_iff.mp hz'
        obtain ⟨r', hr', rfl⟩ := Option.map_eq_some_iff.mp hy
        show (r'.1 == name) = false
        exact beq_eq_false_iff_ne.mpr (hm m r' hlt hr')
      · exact q _ xx.hh
/-! ### the rows of the tables -/
def rqD (rows : List (Str × List Str × Bool)) : PyData := .tuple (rows.map fun r => .tuple [.str r.1, .tuple (r.2.1.map PyData.str), .bool r.2.2])
theorem rqD_rows (rows : List (Str × List Str × Bool)) : rqD rows = rowsD (rows.map fun r => (r.1, [.tuple (r.2.1.map PyData.str), .bool r.2.2])) := by unfold rqD rowsD; rw [List.map_map]; rfl
def RowAt (K : PySem.W.Frag) (zs : List V) (op : Int) (H : Hp) (Q : VK) : Prop := (∀ (i : Nat) (z : V), op = (i : Int) → zs[i]? = some z → Q z H) ∧ (op < 0 ∨ (zs.length : Int) ≤ op → Q .non H)
def sp__row_at (K : PySem.W.Frag) : Sp := fun vs H Q _ => ∃ (ar : Addr) (zs : List V) (op : Int), vs = [.ref ar, .int op] ∧ SqT K H ar zs ∧ RowAt K zs op H Q
theorem sc__row_at : FnScope ["rows", "opcode"] ["rows", "opcode"] (defScope s__row_at) := ⟨rfl, rfl, rfl, by decide +kernel, rfl, by decide +kernel, by decide +kernel⟩
theorem ok__row_at (T : Txt0 P K mg A) : FnOk P w K mg base CX0 1 A.f_row_at A.d_row_at ["rows", "opcode"] (sp__row_at K) := by
  refine T.F_row_at.ok sc__row_at (fun vs H Q E h => ?_) (fun cdv Ar outer s H vs Q E hr h => ?_)
  · obtain ⟨_, _, _, rfl, _⟩ := h
    rfl
  · obtain ⟨ar, zs, op, rfl, qs, q1, q2⟩ := h
    refine ⟨_, (pss_one (ps_ret (pe_ifExp (pt_chain op_le op_lt pe_int (pv 1) (pe_callB call_len_seq (by rfl) T.len PySem.boot_len (pa_cons (pv 0) pa_nil))) (pe_ix (r := rIxT K) ix_tup (pv 0) (pv 1) (fun _ _ => rfl)) pe_non))), ?_⟩
    walk_at "go"
    refine iteP (fun c0 => ?_) (fun c0 => ?_)
    · refine ⟨_, rfl, ar, zs, rfl, .inr qs, ?_⟩
      refine ⟨_, _, rfl, rfl, _, rfl, ?_⟩
      refine iteP (fun c1 => ?_) (fun c1 => ?_)
      · walk_at "go"
        have hop : op = ((op.toNat : Nat) : Int) := (Int.toNat_of_nonneg c0).symm
        have hlt : op.toNat < zs.length := by omega
        refine ⟨ar, _, _, zs[op.toNat], rfl, rfl, qs, L2.at_of (j := op.toNat) hop (List.getElem?_eq_getElem hlt), ?_⟩
        exact q1 _ _ hop (List.getElem?_eq_getElem hlt)
      · exact q2 (.inr (by omega))
    · exact ⟨_, rfl, if_f rfl (q2 (.inl (by omega)))⟩
def sp_request_row (A : Adr) (w : World) (K : PySem.W.Frag) : Sp := fun vs H Q _ => ∃ (name : Str) (ar : Addr) (zs : List V) (op : Int), vs = [.str name, .int op] ∧ (A.a_REQUESTS == sysModules) = false ∧ KDct K w A.a_REQUESTS name (.ref ar) ∧ SqT K H ar zs ∧ ∀ H', Same H H' → RowAt K zs op H' Q
theorem sc_request_row : FnScope ["interface", "opcode"] ["interface", "opcode"] (defScope s_request_row) := ⟨rfl, rfl, rfl, by decide +kernel, rfl, by decide +kernel, by decide +kernel⟩
theorem ok_request_row (T : Txt0 P K mg A) : FnOk P w K mg base CX0 2 A.frequest_row A.drequest_row ["interface", "opcode"] (sp_request_row A w K) := by
  refine T.Frequest_row.ok sc_request_row (fun vs H Q E h => ?_) (fun cdv Ar outer s H vs Q E hr h => ?_)
  · obtain ⟨_, _, _, _, rfl, _⟩ := h
    rfl
  · obtain ⟨name, ar, zs, op, rfl, hs, hk, qs, q⟩ := h
    refine ⟨_, (pss_one (ps_ret (pe_call (ok__row_at T) (hr.mono (by decide)) rfl T.g_row_at T.k_row_at T.b_row_at .nil pass0 (pa_cons (pe_kget2 (pe_glob (v := .ref A.a_REQUESTS) rfl T.g_REQUESTS rfl) (pv 0) (pe_tup pa_nil) ⟨rfl, rfl, rfl, rfl⟩) (pa_cons (pv 1) pa_nil))))), ?_⟩
    walk_at "go"
    refine ⟨_, name, some (.ref ar), rfl, hs, hk, _, rfl, rfl, ?_⟩
    refine ⟨len_line (by show 0 ≤ 100000; decide), fun p hp => ?_⟩
    walk_at "go"
    exact ⟨ar, zs, op, rfl, (same_upd hp).sqt qs, q _ (same_upd hp)⟩
def sp_request_opcode (A : Adr) (w : World) (K : PySem.W.Frag) : Sp := fun vs H Q _ => ∃ (ar : Addr) (rows : List (Str × List PyData)) (intf name : Str) (j : Nat) (row : Str × List PyData), vs = [.str intf, .str name] ∧ KDct K w A.a_REQUESTS intf (.ref ar) ∧ Dp K H (.ref ar) (rowsD rows) ∧ rows.length < 1000 ∧
  rows[j]? = some row ∧ row.1 = name ∧ (∀ (m : Nat) (row' : Str × List PyData), m < j → rows[m]? = some row' → row'.1 ≠ name) ∧ ∀ H', Same H H' → Q (.int (j : Nat)) H'
theorem sc_request_opcode : FnScope ["interface", "name"] ["interface", "name"] (defScope s_request_opcode) := ⟨rfl, rfl, rfl, by decide +kernel, rfl, by decide +kernel, by decide +kernel⟩
theorem ok_request_opcode (T : Txt0 P K mg A) : FnOk P w K mg base CX0 2 A.frequest_opcode A.drequest_opcode ["interface", "name"] (sp_request_opcode A w K) := by
  refine T.Frequest_opcode.ok sc_request_opcode (fun vs H Q E h => ?_) (fun cdv Ar outer s H vs Q E hr h => ?_)
  · obtain ⟨_, _, _, _, _, _, rfl, _⟩ := h
    rfl
  · obtain ⟨ar, rows, intf, name, j, row, rfl, hk, dr, hl, hj, hn, hm, q⟩ := h
    refine ⟨_, (pss_one (ps_ret (pe_call (ok__opcode_of T) (hr.mono (by decide)) rfl T.g_opcode_of T.k_opcode_of T.b_opcode_of .nil pass0 (pa_cons (pe_ix (r := rIxD K w) ix_kdict (pe_glob (v := .ref A.a_REQUESTS) rfl T.g_REQUESTS rfl) (pv 0) (fun _ _ => rfl)) (pa_cons (pv 1) pa_nil))))), ?_⟩
    walk_at "go"
    refine ⟨_, _, _, rfl, rfl, hk, ?_⟩
    walk_at "go"
    exact ⟨ar, rows, name, j, row, rfl, dr, hl, hj, hn, hm, q⟩
/-! ### Objects -/
abbrev ORow := Int × Str
def rowsK (rs : List ORow) : List (Key × V) := rs.map fun r => (Sum.inl r.1, V.str r.2)
def find (rs : List ORow) (n : Int) : Option Str := (rs.find? fun r => decide (r.1 = n)).map (·.2)
theorem find_cons (r : ORow) (rs : List ORow) (n : Int) : find (r :: rs) n = if r.1 = n then some r.2 else find rs n := by
  unfold find
  rw [List.find?_cons]
  by_cases h : r.1 = n
  · rw [if_pos h, decide_eq_true h]; rfl
  · rw [if_neg h, decide_eq_false h]
theorem valV_rows (n : Int) : ∀ rs : List ORow, valV (rowsK rs) (Sum.inl n) = (find rs n).map V.str
  | [] => rfl
  | r :: rs => by
    rw [find_cons]
    by_cases h : r.1 = n
    · rw [if_pos h]
      show valV ((Sum.inl r.1, V.str r.2) :: rowsK rs) (Sum.inl n) = _
      rw [valV_pos (show (Sum.inl r.1 : Key) = Sum.inl n by rw [h])]; rfl
    · rw [if_neg h]
      show valV ((Sum.inl r.1, V.str r.2) :: rowsK rs) (Sum.inl n) = _
      rw [valV_neg (fun z => h (Sum.inl.inj z))]
      exact valV_rows n rs
theorem putK_rows {n : Int} {z : Str} {rs : List ORow} (h : find rs n = none) : putK (rowsK rs) (Sum.inl n) (.str z) = rowsK (rs ++ [(n, z)]) := by
  unfold putK
  rw [valV_any, valV_rows, h]
  show (if false = true then _ else _) = _
  rw [if_neg Bool.false_ne_true]
  unfold rowsK
  rw [List.map_append]; rfl
theorem dropK_rows (n : Int) (rs : List ORow) : dropK (rowsK rs) (Sum.inl n) = rowsK (rs.filter fun r => decide (r.1 ≠ n)) := by
  unfold dropK rowsK
  rw [List.filter_map]
  congr 1
  refine List.filter_congr fun r _ => ?_
  show decide ((Sum.inl r.1 : Key) ≠ Sum.inl n) = decide (r.1 ≠ n)
  exact decide_eq_decide.mpr (not_congr ⟨Sum.inl.inj, fun h => by rw [h]⟩)
def oF (d : Addr) (nm : Int) : List (Str × V) := [("_interfaces", .ref d), ("_next_made", .int nm)]
theorem oF_i (d : Addr) (nm : Int) : (oF d nm).lookup ("_interfaces" : Str) = some (.ref d) := by
  unfold oF; rw [List.lookup_cons_self]
theorem oF_n (d : Addr) (nm : Int) : (oF d nm).lookup ("_next_made" : Str) = some (.int nm) := by
  unfold oF
  rw [List.lookup_cons, show (("_next_made" : Str) == ("_interfaces" : Str)) = false by decide +kernel]
  rw [List.lookup_cons_self]
theorem oF_put (d : Addr) (nm y : Int) : putF "_next_made" (.int y) (oF d nm) = oF d y := by
  unfold oF
  show (if ("_interfaces" : Str) = "_next_made" then _ else (("_interfaces" : Str), V.ref d) :: putF "_next_made" (V.int y) [("_next_made", .int nm)]) = _
  rw [if_neg (by decide +kernel)]
  show _ :: (if ("_next_made" : Str) = "_next_made" then _ else _) = _
  rw [if_pos rfl]
theorem oF_new (d : Addr) (y : Int) : putF "_next_made" (.int y) (putF "_interfaces" (.ref d) []) = oF d y := by
  show (if ("_interfaces" : Str) = "_next_made" then _ else (("_interfaces" : Str), V.ref d) :: putF "_next_made" (V.int y) []) = _
  rw [if_neg (by decide +kernel)]; rfl
theorem oF_no (d : Addr) (nm : Int) {m : Str} (h1 : (m == ("_interfaces" : Str)) = false) (h2 : (m == ("_next_made" : Str)) = false) : (oF d nm).lookup m = none := by
  unfold oF
  rw [List.lookup_cons, h1, List.lookup_cons, h2]; rfl
/-- an Objects at o, its dict at d -/
structure ObjAt (C : Addr) (H : Hp) (o d : Addr) (rs : List ORow) (nm : Int) : Prop where
  ob : ∃ dx, H o = some (.ins C dx (oF d nm))
  dk : H d = some (.dK (rowsK rs))
/-- all but a few objects are as they were -/
def But (H H' : Hp) (P : Addr → Prop) : Prop := ∀ b u, H b = some u → ¬ P b → H' b = some u
theorem ObjAt.ne {C o d : Addr} {H : Hp} {rs : List ORow} {nm : Int} (h : ObjAt C H o d rs nm) : o ≠ d := by
  obtain ⟨dx, e⟩ := h.ob
  exact ne_of e h.dk (by intro z; cases z)
theorem ObjAt.same {C o d : Addr} {H H' : Hp} {rs : List ORow} {nm : Int} (h : ObjAt C H o d rs nm) (s : Same H H') : ObjAt C H' o d rs nm := by
  obtain ⟨dx, e⟩ := h.ob
  exact ⟨⟨dx, s _ _ e⟩, s _ _ h.dk⟩
def sp_Objects___init__ (C : Addr) : Sp := fun vs H Q _ => ∃ (o dx : Addr), vs = [.ref o] ∧ H o = some (.ins C dx []) ∧ ∀ (d : Addr) (H' : Hp), ObjAt C H' o d [(1, "display")] 4278190080 → H d = none → But H H' (fun b => b = o) → Q .non H'
theorem sc_Objects___init__ : FnScope ["self"] ["self"] (defScope s_Objects___init__) := ⟨rfl, rfl, rfl, by decide +kernel, rfl, by decide +kernel, by decide +kernel⟩
theorem ok_Objects___init__ (T : Txt0 P K mg A) : FnOk P w K mg base CX0 1 A.fObjects___init__ A.dObjects___init__ ["self"] (sp_Objects___init__ A.CObjects) := by
  refine T.FObjects___init__.ok sc_Objects___init__ (fun vs H Q E h => ?_) (fun cdv Ar outer s H vs Q E hr h => ?_)
  · obtain ⟨o, dx, rfl, _⟩ := h
    rfl
  · obtain ⟨o, dx, rfl, ho, q⟩ := h
    refine ⟨_, (pss_cons (ps_fld (pv 0) (pe_disp (pps_cons (pe_glob (v := .int (1)) rfl T.gDISPLAY ⟨_, rfl⟩) pe_str pps_nil) (by rfl) (by rfl) (fun z => by cases z) (by decide)) rfl)
      (pss_one (ps_fld (pv 0) (pe_op op_add (pe_glob (v := .int (4278190079)) rfl T.gGREATEST_GIVEN ⟨_, rfl⟩) pe_int) rfl))), ?_⟩
    intro d hd
    have hod : o ≠ d := ne_of_none ho hd
    refine ⟨upd_same, [(Sum.inl 1, .str "display")], rfl, by decide, ?_⟩
    have ho2 : (upd (upd H d (.dK [])) d (.dK (mergeK [] [((Sum.inl 1 : Key), V.str "display")]))) o = some (.ins A.CObjects dx []) := by rw [upd_ne hod, upd_ne hod]; exact ho
    refine ⟨_, rfl, o, _, dx, _, rfl, ho2, T.clObjects, T.nObjects__interfaces, (by show 0 < 1000; decide), ?_⟩
    refine ⟨_, _, rfl, rfl, _, rfl, o, _, dx, _, rfl, upd_same, T.clObjects, T.nObjects__next_made, (by show 1 < 1000; decide), ?_⟩
    refine q d _ ⟨⟨dx, ?_⟩, ?_⟩ hd fun b u e hb => ?_
    · rw [upd_same]
      exact congrArg (fun z => some (HO.ins _ dx z)) (oF_new d 4278190080)
    · rw [upd_ne hod.symm, upd_ne hod.symm, upd_same]; rfl
    · have hbd : b ≠ d := ne_of_none e hd
      rw [upd_ne hb, upd_ne hb, upd_ne hbd, upd_ne hbd]; exact e
def sp_Objects_interface_of (C : Addr) : Sp := fun vs H Q _ => ∃ (o d : Addr) (rs : List ORow) (nm n : Int), vs = [.ref o, .int n] ∧ ObjAt C H o d rs nm ∧ Q (((find rs n).map V.str).getD .non) H
theorem sc_Objects_interface_of : FnScope ["self", "number"] ["self", "number"] (defScope s_Objects_interface_of) := ⟨rfl, rfl, rfl, by decide +kernel, rfl, by decide +kernel, by decide +kernel⟩
theorem ok_Objects_interface_of (T : Txt0 P K mg A) : FnOk P w K mg base CX0 1 A.fObjects_interface_of A.dObjects_interface_of ["self", "number"] (sp_Objects_interface_of A.CObjects) := by
  refine T.FObjects_interface_of.ok sc_Objects_interface_of (fun vs H Q E h => ?_) (fun cdv Ar outer s H vs Q E hr h => ?_)
  · obtain ⟨o, d, rs, nm, n, rfl, _⟩ := h
    rfl
  · obtain ⟨o, d, rs, nm, n, rfl, ho, q⟩ := h
    obtain ⟨dx, h1⟩ := ho.ob
    refine ⟨_, (pss_one (ps_ret (pe_dget1 (hu_of hr) (pe_fld (pv 0) rfl) (pv 1) ⟨rfl, rfl, rfl, rfl⟩))), ?_⟩
    refine ⟨_, rfl, o, _, dx, _, _, rfl, h1, T.clObjects, T.nObjects__interfaces, oF_i _ _, d, rfl, .inl ⟨_, .inl ho.dk⟩, _, rfl, _, DGet.k (k := Sum.inl n) ho.dk, ?_⟩
    rw [valV_rows]; exact q
def sp_Objects_numbers (C : Addr) : Sp := fun vs H Q _ => ∃ (o d : Addr) (rs : List ORow) (nm : Int), vs = [.ref o] ∧ ObjAt C H o d rs nm ∧ ∀ p H', NewL H H' p ((rs.map fun r => r.1).map V.int) → Q (.ref p) H'
theorem sc_Objects_numbers : FnScope ["self"] ["self"] (defScope s_Objects_numbers) := ⟨rfl, rfl, rfl, by decide +kernel, rfl, by decide +kernel, by decide +kernel⟩
theorem ok_Objects_numbers (T : Txt0 P K mg A) : FnOk P w K mg base CX0 1 A.fObjects_numbers A.dObjects_numbers ["self"] (sp_Objects_numbers A.CObjects) := by
  refine T.FObjects_numbers.ok sc_Objects_numbers (fun vs H Q E h => ?_) (fun cdv Ar outer s H vs Q E hr h => ?_)
  · obtain ⟨o, d, rs, nm, rfl, _⟩ := h
    rfl
  · obtain ⟨o, d, rs, nm, rfl, ho, q⟩ := h
    obtain ⟨dx, h1⟩ := ho.ob
    refine ⟨_, (pss_one (ps_ret (pe_callTy (call_listD rfl) (by rfl) T.list (by decide +kernel) (pa_cons (pe_fld (pv 0) rfl) pa_nil)))), ?_⟩
    refine ⟨_, rfl, o, _, dx, _, _, rfl, h1, T.clObjects, T.nObjects__interfaces, oF_i _ _, d, _, rfl, .inl ho.dk, fun p hp => q p _ ⟨hp, same_upd hp, ?_⟩⟩
    rw [upd_same]
    unfold rowsK
    rw [List.map_map, List.map_map]; rfl
def mayGive (rs : List ORow) (n : Int) : Bool := decide (2 ≤ n ∧ n ≤ 4278190079) && (find rs n).isNone
def sp_Objects_may_give (C : Addr) : Sp := fun vs H Q _ => ∃ (o d : Addr) (rs : List ORow) (nm n : Int), vs = [.ref o, .int n] ∧ ObjAt C H o d rs nm ∧ Q (.bl (mayGive rs n)) H
theorem sc_Objects_may_give : FnScope ["self", "number"] ["self", "number"] (defScope s_Objects_may_give) := ⟨rfl, rfl, rfl, by decide +kernel, rfl, by decide +kernel, by decide +kernel⟩
theorem ok_Objects_may_give (T : Txt0 P K mg A) : FnOk P w K mg base CX0 1 A.fObjects_may_give A.dObjects_may_give ["self", "number"] (sp_Objects_may_give A.CObjects) := by
  refine T.FObjects_may_give.ok sc_Objects_may_give (fun vs H Q E h => ?_) (fun cdv Ar outer s H vs Q E hr h => ?_)
  · obtain ⟨o, d, rs, nm, n, rfl, _⟩ := h
    rfl
  · obtain ⟨o, d, rs, nm, n, rfl, ho, q⟩ := h
    obtain ⟨dx, h1⟩ := ho.ob
    refine ⟨_, (pss_one (ps_ret (pe_and (pe_chain op_le op_le (pe_glob (v := .int (2)) rfl T.gLEAST_GIVEN ⟨_, rfl⟩) (pv 1) (pe_glob (v := .int (4278190079)) rfl T.gGREATEST_GIVEN ⟨_, rfl⟩)) (pe_one (pe_cmp (pc_dnotin (hu_of hr) (pv 1) (pe_fld (pv 0) rfl)) rfl))))), ?_⟩
    unfold mayGive at q
    refine ⟨_, rfl, _, _, rfl, rfl, _, rfl, iteP (fun c1 => ?_) (fun c1 => ?_)⟩
    · refine ⟨_, _, rfl, rfl, _, rfl, iteP (fun c2 => ?_) (fun c2 => ?_)⟩
      · rw [decide_eq_true ⟨c1, c2⟩, Bool.true_and] at q
        refine ⟨_, rfl, _, rfl, o, _, dx, _, _, rfl, h1, T.clObjects, T.nObjects__interfaces, oF_i _ _, d, _, rfl, DGet.k (k := Sum.inl n) ho.dk, ?_⟩
        rw [valV_rows]
        cases e : find rs n with
        | none => rw [e] at q; exact q
        | some z => rw [e] at q; exact q
      · rw [decide_eq_false fun z => c2 z.2, Bool.false_and] at q
        exact q
    · rw [decide_eq_false fun z => c1 z.1, Bool.false_and] at q
      exact ⟨_, rfl, if_f rfl q⟩
def sp_Objects_is_full (C : Addr) : Sp := fun vs H Q _ => ∃ (o d : Addr) (rs : List ORow) (nm : Int), vs = [.ref o] ∧ ObjAt C H o d rs nm ∧ Q (.bl (decide (512 ≤ rs.length))) H
theorem sc_Objects_is_full : FnScope ["self"] ["self"] (defScope s_Objects_is_full) := ⟨rfl, rfl, rfl, by decide +kernel, rfl, by decide +kernel, by decide +kernel⟩
theorem ok_Objects_is_full (T : Txt0 P K mg A) : FnOk P w K mg base CX0 1 A.fObjects_is_full A.dObjects_is_full ["self"] (sp_Objects_is_full A.CObjects) := by
  refine T.FObjects_is_full.ok sc_Objects_is_full (fun vs H Q E h => ?_) (fun cdv Ar outer s H vs Q E hr h => ?_)
  · obtain ⟨o, d, rs, nm, rfl, _⟩ := h
    rfl
  · obtain ⟨o, d, rs, nm, rfl, ho, q⟩ := h
    obtain ⟨dx, h1⟩ := ho.ob
    refine ⟨_, (pss_one (ps_ret (pe_cmpR op_ge (pe_callB call_lenD (by rfl) T.len PySem.boot_len (pa_cons (pe_fld (pv 0) rfl) pa_nil)) (pe_glob (v := .int (512)) rfl T.gMOST_OBJECTS ⟨_, rfl⟩) (nomark _)))), ?_⟩
    refine ⟨_, rfl, o, _, dx, _, _, rfl, h1, T.clObjects, T.nObjects__interfaces, oF_i _ _, d, _, rfl, ho.dk, _, _, rfl, rfl, ?_⟩
    have e : decide ((512 : Int) ≤ ((rowsK rs).length : Int)) = decide (512 ≤ rs.length) := by
      unfold rowsK
      rw [List.length_map]
      by_cases c : 512 ≤ rs.length
      · rw [decide_eq_true c, decide_eq_true (by omega)]
      · rw [decide_eq_false c, decide_eq_false (by omega)]
    dsimp only
    rw [e]; exact q
def sp_Objects_give (C : Addr) : Sp := fun vs H Q _ => ∃ (o d : Addr) (rs : List ORow) (nm n : Int) (z : Str), vs = [.ref o, .int n, .str z] ∧ ObjAt C H o d rs nm ∧ find rs n = none ∧ rs.length < 90000 ∧
  ∀ H', ObjAt C H' o d (rs ++ [(n, z)]) nm → But H H' (fun b => b = d) → Q .non H'
theorem sc_Objects_give : FnScope ["self", "number", "interface"] ["self", "number", "interface"] (defScope s_Objects_give) := ⟨rfl, rfl, rfl, by decide +kernel, rfl, by decide +kernel, by decide +kernel⟩
theorem ok_Objects_give (T : Txt0 P K mg A) : FnOk P w K mg base CX0 1 A.fObjects_give A.dObjects_give ["self", "number", "interface"] (sp_Objects_give A.CObjects) := by
  refine T.FObjects_give.ok sc_Objects_give (fun vs H Q E h => ?_) (fun cdv Ar outer s H vs Q E hr h => ?_)
  · obtain ⟨o, d, rs, nm, n, z, rfl, _⟩ := h
    rfl
  · obtain ⟨o, d, rs, nm, n, z, rfl, ho, hf, hl, q⟩ := h
    obtain ⟨dx, h1⟩ := ho.ob
    refine ⟨_, (pss_one (ps_dput (hu_of hr) (pe_fld (pv 0) rfl) (pv 1) (pv 2) rfl)), ?_⟩
    refine ⟨_, rfl, _, rfl, o, _, dx, _, _, rfl, h1, T.clObjects, T.nObjects__interfaces, oF_i _ _, _, rfl, d, _, rfl, DPut.k (k := Sum.inl n) ho.dk (by unfold rowsK; rw [List.length_map]; exact lt_line (by omega)), ?_⟩
    refine q _ ⟨⟨dx, by rw [upd_ne ho.ne]; exact h1⟩, ?_⟩ fun b u e hb => by rw [upd_ne hb]; exact e
    rw [upd_same, putK_rows hf]
def sp_Objects_make (C : Addr) : Sp := fun vs H Q _ => ∃ (o d : Addr) (rs : List ORow) (nm : Int) (z : Str), vs = [.ref o, .str z] ∧ ObjAt C H o d rs nm ∧ find rs nm = none ∧ rs.length < 90000 ∧
  ∀ H', ObjAt C H' o d (rs ++ [(nm, z)]) (nm + 1) → But H H' (fun b => b = d ∨ b = o) → Q (.int nm) H'
theorem sc_Objects_make : FnScope ["self", "interface", "number"] ["self", "interface"] (defScope s_Objects_make) := ⟨rfl, rfl, rfl, by decide +kernel, rfl, by decide +kernel, by decide +kernel⟩
theorem ok_Objects_make (T : Txt0 P K mg A) : FnOk P w K mg base CX0 1 A.fObjects_make A.dObjects_make ["self", "interface"] (sp_Objects_make A.CObjects) := by
  refine T.FObjects_make.ok sc_Objects_make (fun vs H Q E h => ?_) (fun cdv Ar outer s H vs Q E hr h => ?_)
  · obtain ⟨o, d, rs, nm, z, rfl, _⟩ := h
    rfl
  · obtain ⟨o, d, rs, nm, z, rfl, ho, hf, hl, q⟩ := h
    obtain ⟨dx, h1⟩ := ho.ob
    refine ⟨_, (pss_cons (ps_set (i := 2) sc_Objects_make.nd rfl (Or.inl rfl) (pe_fld (pv 0) rfl))
      (pss_cons (ps_fldaug (pv 0) pe_int in_add)
      (pss_cons (ps_dput (hu_of hr) (pe_fld (pv 0) rfl) (pv 2) (pv 1) rfl)
      (pss_one (ps_ret (pv 2)))))), ?_⟩
    refine ⟨_, rfl, o, _, dx, _, _, rfl, h1, T.clObjects, T.nObjects__next_made, oF_n _ _, ?_⟩
    refine ⟨_, rfl, o, _, dx, _, _, rfl, h1, T.clObjects, T.nObjects__next_made, oF_n _ _, _, _, rfl, rfl, _, _, h1, (by show 2 < 1000; decide), ?_⟩
    have e1 : putF "_next_made" (V.int (nm + 1)) (oF d nm) = oF d (nm + 1) := oF_put d nm (nm + 1)
    rw [e1]
    have h2 : (upd H o (.ins A.CObjects dx (oF d (nm + 1)))) d = some (.dK (rowsK rs)) := by rw [upd_ne ho.ne.symm]; exact ho.dk
    refine ⟨_, rfl, _, rfl, o, _, dx, _, _, rfl, upd_same, T.clObjects, T.nObjects__interfaces, oF_i _ _, _, rfl, d, _, rfl, DPut.k (k := Sum.inl nm) h2 (by unfold rowsK; rw [List.length_map]; exact lt_line (by omega)), ?_⟩
    refine ⟨_, rfl, q _ ⟨⟨dx, by rw [upd_ne ho.ne]; exact upd_same⟩, ?_⟩ fun b u e hb => ?_⟩
    · rw [upd_same, putK_rows hf]
    · rw [upd_ne (fun z => hb (Or.inl z)), upd_ne (fun z => hb (Or.inr z))]; exact e
/-! ### fields of instances whose class is known; words that go on by themselves -/
section
open PySem PySem.Spec PyProof.Rows
def tFldC (C : Addr) (ta : TE) (f : Str) : TE := fun σ H Q => ta σ H fun x H1 => ∃ a dx fs v, x = .ref a ∧ H1 a = some (.ins C dx fs) ∧ fs.lookup f = some v ∧ Q v H1
theorem pe_fldC {X : Cx} {e : Expr} {f : Str} {pos : Pos} {ta : TE} {C : Addr} (c : Cls X.K C) (n : NoAttr X.K C f) (he : PE X e ta) (hb : attributeBase e f X.env (eval e X.env) = eval e X.env) : PE X (.Attribute e f pos) (tFldC C ta f) := by
  refine ⟨fun pins s σ H Q I h => ?_⟩
  refine attr_of hb (thn (he.run pins s σ H _ I h) fun u s1 ⟨x, H1, I1, rx, a, dx, fs, v, ex, ea, l, q⟩ => ?_)
  subst ex
  obtain rfl : u = Value.ref a := rx
  exact getattr_ok I1 ea c n l fun u' s2 I2 ru => ⟨v, H1, I2, ru, q⟩
/-- o.f = e: the heap behind it is told by what stands at o, and elsewhere -/
def sFldC (C : Addr) (ta tv : TE) (f : Str) : TS := fun D σ H => tv σ H fun y H1 => ta σ H1 fun x H2 => ∃ a dx fs fs', x = .ref a ∧ H2 a = some (.ins C dx fs) ∧ fs.length < 1000 ∧ putF f y fs = fs' ∧
  ∀ H3 : Hp, H3 a = some (.ins C dx fs') → (∀ b, b ≠ a → H3 b = H2 b) → D.nx σ H3
theorem ps_fldC {X : Cx} {o value : Expr} {f : Str} {pos pos' : Pos} {ta tv : TE} {C : Addr} (c : Cls X.K C) (n : NoAttr X.K C f) (ha : PE X o ta) (hv : PE X value tv) (hs : swapsWith value (some (.Attribute o f pos')) pos.line X.env = pure false) : PS X (.Assign [.Attribute o f pos'] value pos) (sFldC C ta tv f) := by
  refine ⟨fun pins s σ H D I h => ?_⟩
  refine plainObj_wpAny_Assign_Attribute (thn (hv.run pins s σ H _ I h) fun u s1 ⟨y, H1, I1, ry, q⟩ => thn (ha.run pins s1 σ H1 _ I1 q) fun ov s2 ⟨x, H2, I2, rx, a, dx, fs, fs', ex, ea, l, ep, q2⟩ => ?_) hs
  subst ex
  obtain rfl : ov = Value.ref a := rx
  exact setattr_ok I2 ea c n l ry fun s3 I3 => ⟨σ, _, I3, q2 _ (by rw [ep]; exact upd_same) fun b hb => upd_ne hb⟩
end
theorem lk_ne {k k' : Str} {v : V} {r : List (Str × V)} (h : (k == k') = false) : List.lookup k ((k', v) :: r) = List.lookup k r := by rw [List.lookup_cons, h]
theorem pf_nil {f : Str} {v : V} : putF f v [] = [(f, v)] := rfl
theorem pf_eq {f : Str} {v x : V} {r : List (Str × V)} : putF f v ((f, x) :: r) = (f, v) :: r := by
  show (if f = f then _ else _) = _
  rw [if_pos rfl]
theorem pf_ne {f g : Str} {v x : V} {r r' : List (Str × V)} (h : g ≠ f) (e : putF f v r = r') : putF f v ((g, x) :: r) = (g, x) :: r' := by
  show (if g = f then _ else _) = _
  rw [if_neg h, e]
theorem upd_facts {H H2 : Hp} {a : Addr} {o : HO} (h : upd H a o = H2) : H2 a = some o ∧ ∀ b, b ≠ a → H2 b = H b := by
  subst h
  exact ⟨upd_same, fun b hb => upd_ne hb⟩
theorem nn_of {H H' : Hp} (h : ∀ b u, H b = some u → H' b ≠ none) : ∀ b, H' b = none → H b = none := fun b e => by
  cases x : H b with
  | none => rfl
  | some u => exact absurd e (h b u x)
theorem ln_nil {k : Str} : List.lookup k ([] : List (Str × V)) = none := rfl
theorem same_iff {H H' : Hp} : Same H H' ↔ ∀ b, H b ≠ none → H' b = H b :=
  ⟨fun s b h => by
    cases e : H b with
    | none => exact absurd e h
    | some u => exact s b u e, fun s b u e => (s b (by rw [e]; exact fun z => by cases z)).trans e⟩
/-! words for fields and heaps -/
local macro_rules | `(tactic| walk_at "lk") => `(tactic| first
  | exact List.lookup_cons_self
  | (refine (lk_ne (by decide +kernel)).trans ?_; walk_at "lk"))
local macro_rules | `(tactic| walk_at "ln") => `(tactic| first
  | exact ln_nil
  | (refine (lk_ne (by decide +kernel)).trans ?_; walk_at "ln"))
local macro_rules | `(tactic| walk_at "pf") => `(tactic| first
  | exact pf_eq
  | exact pf_nil
  | (apply pf_ne; (focus decide +kernel); walk_at "pf"))
local macro_rules | `(tactic| walk_at "h") => `(tactic| ((try simp only [same_iff] at *); grind [L2.upd]))
local macro_rules | `(tactic| walk_at "gf1") => `(tactic| first
  | refine ⟨_, _, _, _, rfl, (by assumption), (by walk_at "lk"), ?_⟩
  | refine ⟨_, _, _, _, rfl, (by assumption), (by exact Nat.le_of_ble_eq_true rfl), (by walk_at "pf"), ?_⟩
  | refine ⟨_, _, _, rfl, (by assumption), (by walk_at "ln"), ?_⟩
  | refine .inl ⟨rfl, _, SqL.of (by assumption), ?_⟩
  | (refine And.intro (.inl ⟨rfl, _, SqL.of (by assumption)⟩) ?_)
  | walk_at "go2")
local macro_rules | `(tactic| walk_at "gf") => `(tactic| repeat walk_at "gf1")
local macro_rules | `(tactic| walk_at "nn") => `(tactic| walk_at "h")
local macro_rules | `(tactic| walk_at "nl") => `(tactic| ((try unfold L2.tNil); (try dsimp only)))
/-! ### a heap without some places -/
def hide (H : Hp) (a : Addr) : Hp := fun b => if b = a then none else H b
def paneV : List Int → V
  | [] => .non
  | p :: _ => .int p
def ofF (tr kd : Addr) (on : Bool) : List (Str × V) := [("_transfers", .ref tr), ("_kept", .ref kd), ("_is_hovered", .bl on)]
/-- what is not to be looked at -/
structure Hid (p : Prop) : Prop where
  go : p
/-- where words that go on by themselves stop -/
structure Stop (p : Prop) : Prop where
  go : p
  tr : True
theorem stop {p : Prop} (h : p) : Stop p := ⟨h, trivial⟩
/-! ### what the table says of an argument -/
def kinP (p : Str) : Str × Str := ((Txt.partition p (Str.ofString " ")).1, (Txt.partition p (Str.ofString " ")).2.2)
def sp__kind_and_interface (K : PySem.W.Frag) : Sp := fun vs H Q _ => ∃ (p : Str), vs = [.str p] ∧ p.length ≤ 2000 ∧ ∀ t H', Same H H' → SqT K H' t [.str (kinP p).1, .str (kinP p).2] → Q (.ref t) H'
theorem sc__kind_and_interface : FnScope ["part", "kind", "_", "interface"] ["part"] (defScope s__kind_and_interface) := ⟨rfl, rfl, rfl, by decide +kernel, rfl, by decide +kernel, by decide +kernel⟩
theorem ok__kind_and_interface (T : Txt0 P K mg A) : FnOk P w K mg base CX0 1 A.f_kind_and_interface A.d_kind_and_interface ["part"] (sp__kind_and_interface K) := by
  refine T.F_kind_and_interface.ok sc__kind_and_interface (fun vs H Q E h => ?_) (fun cdv Ar outer s H vs Q E hr h => ?_)
  · obtain ⟨_, rfl, _⟩ := h
    rfl
  · obtain ⟨p, rfl, hl, q⟩ := h
    refine ⟨_, (pss_cons (ps_asg (pe_partition (pv 0) pe_str) (pg_tup rfl (pgs_cons (pg_name (i := 1) sc__kind_and_interface.nd rfl (Or.inl rfl)) (pgs_cons (pg_name (i := 2) sc__kind_and_interface.nd rfl (Or.inl rfl)) (pgs_cons (pg_name (i := 3) sc__kind_and_interface.nd rfl (Or.inl rfl)) pgs_nil)))))
      (pss_one (ps_ret (pe_tup (pa_cons (pv 1) (pa_cons (pv 3) pa_nil)))))), ?_⟩
    refine ⟨_, rfl, ⟨p, rfl⟩, p, _, rfl, rfl, by decide +kernel, Nat.le_trans hl (by show 2000 ≤ sizeLine; decide), fun t0 ht0 => ?_⟩
    refine ⟨t0, _, rfl, SqT.of upd_same, rfl, ?_⟩
    walk_at "go"
    rename_i t ht
    exact q t _ ((same_upd ht0).trans (same_upd ht)) (SqT.of upd_same)
/-- a loop over zip of a tuple and a list of one length -/
theorem for_zipM {K : PySem.W.Frag} {a b : Addr} {xs ys : List V} {g : TG} {tb : TS} {D : Ends} {σ : L2.St} {H : Hp} (hl : xs.length = ys.length) (Pv : Nat → L2.St → Hp → Prop) (h0 : Pv 0 σ H) (hq : ∀ i σ H, Pv i σ H → SqT K H a xs ∧ SqL K H b ys)
    (hs : ∀ (i : Nat) (x y : V) (T : Addr) (σ : L2.St) (H : Hp), xs[i]? = some x → ys[i]? = some y → Pv i σ H → H T = none → g (.ref T) σ (upd H T (.tup [x, y])) fun σ2 H2 => tb { D with nx := Pv (i + 1), ct := Pv (i + 1), bk := D.nx } σ2 H2) (hd : ∀ σ H, Pv xs.length σ H → D.nx σ H) :
    ∃ W : Nat → Nat → L2.St → Hp → Prop, (∃ m, W 0 m σ H) ∧ ∀ i m σ H, W i m σ H →
      ((ItzM K a b).stop i H ∧ D.nx σ H) ∨ ((ItzM K a b).go i H ∧ ∃ N : L2.St → Hp → Prop, (∀ σ' H', N σ' H' → ∃ m', m' < m ∧ W (i + 1) m' σ' H') ∧ ∀ v H', (ItzM K a b).yld i H v H' → g v σ H' fun σ2 H2 => tb { D with nx := N, ct := N, bk := D.nx } σ2 H2) := by
  refine ⟨fun i m σ H => m = xs.length - i ∧ i ≤ xs.length ∧ Pv i σ H, ⟨xs.length, rfl, Nat.zero_le _, h0⟩, ?_⟩
  rintro i m σ H ⟨rfl, hi, p⟩
  obtain ⟨qx, qy⟩ := hq i σ H p
  by_cases hlt : i < xs.length
  · have hx : xs[i]? = some xs[i] := List.getElem?_eq_getElem hlt
    have hlt2 : i < ys.length := by omega
    have hy : ys[i]? = some ys[i] := List.getElem?_eq_getElem hlt2
    refine .inr ⟨⟨xs, ys, _, _, qx, qy, hx, hy⟩, Pv (i + 1), fun σ' H' p' => ⟨xs.length - (i + 1), by omega, rfl, hlt, p'⟩, fun v H' y => ?_⟩
    obtain ⟨T, x', y', rfl, hT, rfl, f1, f2⟩ := y
    exact hs i x' y' T σ H (f1 xs qx) (f2 ys qy) p hT
  · have e : i = xs.length := by omega
    subst e
    exact .inl ⟨⟨xs, ys, qx, qy, Nat.le_refl _, by omega, Or.inl rfl⟩, hd σ H p⟩
/-! ### the law's table: its rows, as they stand in the law's own text -/
def strE : Nat → Expr → Str
  | 0, _ => Str.empty
  | n + 1, e => match e with
    | .Constant (.str s) _ _ => s
    | .BinOp l _ r _ => strE n l ++ strE n r
    | _ => Str.empty
def rowsE (s : Stmt) : List Str := match s with
  | .FunctionDef _ _ [.Return (some (.List es _)) _] _ _ _ _ _ _ _ => es.map (strE 6)
  | _ => []
def tblRows : List Str := rowsE s__law_rows
def sp__law_rows : Sp := fun vs H Q _ => vs = [] ∧ ∀ p H', NewL H H' p (tblRows.map V.str) → Q (.ref p) H'
theorem sc__law_rows : FnScope [""] [] (defScope s__law_rows) := ⟨rfl, rfl, rfl, by decide +kernel, rfl, by decide +kernel, by decide +kernel⟩
theorem ok__law_rows (T : Txt0 P K mg A) : FnOk P w K mg base CX0 1 A.f_law_rows A.d_law_rows [] sp__law_rows := by
  refine T.F_law_rows.ok sc__law_rows (fun vs H Q E h => ?_) (fun cdv Ar outer s H vs Q E hr h => ?_)
  · obtain ⟨rfl, _⟩ := h
    rfl
  · obtain ⟨rfl, q⟩ := h
    refine ⟨_, (pss_one (ps_ret (pe_lst (pa_cons pe_str (pa_cons pe_str (pa_cons pe_str (pa_cons pe_str (pa_cons pe_str (pa_cons pe_str (pa_cons pe_str (pa_cons (pe_op op_add_str pe_str pe_str) (pa_cons pe_str (pa_cons pe_str (pa_cons pe_str (pa_cons (pe_op op_add_str pe_str pe_str) (pa_cons (pe_op op_add_str (pe_op op_add_str pe_str pe_str) pe_str) (pa_cons (pe_op op_add_str pe_str pe_str) (pa_cons pe_str (pa_cons (pe_op op_add_str pe_str pe_str) (pa_cons (pe_op op_add_str pe_str pe_str) (pa_cons (pe_op op_add_str (pe_op op_add_str (pe_op op_add_str pe_str pe_str) pe_str) pe_str) (pa_cons pe_str (pa_cons pe_str (pa_cons pe_str (pa_cons pe_str (pa_cons pe_str pa_nil)))))))))))))))))))))))))), ?_⟩
    walk_at "go"
    repeat (refine ⟨by decide +kernel, ?_⟩; walk_at "go")
    rename_i p hp
    exact q p _ ⟨hp, same_upd hp, by with_unfolding_all exact upd_same⟩
/-! ### what a row says -/
abbrev Spl := Str × List Str × Bool
abbrev TR := Str × List Spl × List Spl
def parts (s : Str) (c : Nat) : List Str := if s = Str.ofString "" then [] else spS c s
def cutAt (rest : Str) : List Str := match Builtin.Str.occurrences rest ⟨#[41]⟩ 0 rest.length 1 with
  | i :: _ => parts (cutS rest none (some (i : Nat))) 44
  | [] => []
def okC (rest : Str) : Bool := match Builtin.Str.occurrences rest ⟨#[41]⟩ 0 rest.length 1 with
  | i :: _ => decide ((cutS rest none (some (i : Nat))).length ≤ 2000)
  | [] => false
def parseS (t : Str) : Spl := match spS 40 t with
  | [n, rest] => (n, cutAt rest, Txt.endswith rest ⟨#[33]⟩)
  | _ => (Str.empty, [], false)
def okS (t : Str) : Bool := decide (t.length ≤ 2000) && match spS 40 t with
  | [_, rest] => decide (rest.length ≤ 2000) && okC rest
  | _ => false
def okL (s : Str) : Bool := decide (s.length ≤ 2000) && decide ((parts s 59).length ≤ 1000) && (parts s 59).all okS
def parseT (row : Str) : TR := match spS 61 row with
  | [n, a, b] => (n, (parts a 59).map parseS, (parts b 59).map parseS)
  | _ => (Str.empty, [], [])
def okT (row : Str) : Bool := decide (row.length ≤ 2000) && match spS 61 row with
  | [_, a, b] => okL a && okL b
  | _ => false
def tab : List TR := tblRows.map parseT
def splD (r : Spl) : PyData := .tuple [.str r.1, .list (r.2.1.map PyData.str), .bool r.2.2]
def trD (t : TR) : PyData := .tuple [.str t.1, .list (t.2.1.map splD), .list (t.2.2.map splD)]
theorem tbl_ok : tblRows.all okT = true := by decide +kernel
theorem iteStr {s t : Str} {A B : Prop} (h1 : s = t → A) (h2 : s ≠ t → B) : if decide (V.str s = V.str t) = true then A else B := by
  by_cases e : s = t
  · rw [if_pos (by rw [e]; exact decide_eq_true rfl)]; exact h1 e
  · rw [if_neg (by rw [decide_eq_true_iff]; intro z; injection z with z; exact e z)]; exact h2 e
theorem iteStrN {s t : Str} {A B : Prop} (h1 : s ≠ t → A) (h2 : s = t → B) : if (!decide (V.str s = V.str t)) = true then A else B := by
  by_cases e : s = t
  · rw [if_neg (by rw [e]; simp)]; exact h2 e
  · rw [if_pos (by simp [e])]; exact h1 e
theorem szl {n : Nat} (h : n ≤ 2000) : n + 2 ≤ sizeLine := Nat.le_trans (Nat.add_le_add_right h 2) (by show 2002 ≤ sizeLine; decide)
theorem szl' {n : Nat} (h : n ≤ 2000) : n ≤ sizeLine := Nat.le_trans h (by show 2000 ≤ sizeLine; decide)
theorem split59 (s : Str) : Txt.split s (Str.ofString ";") = spS 59 s := by rw [show Str.ofString ";" = ⟨#[59]⟩ from by decide +kernel, split_sp]
theorem split40 (s : Str) : Txt.split s (Str.ofString "(") = spS 40 s := by rw [show Str.ofString "(" = ⟨#[40]⟩ from by decide +kernel, split_sp]
theorem split44 (s : Str) : Txt.split s (Str.ofString ",") = spS 44 s := by rw [show Str.ofString "," = ⟨#[44]⟩ from by decide +kernel, split_sp]
theorem split61 (s : Str) : Txt.split s (Str.ofString "=") = spS 61 s := by rw [show Str.ofString "=" = ⟨#[61]⟩ from by decide +kernel, split_sp]
theorem dpallS {K : PySem.W.Frag} {H : Hp} : ∀ (ss : List Str), DpAll K H (ss.map V.str) (ss.map PyData.str)
  | [] => .nil
  | s :: r => .cons (.str s) (dpallS r)
def sp__law_list : Sp := fun vs H Q _ => ∃ s : Str, vs = [.str s] ∧ s.length ≤ 2000 ∧ ∀ p H', NewL H H' p ((parts s 59).map V.str) → Q (.ref p) H'
theorem sc__law_list : FnScope ["text"] ["text"] (defScope s__law_list) := ⟨rfl, rfl, rfl, by decide +kernel, rfl, by decide +kernel, by decide +kernel⟩
theorem ok__law_list (T : Txt0 P K mg A) : FnOk P w K mg base CX0 1 A.f_law_list A.d_law_list ["text"] sp__law_list := by
  refine T.F_law_list.ok sc__law_list (fun vs H Q E h => ?_) (fun cdv Ar outer st H vs Q E hr h => ?_)
  · obtain ⟨_, rfl, _⟩ := h
    rfl
  · obtain ⟨s, rfl, hl, q⟩ := h
    refine ⟨_, (pss_cons (ps_if (pt_cmpR op_eq (pv 0) pe_str (nomark _))
      (pss_one (ps_ret (pe_lst pa_nil)))
      pss_nil)
      (pss_one (ps_ret (pe_split (pv 0) pe_str)))), ?_⟩
    walk_at "go"
    refine iteStr (fun e => ?_) (fun e => ?_)
    · refine ⟨len_line (by show 0 ≤ 100000; decide), fun p hp => q p _ ⟨hp, same_upd hp, ?_⟩⟩
      rw [show parts s 59 = [] from if_pos e]
      exact upd_same
    · refine ⟨_, rfl, ⟨s, rfl⟩, s, _, rfl, rfl, by decide +kernel, szl hl, fun p hp => q p _ ⟨hp, same_upd hp, ?_⟩⟩
      rw [show parts s 59 = spS 59 s from if_neg e, split59]
      exact upd_same
def sp__law_split (K : PySem.W.Frag) : Sp := fun vs H Q _ => ∃ (t : Str) (U : Hp), vs = [.str t] ∧ okS t = true ∧ Same U H ∧ ∀ v U' H', Ext U H U' H' → Dp K U' v (splD (parseS t)) → Q v H'
theorem okS_ex {t : Str} (h : okS t = true) : t.length ≤ 2000 ∧ ∃ n rest i tl, spS 40 t = [n, rest] ∧ rest.length ≤ 2000 ∧ Builtin.Str.occurrences rest ⟨#[41]⟩ 0 rest.length 1 = i :: tl ∧ (cutS rest none (some (i : Nat))).length ≤ 2000 ∧ parseS t = (n, parts (cutS rest none (some (i : Nat))) 44, Txt.endswith rest ⟨#[33]⟩) := by
  unfold okS at h
  rw [Bool.and_eq_true] at h
  refine ⟨of_decide_eq_true h.1, ?_⟩
  have h2 := h.2
  split at h2
  · rename_i n rest e
    rw [Bool.and_eq_true] at h2
    have h3 := h2.2
    unfold okC at h3
    split at h3
    · rename_i i tl e2
      refine ⟨n, rest, i, tl, e, of_decide_eq_true h2.1, e2, of_decide_eq_true h3, ?_⟩
      unfold parseS cutAt
      rw [e]
      dsimp only
      rw [e2]
    · cases h3
  · cases h2
theorem sc__law_split : FnScope ["text", "name", "rest", "ends", "inner", "words"] ["text"] (defScope s__law_split) := ⟨rfl, rfl, rfl, by decide +kernel, rfl, by decide +kernel, by decide +kernel⟩
theorem ok__law_split (T : Txt0 P K mg A) : FnOk P w K mg base CX0 1 A.f_law_split A.d_law_split ["text"] (sp__law_split K) := by
  refine T.F_law_split.ok sc__law_split (fun vs H Q E h => ?_) (fun cdv Ar outer st H vs Q E hr h => ?_)
  · obtain ⟨_, _, rfl, _⟩ := h
    rfl
  · obtain ⟨t, U, rfl, ho, sU, q⟩ := h
    obtain ⟨hl, n, rest, i, tl, e1, h2, e2, h3, e3⟩ := okS_ex ho
    rw [e3] at q
    refine ⟨_, (pss_cons (ps_asg (pe_split (pv 0) pe_str) (pg_unl rfl (pgs_cons (pg_name (i := 1) sc__law_split.nd rfl (Or.inl rfl)) (pgs_cons (pg_name (i := 2) sc__law_split.nd rfl (Or.inl rfl)) pgs_nil))))
      (pss_cons (ps_set (i := 3) sc__law_split.nd rfl (Or.inl rfl) (pe_m1 PySem.F.slot_str_endswith PySem.F.type_str_endswith mt_endswith (pv 2) pe_str))
      (pss_cons (ps_set (i := 4) sc__law_split.nd rfl (Or.inl rfl) (pe_slice sl_str (pv 2) po_none (po_some (pe_m1 PySem.F.slot_str_index PySem.F.type_str_index mt_sindex (pv 2) pe_str))))
      (pss_cons (ps_set (i := 5) sc__law_split.nd rfl (Or.inl rfl) (pe_lst pa_nil))
      (pss_cons (ps_if (pt_cmpR op_ne (pv 4) pe_str (nomark _))
      (pss_one (ps_set (i := 5) sc__law_split.nd rfl (Or.inl rfl) (pe_split (pv 4) pe_str)))
      pss_nil)
      (pss_one (ps_ret (pe_tup (pa_cons (pv 1) (pa_cons (pv 5) (pa_cons (pv 3) pa_nil))))))))))), ?_⟩
    walk_at "go"
    refine ⟨⟨t, rfl⟩, t, _, rfl, rfl, by decide +kernel, szl hl, fun p hp => ?_⟩
    rw [split40, e1]
    refine ⟨p, _, rfl, SqL.of upd_same, rfl, ?_⟩
    have x1 := Ext.skip (o := .lst ([n, rest].map V.str)) sU hp
    walk_at "go"
    refine ⟨⟨rest, rfl⟩, rest, _, rfl, rfl, ?_⟩
    walk_at "go"
    refine ⟨⟨rest, rfl⟩, rest, _, i, tl, rfl, rfl, by rw [show Str.ofString ")" = ⟨#[41]⟩ from by decide +kernel]; exact e2, _, rfl, rest, rfl, szl' h2, ?_⟩
    rw [show (some ((i : Nat) : Int)) = some (i : Int) from rfl] at *
    generalize cutS rest none (some (i : Int)) = inner at h3 q ⊢
    rw [show Txt.endswith rest ⟨#[33]⟩ = Txt.endswith rest (Str.ofString "!") from by rw [show Str.ofString "!" = ⟨#[33]⟩ from by decide +kernel]] at q
    generalize Txt.endswith rest (Str.ofString "!") = bb at q ⊢
    walk_at "go"
    rename_i p2 hp2
    have x2 := x1.trans (Ext.skip (o := .lst []) x1.vh hp2)
    refine iteStrN (fun e => ?_) (fun e => ?_)
    · walk_at "go"
      refine ⟨⟨inner, rfl⟩, inner, _, rfl, rfl, by decide +kernel, szl h3, fun p3 hp3 => ?_⟩
      rw [show parts inner 44 = spS 44 inner from if_neg e] at q
      rw [split44]
      walk_at "go"
      rename_i pt hpt
      have x3 := Ext.new (o := .lst ((spS 44 inner).map V.str)) x2.vh hp3
      have x4 := Ext.new (o := .tup [.str n, .ref p3, .bl bb]) x3.vh hpt
      have d3 : Dp K (upd U p3 (.lst ((spS 44 inner).map V.str))) (.ref p3) (.list ((spS 44 inner).map PyData.str)) := .lst (SqL.of upd_same) (dpallS _)
      exact q _ _ _ (x2.trans (x3.trans x4)) (.tup (SqT.of upd_same) (.cons (.str _) (.cons (d3.to x4.vv) (.cons (.bl _) .nil))))
    · rw [show parts inner 44 = [] from if_pos e] at q
      walk_at "go"
      rename_i pt hpt
      have x3 := Ext.new (o := .lst []) x1.vh hp2
      have x4 := Ext.new (o := .tup [.str n, .ref p2, .bl bb]) x3.vh hpt
      have d3 : Dp K (upd U p2 (.lst [])) (.ref p2) (.list []) := .lst (SqL.of upd_same) .nil
      exact q _ _ _ (x1.trans (x3.trans x4)) (.tup (SqT.of upd_same) (.cons (.str _) (.cons (d3.to x4.vv) (.cons (.bl _) .nil))))
def sp__law_table (K : PySem.W.Frag) : Sp := fun vs H Q _ => ∃ U : Hp, vs = [] ∧ Same U H ∧ ∀ p U' H', Ext U H U' H' → Dp K U' (.ref p) (.list (tab.map trD)) → Q (.ref p) H'
theorem okT_ex {t : Str} (h : okT t = true) : t.length ≤ 2000 ∧ ∃ n a b, spS 61 t = [n, a, b] ∧ okL a = true ∧ okL b = true ∧ parseT t = (n, (parts a 59).map parseS, (parts b 59).map parseS) := by
  unfold okT at h
  rw [Bool.and_eq_true] at h
  refine ⟨of_decide_eq_true h.1, ?_⟩
  have h2 := h.2
  split at h2
  · rename_i n a b e
    rw [Bool.and_eq_true] at h2
    refine ⟨n, a, b, e, h2.1, h2.2, ?_⟩
    unfold parseT
    rw [e]
  · cases h2
theorem okL_ex {s : Str} (h : okL s = true) : s.length ≤ 2000 ∧ (parts s 59).length ≤ 1000 ∧ ∀ t ∈ parts s 59, okS t = true := by
  unfold okL at h
  rw [Bool.and_eq_true, Bool.and_eq_true, List.all_eq_true] at h
  exact ⟨of_decide_eq_true h.1.1, of_decide_eq_true h.1.2, h.2⟩
theorem sc__law_table : FnScope ["table", "row", "name", "requests", "events", "t"] [] (defScope s__law_table) := ⟨rfl, rfl, rfl, by decide +kernel, rfl, by decide +kernel, by decide +kernel⟩
theorem ok__law_table (T : Txt0 P K mg A) : FnOk P w K mg base CX0 2 A.f_law_table A.d_law_table [] (sp__law_table K) := by
  refine T.F_law_table.ok sc__law_table (fun vs H Q E h => ?_) (fun cdv Ar outer st H vs Q E hr h => ?_)
  · obtain ⟨_, rfl, _⟩ := h
    rfl
  · obtain ⟨U, rfl, sU, q⟩ := h
    refine ⟨_, (pss_cons (ps_set (i := 0) sc__law_table.nd rfl (Or.inl rfl) (pe_lst pa_nil))
      (pss_cons (ps_for PassesOwn.never rfl (pi_list (pe_call0 (ok__law_rows T) (hr.mono (by decide)) rfl T.g_law_rows T.k_law_rows T.b_law_rows .nil pass0)) (pg_name (i := 1) sc__law_table.nd rfl (Or.inl rfl))
      (pss_cons (ps_asg (pe_split (pv 1) pe_str) (pg_unl rfl (pgs_cons (pg_name (i := 2) sc__law_table.nd rfl (Or.inl rfl)) (pgs_cons (pg_name (i := 3) sc__law_table.nd rfl (Or.inl rfl)) (pgs_cons (pg_name (i := 4) sc__law_table.nd rfl (Or.inl rfl)) pgs_nil)))))
      (pss_one (ps_expr (pe_bm PySem.F.plainAttrs_list PySem.F.slot_list_append PySem.F.type_list_append mt_append (pv 0) (pa_cons (pe_tup (pa_cons (pv 2) (pa_cons (pe_lc (own := [("t", 5)]) (g := (gName 5)) (tt := tYes) rfl sc__law_table.nd (pi_list (pe_call (ok__law_list T) (hr.mono (by decide)) rfl T.g_law_list T.k_law_list T.b_law_list .nil pass0 (pa_cons (pv 3) pa_nil))) (blkOk_by (own := [("t", 5)]) (N := ["table", "row", "name", "requests", "events", "t"]) (sc := defScope s__law_table) (by decide +kernel)) (fun _ _ _ _ _ => (pg_name (i := 5) sc__law_table.nd rfl (Or.inl rfl))) (fun _ _ _ _ _ => pts_nil) (fun _ _ _ _ _ => by exact (pe_call (ok__law_split T) (hr.mono (by decide)) rfl T.g_law_split T.k_law_split T.b_law_split .nil pass0 (pa_cons (pv 5) pa_nil)))) (pa_cons (pe_lc (own := [("t", 5)]) (g := (gName 5)) (tt := tYes) rfl sc__law_table.nd (pi_list (pe_call (ok__law_list T) (hr.mono (by decide)) rfl T.g_law_list T.k_law_list T.b_law_list .nil pass0 (pa_cons (pv 4) pa_nil))) (blkOk_by (own := [("t", 5)]) (N := ["table", "row", "name", "requests", "events", "t"]) (sc := defScope s__law_table) (by decide +kernel)) (fun _ _ _ _ _ => (pg_name (i := 5) sc__law_table.nd rfl (Or.inl rfl))) (fun _ _ _ _ _ => pts_nil) (fun _ _ _ _ _ => by exact (pe_call (ok__law_split T) (hr.mono (by decide)) rfl T.g_law_split T.k_law_split T.b_law_split .nil pass0 (pa_cons (pv 5) pa_nil)))) pa_nil)))) pa_nil))))))
      (pss_one (ps_ret (pv 0))))), ?_⟩
    walk_at "go"
    rename_i D hD
    walk_at "go"
    intro p H1 nl
    have eD1 : H1 D = some (.lst []) := nl.same _ _ upd_same
    have npD : p ≠ D := fun z => by have := nl.new; rw [z, upd_same] at this; cases this
    have uD : (upd U p (.lst (tblRows.map V.str))) D = none := (upd_ne npD.symm).trans (sU.free hD)
    refine ⟨p, rfl, ⟨_, SqL.of nl.at_⟩, for_list (K := K) (a := p) (xs := tblRows.map V.str) (fun i σ H' => ∃ v1 v2 v3 v4 v5, σ = [some (.ref D), v1, v2, v3, v4, v5] ∧ H' p = some (.lst (tblRows.map V.str)) ∧ LcInv K U H D ((tab.take i).map trD) H') ⟨_, _, _, _, _, rfl, nl.at_, ⟨_, [], (Ext.skip sU hD).trans (nl.ext (sU.trans (same_upd hD))), uD, eD1, .nil⟩⟩ (fun i σ H' _ ⟨_, _, _, _, _, _, s, _⟩ => SqL.of s) ?_ ?_⟩
    · rintro i x σ H2 hx ⟨v1, v2, v3, v4, v5, rfl, s12, L⟩
      rw [List.getElem?_map] at hx
      obtain ⟨row, hrow, rfl⟩ := Option.map_eq_some_iff.mp hx
      obtain ⟨hl, n, a, b, e1, oa, ob, e3⟩ := okT_ex (List.all_eq_true.mp tbl_ok row (List.mem_of_getElem? hrow))
      obtain ⟨la, na, oka⟩ := okL_ex oa
      obtain ⟨lb, nb, okb⟩ := okL_ex ob
      obtain ⟨V2, ys, xL, vD, eD, dL⟩ := L.ex
      have htk : (tab.take (i + 1)).map trD = (tab.take i).map trD ++ [trD (parseT row)] := by
        have hti : tab[i]? = some (parseT row) := by unfold tab; rw [List.getElem?_map, hrow]; rfl
        obtain ⟨g1, g2⟩ := List.getElem?_eq_some_iff.mp hti
        rw [List.take_succ_eq_append_getElem g1, g2, List.map_append]; rfl
      have hle : ((tab.take i).map trD).length < 100000 := by
        have : tblRows.length = 23 := by decide +kernel
        have := (List.getElem?_eq_some_iff.mp hrow).1
        rw [List.length_map, List.length_take]; omega
      walk_at "go"
      refine ⟨⟨row, rfl⟩, row, _, rfl, rfl, by decide +kernel, szl hl, fun p2 hp2 => ?_⟩
      rw [split61, e1]
      refine ⟨p2, _, rfl, SqL.of upd_same, rfl, ?_⟩
      have x1 := Ext.skip (o := .lst ([n, a, b].map V.str)) xL.vh hp2
      have x02 := xL.trans x1
      walk_at "go"
      refine ⟨.inl ⟨rfl, _, SqL.of (x1.hh _ _ eD)⟩, ?_⟩
      walk_at "go"
      refine ⟨la, fun pa H3 n3 => ?_⟩
      have x3 := n3.ext x02.vh
      have x03 := x02.trans x3
      walk_at "go"
      refine ⟨⟨_, SqL.of n3.at_⟩, fun D1 hD1 => ?_⟩
      refine lc_dp (walk_list (K := K) (a := pa) (xs := (parts a 59).map V.str)) (K := K) (V0 := upd V2 pa (.lst ((parts a 59).map V.str))) (H0 := H3) (fun i => ((parts a 59)[i]?).map fun t => splD (parseS t)) _ rfl x03.vh hD1 (by rw [List.length_map]; omega) (fun H' s => s.seq (SqL.of n3.at_)) (fun i x H H' y => y.1) ?_ ?_
      · rintro m z U4 H4 hm xx ⟨_, hz⟩ Qy Qn hy hno
        rw [List.getElem?_map] at hz
        obtain ⟨t, ht, rfl⟩ := Option.map_eq_some_iff.mp hz
        walk_at "go"
        exact ⟨t, U4, rfl, oka t (List.mem_of_getElem? ht), xx.vh, fun v U' H' x d => hy _ _ _ _ (by rw [ht]; rfl) x d⟩
      · rintro U4 H4 ws1 xx4 uD1 dA1 dl1
        rw [List.length_map, fm_map] at dl1
        have x04 := x03.trans xx4
        walk_at "go"
        refine ⟨lb, fun pb H5 n5 => ?_⟩
        have x5 := n5.ext x04.vh
        have x05 := x04.trans x5
        walk_at "go"
        refine ⟨⟨_, SqL.of n5.at_⟩, fun D2 hD2 => ?_⟩
        refine lc_dp (walk_list (K := K) (a := pb) (xs := (parts b 59).map V.str)) (K := K) (V0 := upd U4 pb (.lst ((parts b 59).map V.str))) (H0 := H5) (fun i => ((parts b 59)[i]?).map fun t => splD (parseS t)) _ rfl x05.vh hD2 (by rw [List.length_map]; omega) (fun H' s => s.seq (SqL.of n5.at_)) (fun i x H H' y => y.1) ?_ ?_
        · rintro m z U6 H6 hm xx ⟨_, hz⟩ Qy Qn hy hno
          rw [List.getElem?_map] at hz
          obtain ⟨t, ht, rfl⟩ := Option.map_eq_some_iff.mp hz
          walk_at "go"
          exact ⟨t, U6, rfl, okb t (List.mem_of_getElem? ht), xx.vh, fun v U' H' x d => hy _ _ _ _ (by rw [ht]; rfl) x d⟩
        · rintro U6 H6 ws2 xx6 uD2 dA2 dl2
          rw [List.length_map, fm_map] at dl2
          have x06 := x05.trans xx6
          walk_at "go"
          rename_i pt hpt
          have x7 := Ext.new (o := .tup [.str n, .ref D1, .ref D2]) x06.vh hpt
          have x26 := x1.trans (x3.trans (xx4.trans (x5.trans (xx6.trans x7))))
          have dt : Dp K (upd U6 pt (.tup [.str n, .ref D1, .ref D2])) (.ref pt) (trD (parseT row)) := by
            rw [e3]
            refine .tup (SqT.of upd_same) (.cons (.str _) (.cons ?_ (.cons ?_ .nil)))
            · show Dp K _ _ (.list (((parts a 59).map parseS).map splD))
              rw [List.map_map]
              exact dl1.to (x5.vv.trans (xx6.vv.trans x7.vv))
            · show Dp K _ _ (.list (((parts b 59).map parseS).map splD))
              rw [List.map_map]
              exact dl2.to x7.vv
          obtain ⟨acc', f1, f2, f3⟩ := LcInv.push hD xL vD eD dL x26 dt hle
          refine ⟨D, acc', .ref pt, rfl, rfl, f1, f2, ?_⟩
          exact ⟨_, _, _, _, _, rfl, (upd_ne npD).trans (x26.hh _ _ s12), by rw [htk]; exact f3⟩
    · rintro σ H2 ⟨v1, v2, v3, v4, v5, rfl, s12, L⟩
      obtain ⟨U2, xs, x, e1, e2, e3⟩ := L.done hD
      rw [show tab.take (tblRows.map V.str).length = tab from by rw [List.length_map, show tblRows.length = tab.length from by unfold tab; rw [List.length_map], List.take_length]] at e3
      walk_at "go"
      exact q _ _ _ x e3
/-! ### the object that a request makes -/
structure ReqAt (C : Addr) (H : Hp) (r la : Addr) (n : Int) (i m : Str) (e : Bool) : Prop where
  ob : ∃ dx, H r = some (.ins C dx [("number", .int n), ("interface", .str i), ("name", .str m), ("arguments", .ref la), ("ends", .bl e)])
/-- what an argument makes: a new object of the interface that the table names, or of the one that stands in the bound -/
def mkOf (K : PySem.W.Frag) (H : Hp) (p : Str) (v : V) : Option (V × V) → Prop
  | none => (kinP p).1 ≠ Str.ofString "new" ∧ (kinP p).1 ≠ Str.ofString "bound"
  | some (a, b) => ((kinP p).1 = Str.ofString "new" ∧ a = v ∧ b = .str (kinP p).2) ∨ ((kinP p).1 = Str.ofString "bound" ∧ ∃ t, v = .ref t ∧ SqT K H t [b, a])
theorem findSome_at {α : Type} {mk : List (Option α)} {k : Nat} {x : α} (h : (mk.take k).findSome? id = none) (e : mk[k]? = some (some x)) : mk.findSome? id = some x := by
  obtain ⟨g1, g2⟩ := List.getElem?_eq_some_iff.mp e
  rw [← List.take_append_drop k mk, List.findSome?_append, h, List.drop_eq_getElem_cons g1, g2]
  rfl
/-- what is known of a request whose new object is asked for -/
def NewPre (A : Adr) (w : World) (K : PySem.W.Frag) (H : Hp) (r : Addr) (n : Int) (mk : List (Option (V × V))) : Prop := ∃ (la ar : Addr) (i m : Str) (e : Bool) (rows : List (Str × List Str × Bool)) (j : Nat) (row : Str × List Str × Bool) (xs : List V),
  ReqAt A.CRequest H r la n i m e ∧ (A.a_REQUESTS == sysModules) = false ∧ KDct K w A.a_REQUESTS i (.ref ar) ∧ (∀ H, Dp K H (.ref ar) (rqD rows)) ∧ rows.length < 1000 ∧ rows[j]? = some row ∧ row.1 = m ∧ (∀ (k : Nat) (row' : Str × List Str × Bool), k < j → rows[k]? = some row' → row'.1 ≠ m) ∧
  H la = some (.lst xs) ∧ xs.length = row.2.1.length ∧ mk.length = xs.length ∧ (∀ s ∈ row.2.1, s.length ≤ 2000) ∧ (∀ (k : Nat) (p : Str) (v : V) (z : Option (V × V)), row.2.1[k]? = some p → xs[k]? = some v → mk[k]? = some z → mkOf K H p v z)
def sp_new_object (A : Adr) (w : World) (K : PySem.W.Frag) : Sp := fun vs H Q _ => ∃ (r : Addr) (n : Int) (mk : List (Option (V × V))), vs = [.ref r] ∧ NewPre A w K H r n mk ∧
  (mk.findSome? id = none → ∀ H', Same H H' → Q .non H') ∧ (∀ a b t H', mk.findSome? id = some (a, b) → Same H H' → SqT K H' t [a, b] → Q (.ref t) H')
theorem sc_new_object : FnScope ["request", "row", "part", "value", "kind", "interface"] ["request"] (defScope s_new_object) := ⟨rfl, rfl, rfl, by decide +kernel, rfl, by decide +kernel, by decide +kernel⟩
theorem ok_new_object (T : Txt0 P K mg A) : FnOk P w K mg base CX0 3 A.fnew_object A.dnew_object ["request"] (sp_new_object A w K) := by
  refine T.Fnew_object.ok sc_new_object (fun vs H Q E h => ?_) (fun cdv Ar outer st H vs Q E hr h => ?_)
  · obtain ⟨_, _, _, rfl, _⟩ := h
    rfl
  · obtain ⟨r, n, mk, rfl, ⟨la, ar, i, m, e, rows, j, row, xs, ⟨dx, er⟩, hs, hk, dq, hl, hj, hm, hd, ela, hxl, hml, hps, hmk⟩, q1, q2⟩ := h
    obtain ⟨ar', zs, e0, qs, ds⟩ := dp_tuple (dq H)
    cases e0
    obtain ⟨z, hz, dz⟩ := dpall_get' ds (i := j) (d := .tuple [.str row.1, .tuple (row.2.1.map PyData.str), .bool row.2.2]) (by rw [List.getElem?_map, hj]; rfl)
    obtain ⟨pt, ws, rfl, qw, dw⟩ := dp_tuple dz
    refine ⟨_, (pss_cons (ps_set (i := 1) sc_new_object.nd rfl (Or.inl rfl) (pe_call (ok_request_row T) (hr.mono (by decide)) rfl T.grequest_row T.krequest_row T.brequest_row .nil pass0 (pa_cons (pe_fld (pv 0) rfl) (pa_cons (pe_call (ok_request_opcode T) (hr.mono (by decide)) rfl T.grequest_opcode T.krequest_opcode T.brequest_opcode .nil pass0 (pa_cons (pe_fld (pv 0) rfl) (pa_cons (pe_fld (pv 0) rfl) pa_nil))) pa_nil))))
      (pss_cons (ps_for PassesOwn.never rfl (pi_zipM (by rfl) T.zip (pa_cons (pe_ix (r := rIxT K) ix_tup (pv 1) pe_int (fun _ _ => rfl)) (pa_cons (pe_fld (pv 0) rfl) pa_nil))) (pg_tup rfl (pgs_cons (pg_name (i := 2) sc_new_object.nd rfl (Or.inl rfl)) (pgs_cons (pg_name (i := 3) sc_new_object.nd rfl (Or.inl rfl)) pgs_nil)))
      (pss_cons (ps_asg (pe_call (ok__kind_and_interface T) (hr.mono (by decide)) rfl T.g_kind_and_interface T.k_kind_and_interface T.b_kind_and_interface .nil pass0 (pa_cons (pv 2) pa_nil)) (pg_tup rfl (pgs_cons (pg_name (i := 4) sc_new_object.nd rfl (Or.inl rfl)) (pgs_cons (pg_name (i := 5) sc_new_object.nd rfl (Or.inl rfl)) pgs_nil))))
      (pss_cons (ps_if (pt_cmpR op_eq (pv 4) pe_str (nomark _))
      (pss_one (ps_ret (pe_tup (pa_cons (pv 3) (pa_cons (pv 5) pa_nil)))))
      pss_nil)
      (pss_one (ps_if (pt_cmpR op_eq (pv 4) pe_str (nomark _))
      (pss_one (ps_ret (pe_tup (pa_cons (pe_ix (r := rIxT K) ix_tup (pv 3) pe_int (fun _ _ => rfl)) (pa_cons (pe_ix (r := rIxT K) ix_tup (pv 3) pe_int (fun _ _ => rfl)) pa_nil)))))
      pss_nil)))))
      (pss_one (ps_ret pe_non)))), ?_⟩
    walk_at "gf"
    refine ⟨r, A.CRequest, dx, _, _, rfl, er, T.clRequest, T.nRequest_interface, by walk_at "lk", ?_⟩
    walk_at "gf"
    refine ⟨r, A.CRequest, dx, _, _, rfl, er, T.clRequest, T.nRequest_interface, by walk_at "lk", ?_⟩
    walk_at "gf"
    refine ⟨r, A.CRequest, dx, _, _, rfl, er, T.clRequest, T.nRequest_name, by walk_at "lk", ?_⟩
    walk_at "gf"
    refine ⟨ar, rows.map (fun r => (r.1, [.tuple (r.2.1.map PyData.str), .bool r.2.2])), i, m, j, (row.1, [.tuple (row.2.1.map PyData.str), .bool row.2.2]), rfl, hk, by rw [← rqD_rows]; exact dq _, by rw [List.length_map]; omega, by rw [List.getElem?_map, hj]; rfl, hm, fun k row' hlt h => ?_, fun H1 s1 => ?_⟩
    · rw [List.getElem?_map] at h
      obtain ⟨r0, hr0, rfl⟩ := Option.map_eq_some_iff.mp h
      exact hd k r0 hlt hr0
    walk_at "gf"
    refine ⟨i, ar, zs, (j : Int), rfl, hs, hk, s1.sqt qs, fun H2 s2 => ⟨fun k z' hk' hz' => ?_, fun hc => ?_⟩⟩
    · obtain rfl : j = k := by omega
      obtain rfl : V.ref pt = z' := Option.some.inj (hz.symm.trans hz')
      have s12 := s1.trans s2
      cases dw with
      | cons w1 w2 => cases w2 with
        | cons w2 w3 => cases w3 with
          | cons w3 w4 =>
            cases w4
            obtain rfl := dp_str w1
            obtain rfl := dp_bool w3
            obtain ⟨pk, ks, rfl, qk, dk⟩ := dp_tuple w2
            obtain rfl := dpall_strs dk
            have qw2 := s12.sqt qw
            have qk2 := s12.sqt qk
            have er2 := s12 _ _ er
            have ela2 := s12 _ _ ela
            walk_at "gf"
            refine ⟨r, A.CRequest, dx, _, _, rfl, er2, T.clRequest, T.nRequest_arguments, by walk_at "lk", ?_⟩
            walk_at "gf"
            refine ⟨pk, la, _, xs, rfl, qk2, SqL.of ela2, for_zipM (K := K) (by rw [List.length_map]; exact hxl.symm) (fun k σ H' => ∃ v2 v3 v4 v5, σ = [some (.ref r), some (.ref pt), v2, v3, v4, v5] ∧ Same H2 H' ∧ (mk.take k).findSome? id = none) ⟨_, _, _, _, rfl, Same.refl _, rfl⟩ (fun k σ H' ⟨_, _, _, _, _, s, _⟩ => ⟨s.sqt qk2, s.seq (SqL.of ela2)⟩) ?_ ?_⟩
            · rintro k x v T0 σ H3 hx hv ⟨v2, v3, v4, v5, rfl, s3, hnone⟩ hT
              rw [List.getElem?_map] at hx
              obtain ⟨p, hp, rfl⟩ := Option.map_eq_some_iff.mp hx
              obtain ⟨z0, hz0⟩ : ∃ z0, mk[k]? = some z0 := ⟨_, List.getElem?_eq_getElem (by have := (List.getElem?_eq_some_iff.mp hv).1; omega)⟩
              have hmz := hmk k p v z0 hp hv hz0
              have htk : mk.take (k + 1) = mk.take k ++ [z0] := by
                obtain ⟨g1, g2⟩ := List.getElem?_eq_some_iff.mp hz0
                rw [List.take_succ_eq_append_getElem g1, g2]
              have hsT := same_upd (o := .tup [.str p, v]) hT
              refine ⟨T0, _, rfl, SqT.of upd_same, rfl, ?_⟩
              walk_at "gf"
              refine ⟨hps p (List.mem_of_getElem? hp), fun t4 H4 s4 q4 => ?_⟩
              walk_at "gf"
              have s24 : Same H2 H4 := s3.trans (hsT.trans s4)
              refine iteStr (fun e1 => ?_) (fun e1 => ?_)
              · walk_at "gf"
                rename_i t5 ht5
                cases z0 with
                | none => exact absurd e1 hmz.1
                | some ab =>
                  obtain ⟨a, b⟩ := ab
                  rcases hmz with ⟨_, rfl, rfl⟩ | ⟨e2, _⟩
                  · exact q2 _ _ t5 _ (findSome_at hnone hz0) (s12.trans (s24.trans (same_upd ht5))) (SqT.of upd_same)
                  · rw [e1] at e2; exact absurd e2 (by decide +kernel)
              · walk_at "gf"
                refine iteStr (fun e2 => ?_) (fun e2 => ?_)
                · cases z0 with
                  | none => exact absurd e2 hmz.2
                  | some ab =>
                    obtain ⟨a, b⟩ := ab
                    rcases hmz with ⟨e3, _⟩ | ⟨_, tt, rfl, qtt⟩
                    · exact absurd e3 e1
                    · have qt4 := (s12.trans s24).sqt qtt
                      walk_at "gf"
                      rename_i t5 ht5
                      exact q2 _ _ t5 _ (findSome_at hnone hz0) (s12.trans (s24.trans (same_upd ht5))) (SqT.of upd_same)
                · cases z0 with
                  | none =>
                    walk_at "gf"
                    exact ⟨s24, by rw [htk, List.findSome?_append, hnone]; rfl⟩
                  | some ab =>
                    obtain ⟨a, b⟩ := ab
                    rcases hmz with ⟨e3, _⟩ | ⟨e3, _⟩
                    · exact absurd e3 e1
                    · exact absurd e3 e2
            · rintro σ H3 ⟨v2, v3, v4, v5, rfl, s3, hnone⟩
              walk_at "gf"
              refine q1 ?_ _ (s12.trans s3)
              rwa [show mk.take (row.2.1.map V.str).length = mk from by rw [List.length_map, ← hxl, ← hml, List.take_length]] at hnone
    · have h1 := (List.getElem?_eq_some_iff.mp hz).1
      omega
/-! ### Fault.__init__, and a Fault that is raised -/
def ffF (n c : Int) (wd : Str) : List (Str × V) := [("words", .str wd), ("code", .int c), ("number", .int n)]
def sp_Fault___init__ (C : Addr) : Sp := fun vs H Q _ => ∃ (a : Addr) (n c : Int) (wd : Str), vs = [.ref a, .int n, .int c, .str wd] ∧ H a = some (exo a C none) ∧
  ∀ (dx : Addr) (H' : Hp), H dx = none → (∀ b, b ≠ a → H b ≠ none → H' b = H b) → (∀ b, H' b = none → H b = none) → ExV H' a C dx (ffF n c wd) → Q .non H'
theorem sc_Fault___init__ : SupScope ["self", "number", "code", "words"] ["self", "number", "code", "words"] (defScope s_Fault___init__) := ⟨rfl, rfl, rfl, by decide +kernel, rfl, by decide +kernel, by decide +kernel, by decide +kernel, rfl, rfl⟩
theorem ok_Fault___init__ (T : Txt0 P K mg A) : FnOk P w K mg base CX0 1 A.fFault___init__ A.dFault___init__ ["self", "number", "code", "words"] (sp_Fault___init__ A.CFault) := by
  refine T.FFault___init__.ok T.prg (ar := _) (rest := _) sc_Fault___init__ (fun vs H Q E h => ?_) rfl rfl rfl T.super (fun _ _ _ => rfl) (fun _ => rfl) (fun _ => rfl) (fun cc cda Ar outer s H vs Q E hr h => ?_)
  · obtain ⟨_, _, _, _, rfl, _⟩ := h
    rfl
  · obtain ⟨a, n, c, wd, rfl, ea, q⟩ := h
    replace q := Hid.mk q
    refine ⟨_, _, a, A.CFault, _, pa_cons (pv 3) pa_nil, pss_cons (ps_ost (pv 0) (pv 1)) (pss_cons (ps_ost (pv 0) (pv 2)) (pss_one (ps_ost (pv 0) (pv 3)))), rfl, ea, T.vFault, ?_⟩
    refine ⟨_, rfl, (by show 1 ≤ 1000; decide), ea, ?_⟩
    refine ⟨_, rfl, _, rfl, a, A.CFault, rfl, T.oFault, T.nFault_number, .inl ⟨ea, fun dx hdx hne => ?_⟩⟩
    have o1 : (upd (upd H dx (exd dx [("number", .int n)])) a (exo a A.CFault (some dx))) a = some (exo a A.CFault (some dx)) := upd_same
    have d1 : (upd (upd H dx (exd dx [("number", .int n)])) a (exo a A.CFault (some dx))) dx = some (exd dx [("number", .int n)]) := by rw [upd_ne hne, upd_same]
    have k1 : ∀ b, b ≠ a → H b ≠ none → (upd (upd H dx (exd dx [("number", .int n)])) a (exo a A.CFault (some dx))) b = H b := by walk_at "h"
    have m1 : ∀ b, (upd (upd H dx (exd dx [("number", .int n)])) a (exo a A.CFault (some dx))) b = none → H b = none := by walk_at "h"
    generalize upd (upd H dx (exd dx [("number", .int n)])) a (exo a A.CFault (some dx)) = H1 at o1 d1 k1 m1 ⊢
    refine ⟨_, rfl, _, rfl, a, A.CFault, rfl, T.oFault, T.nFault_code, .inr ⟨dx, _, o1, d1, (by show 1 ≤ 900; decide), ?_⟩⟩
    have o2 : (upd H1 dx (exd dx [("code", .int c), ("number", .int n)])) a = some (exo a A.CFault (some dx)) := by rw [upd_ne hne.symm]; exact o1
    refine ⟨_, rfl, _, rfl, a, A.CFault, rfl, T.oFault, T.nFault_words, .inr ⟨dx, _, o2, upd_same, (by show 2 ≤ 900; decide), ?_⟩⟩
    refine q.go dx _ hdx ?_ ?_ ⟨by rw [upd_ne hne.symm]; exact o2, upd_same⟩
    · intro b hb hn
      have hbd : b ≠ dx := fun z => hn (by rw [z]; exact hdx)
      rw [upd_ne hbd, upd_ne hbd]; exact k1 b hb hn
    · intro b hb
      by_cases hbd : b = dx
      · rw [hbd]; exact hdx
      · rw [upd_ne hbd, upd_ne hbd] at hb; exact m1 b hb
/-- the raising's reading, told shortly -/
theorem fault_go {C : Addr} {H : Hp} {n c : Int} {wd : Str} {E : XK} (q : ∀ (d : Addr) (H' : Hp), H d = none → H' d = some (.xd (ffF n c wd)) → (∀ b, H b ≠ none → H' b = H b) → (∀ b, b ≠ d → H' b = none → H b = none) → E (.ref C) (some d) H') :
    ∀ a, H a = none → sp_Fault___init__ C [.ref a, .int n, .int c, .str wd] (upd H a (exo a C none)) (fun v H2 => v = .non ∧ ∃ (d : Addr) (fs : List (Str × V)), H2 a = some (exo a C (some d)) ∧ H2 d = some (exd d fs) ∧ H d = none ∧ E (.ref C) (some d) (upd (del H2 a) d (.xd fs))) (fun _ _ _ => False) := by
  intro a ha
  refine ⟨a, n, c, wd, rfl, upd_same, fun dx H' hdx k m ev => ⟨rfl, dx, _, ev.ob, ev.di, ?_, ?_⟩⟩
  · have : dx ≠ a := fun z => by rw [z, upd_same] at hdx; cases hdx
    rw [upd_ne this] at hdx; exact hdx
  · have hda : dx ≠ a := fun z => by rw [z, upd_same] at hdx; cases hdx
    rw [upd_ne hda] at hdx
    refine q dx _ hdx upd_same (fun b hb => ?_) (fun b hbd hb => ?_)
    · have h1 : b ≠ dx := fun z => hb (by rw [z]; exact hdx)
      have h2 : b ≠ a := fun z => hb (by rw [z]; exact ha)
      rw [upd_ne h1, del_ne h2, k b h2 (by rw [upd_ne h2]; exact hb), upd_ne h2]
    · rw [upd_ne hbd] at hb
      by_cases h2 : b = a
      · rw [h2]; exact ha
      · rw [del_ne h2] at hb
        have := m b hb
        rw [upd_ne h2] at this; exact this
/-! ### Fault.__init__ while an exception is handled -/
theorem ok_Fault___init__H (T : Txt0 P K mg A) : L2H.FnH P w K mg base CX0 1 A.fFault___init__ A.dFault___init__ ["self", "number", "code", "words"] (sp_Fault___init__ A.CFault) := by
  refine T.FFault___init__.okH T.prg (ar := _) (rest := _) sc_Fault___init__ (fun vs H Q E h => ?_) rfl rfl rfl T.super (fun _ _ _ => rfl) (fun _ => rfl) (fun _ => rfl) (fun cc cda Ar outer s H vs Q E pp _ hr h => ?_)
  · obtain ⟨_, _, _, _, rfl, _⟩ := h
    rfl
  · obtain ⟨a, n, c, wd, rfl, ea, q⟩ := h
    replace q := Hid.mk q
    refine ⟨_, _, a, A.CFault, _, pa_cons (pv 3) pa_nil, pss_cons (ps_ost (pv 0) (pv 1)) (pss_cons (ps_ost (pv 0) (pv 2)) (pss_one (ps_ost (pv 0) (pv 3)))), rfl, ea, T.vFault, ?_⟩
    refine ⟨_, rfl, (by show 1 ≤ 1000; decide), ea, ?_⟩
    refine ⟨_, rfl, _, rfl, a, A.CFault, rfl, T.oFault, T.nFault_number, .inl ⟨ea, fun dx hdx hne => ?_⟩⟩
    have o1 : (upd (upd H dx (exd dx [("number", .int n)])) a (exo a A.CFault (some dx))) a = some (exo a A.CFault (some dx)) := upd_same
    have d1 : (upd (upd H dx (exd dx [("number", .int n)])) a (exo a A.CFault (some dx))) dx = some (exd dx [("number", .int n)]) := by rw [upd_ne hne, upd_same]
    have k1 : ∀ b, b ≠ a → H b ≠ none → (upd (upd H dx (exd dx [("number", .int n)])) a (exo a A.CFault (some dx))) b = H b := by walk_at "h"
    have m1 : ∀ b, (upd (upd H dx (exd dx [("number", .int n)])) a (exo a A.CFault (some dx))) b = none → H b = none := by walk_at "h"
    generalize upd (upd H dx (exd dx [("number", .int n)])) a (exo a A.CFault (some dx)) = H1 at o1 d1 k1 m1 ⊢
    refine ⟨_, rfl, _, rfl, a, A.CFault, rfl, T.oFault, T.nFault_code, .inr ⟨dx, _, o1, d1, (by show 1 ≤ 900; decide), ?_⟩⟩
    have o2 : (upd H1 dx (exd dx [("code", .int c), ("number", .int n)])) a = some (exo a A.CFault (some dx)) := by rw [upd_ne hne.symm]; exact o1
    refine ⟨_, rfl, _, rfl, a, A.CFault, rfl, T.oFault, T.nFault_words, .inr ⟨dx, _, o2, upd_same, (by show 2 ≤ 900; decide), ?_⟩⟩
    refine q.go dx _ hdx ?_ ?_ ⟨by rw [upd_ne hne.symm]; exact o2, upd_same⟩
    · intro b hb hn
      have hbd : b ≠ dx := fun z => hn (by rw [z]; exact hdx)
      rw [upd_ne hbd, upd_ne hbd]; exact k1 b hb hn
    · intro b hb
      by_cases hbd : b = dx
      · rw [hbd]; exact hdx
      · rw [upd_ne hbd, upd_ne hbd] at hb; exact m1 b hb
/-! ### a request is made -/
def sp_Request___init__ (C : Addr) : Sp := fun vs H Q _ => ∃ (a dx : Addr) (n : Int) (i m : Str) (va : V) (e : Bool), vs = [.ref a, .int n, .str i, .str m, va, .bl e] ∧ H a = some (.ins C dx []) ∧ ∀ H' : Hp, H' a = some (.ins C dx [("number", .int n), ("interface", .str i), ("name", .str m), ("arguments", va), ("ends", .bl e)]) → (∀ b, b ≠ a → H' b = H b) → Q .non H'
theorem sc_Request___init__ : FnScope ["self", "number", "interface", "name", "arguments", "ends"] ["self", "number", "interface", "name", "arguments", "ends"] (defScope s_Request___init__) := ⟨rfl, rfl, rfl, by decide +kernel, rfl, by decide +kernel, by decide +kernel⟩
theorem ok_Request___init__ (T : Txt0 P K mg A) : FnOk P w K mg base CX0 1 A.fRequest___init__ A.dRequest___init__ ["self", "number", "interface", "name", "arguments", "ends"] (sp_Request___init__ A.CRequest) := by
  refine T.FRequest___init__.ok sc_Request___init__ (fun vs H Q E h => ?_) (fun cdv Ar outer st H vs Q E hr h => ?_)
  · obtain ⟨_, _, _, _, _, _, _, rfl, _⟩ := h
    rfl
  · obtain ⟨a, dx, n, i, m, va, e, rfl, ho, q⟩ := h
    refine ⟨_, (pss_cons (ps_fld (pv 0) (pv 1) rfl)
      (pss_cons (ps_fld (pv 0) (pv 2) rfl)
      (pss_cons (ps_fld (pv 0) (pv 3) rfl)
      (pss_cons (ps_fld (pv 0) (pv 4) rfl)
      (pss_one (ps_fld (pv 0) (pv 5) rfl)))))), ?_⟩
    refine ⟨_, rfl, _, rfl, a, _, dx, _, rfl, ho, T.clRequest, T.nRequest_number, (by show 0 < 1000; decide), ?_⟩
    refine ⟨_, rfl, _, rfl, a, _, dx, _, rfl, upd_same, T.clRequest, T.nRequest_interface, (by show 1 < 1000; decide), ?_⟩
    refine ⟨_, rfl, _, rfl, a, _, dx, _, rfl, upd_same, T.clRequest, T.nRequest_name, (by show 2 < 1000; decide), ?_⟩
    refine ⟨_, rfl, _, rfl, a, _, dx, _, rfl, upd_same, T.clRequest, T.nRequest_arguments, (by show 3 < 1000; decide), ?_⟩
    refine ⟨_, rfl, _, rfl, a, _, dx, _, rfl, upd_same, T.clRequest, T.nRequest_ends, (by show 4 < 1000; decide), ?_⟩
    exact q _ upd_same (fun b hb => by rw [upd_ne hb, upd_ne hb, upd_ne hb, upd_ne hb, upd_ne hb])
/-! ### the checks -/
/-- a Fault goes up -/
def FaultTo (A : Adr) (H : Hp) (E : XK) (n c : Int) (wd : Str) : Prop := ∀ dd H', H dd = none → H' dd = some (.xd (ffF n c wd)) → (∀ b, H b ≠ none → H' b = H b) → E (.ref A.CFault) (some dd) H'
def sp__check_new (A : Adr) (w : World) (K : PySem.W.Frag) : Sp := fun vs H Q E => ∃ (o r d : Addr) (n nm : Int) (rs : List ORow) (mk : List (Option (V × V))), vs = [.ref o, .ref r] ∧ NewPre A w K H r n mk ∧ ObjAt A.CObjects H o d rs nm ∧
  (mk.findSome? id = none → ∀ H', Same H H' → Q .non H') ∧ (∀ a b, mk.findSome? id = some (a, b) → ∃ k : Int, a = .int k ∧ (mayGive rs k = false → FaultTo A H E n 6 "number cannot be given") ∧ (mayGive rs k = true → 512 ≤ rs.length → FaultTo A H E n 7 "too many objects") ∧ (mayGive rs k = true → rs.length < 512 → ∀ H', Same H H' → Q .non H'))
theorem sc__check_new : FnScope ["objects", "request", "made"] ["objects", "request"] (defScope s__check_new) := ⟨rfl, rfl, rfl, by decide +kernel, rfl, by decide +kernel, by decide +kernel⟩
theorem ok__check_new (T : Txt0 P K mg A) : FnOk P w K mg base (L2.CX P w) 4 A.f_check_new A.d_check_new ["objects", "request"] (sp__check_new A w K) := by
  refine T.F_check_new.okX sc__check_new (fun vs H Q E h => ?_) (fun cdv Ar outer st H vs Q E hr h => ?_)
  · obtain ⟨_, _, _, _, _, _, _, rfl, _⟩ := h
    rfl
  · obtain ⟨o, r, d, n, nm, rs, mk, rfl, np, O, q1, q2⟩ := h
    refine ⟨_, (pss_cons (ps_set (i := 2) sc__check_new.nd rfl (Or.inl rfl) (pe_call (ok_new_object T) (hr.mono (by decide)) rfl T.gnew_object T.knew_object T.bnew_object .nil pass0 (pa_cons (pv 1) pa_nil)))
      (pss_cons (ps_if (pt_cmpR op_isN (pv 2) pe_non (nomark _))
      (pss_one ps_retN)
      pss_nil)
      (pss_cons (ps_if (pt_not (pt_val (pe_meth (pv 0) T.clObjects T.mObjects_may_give (ok_Objects_may_give T) (hr.mono (by decide)) T.bObjects_may_give .nil pass0 (pa_cons (pe_ix (r := rIxT K) ix_tup (pv 2) pe_int (fun _ _ => rfl)) pa_nil))))
      (pss_one (ps_raise rfl (takes_of rfl rfl rfl rfl) (pmk_oex T.oFault T.MFault T.TFault (ok_Fault___init__ T) (hr.mono (by decide)) T.bFault___init__ .nil pass0 (by rfl) T.gFault (pa_cons (pe_fld (pv 1) rfl) (pa_cons pe_int (pa_cons pe_str pa_nil))))))
      pss_nil)
      (pss_one (ps_if (pt_val (pe_meth0 (pv 0) T.clObjects T.mObjects_is_full (ok_Objects_is_full T) (hr.mono (by decide)) T.bObjects_is_full .nil pass0))
      (pss_one (ps_raise rfl (takes_of rfl rfl rfl rfl) (pmk_oex T.oFault T.MFault T.TFault (ok_Fault___init__ T) (hr.mono (by decide)) T.bFault___init__ .nil pass0 (by rfl) T.gFault (pa_cons (pe_fld (pv 1) rfl) (pa_cons pe_int (pa_cons pe_str pa_nil))))))
      pss_nil))))), ?_⟩
    walk_at "gf"
    refine ⟨r, n, mk, rfl, np, fun hn H1 s1 => ?_, fun a b t H1 hsm s1 qt => ?_⟩
    · walk_at "gf"
      exact q1 hn _ s1
    · obtain ⟨k, rfl, f1, f2, f3⟩ := q2 a b hsm
      have O1 := O.same s1
      obtain ⟨la, ar, i, m, e, rows, j, row, xs, ⟨dx, er⟩, _⟩ := np
      have er1 := s1 _ _ er
      obtain ⟨dxo, eo⟩ := O1.ob
      walk_at "gf"
      refine ⟨o, d, rs, nm, k, rfl, O1, _, rfl, ?_⟩
      refine if_b (fun hb => ?_) (fun hb => ?_)
      · walk_at "gf"
        refine ⟨r, A.CRequest, dx, _, _, rfl, er1, T.clRequest, T.nRequest_number, by walk_at "lk", ?_⟩
        walk_at "gf"
        exact ⟨by show 3 ≤ 1000; decide, fault_go (fun dd H' h1 h2 h3 h4 => f1 (by simpa using hb) dd H' (s1.free h1) h2 (fun b hb' => by cases e' : H b with
          | none => exact absurd e' hb'
          | some u => rw [h3 b (by rw [s1 _ _ e']; exact fun z => by cases z), s1 _ _ e']))⟩
      · walk_at "gf"
        refine ⟨o, d, rs, nm, rfl, O1, _, rfl, ?_⟩
        have hg : mayGive rs k = true := by simpa using hb
        refine if_b (fun hb2 => ?_) (fun hb2 => ?_)
        · walk_at "gf"
          refine ⟨r, A.CRequest, dx, _, _, rfl, er1, T.clRequest, T.nRequest_number, by walk_at "lk", ?_⟩
          walk_at "gf"
          exact ⟨by show 3 ≤ 1000; decide, fault_go (fun dd H' h1 h2 h3 h4 => f2 hg (of_decide_eq_true hb2) dd H' (s1.free h1) h2 (fun b hb' => by cases e' : H b with
            | none => exact absurd e' hb'
            | some u => rw [h3 b (by rw [s1 _ _ e']; exact fun z => by cases z), s1 _ _ e']))⟩
        · walk_at "gf"
          exact f3 hg (by have := of_decide_eq_false hb2; omega) _ s1
/-! ### the objects that are named -/
theorem useR {R B C G : Prop} (h : (¬ C → R) → (C → B) → G) (r : ¬ C → R) (b : C → B) : G := h r b
def isNm (p : Str) (v : V) : Prop := (kinP p).1 = Str.ofString "object" ∨ ((kinP p).1 = Str.ofString "maybe" ∧ v ≠ .int 0)
def nmFlt (rs : List ORow) (p : Str) (n : Int) : Option (Int × Str) := match find rs n with
  | none => some (3, "no such object")
  | some i => if i ∈ spS 124 (kinP p).2 then none else some (8, "object of another kind")
/-- what is told of an argument: nothing, or the fault -/
def nmOf (rs : List ORow) (p : Str) (v : V) (z : Option (Int × Str)) : Prop := (isNm p v → ∃ n, v = .int n ∧ z = nmFlt rs p n) ∧ (¬ isNm p v → z = none) ∧ ((kinP p).1 = Str.ofString "maybe" → ∃ n, v = .int n)
theorem inV_strs (n : Str) : ∀ ns : List Str, inV (.str n) (ns.map V.str) = decide (n ∈ ns)
  | [] => rfl
  | m :: r => by
    have e : inV (.str n) ((m :: r).map V.str) = (eqV (.str m) (.str n) || inV (.str n) (r.map V.str)) := rfl
    rw [e, inV_strs n r]
    have e2 : eqV (V.str m) (.str n) = decide (m = n) := by
      by_cases h : m = n
      · subst h; simp [eqV]
      · simp [eqV, h]
    rw [e2]
    by_cases h : m = n
    · subst h; rw [decide_eq_true rfl, Bool.true_or, decide_eq_true List.mem_cons_self]
    · rw [decide_eq_false h, Bool.false_or]
      congr 1
      exact propext ⟨fun z => List.mem_cons_of_mem _ z, fun z => (List.mem_cons.mp z).resolve_left fun y => h y.symm⟩
theorem flat_strs (ns : List Str) : (ns.map V.str).all flatV = true := by
  rw [List.all_map]; exact List.all_eq_true.mpr fun _ _ => rfl
theorem split124 (s : Str) : Txt.split s (Str.ofString "|") = spS 124 s := by rw [show Str.ofString "|" = ⟨#[124]⟩ from by decide +kernel, split_sp]
def sp__check_named (A : Adr) (K : PySem.W.Frag) : Sp := fun vs H Q E => ∃ (o r d la pk : Addr) (n nm : Int) (i m : Str) (e : Bool) (rs : List ORow) (ps : List Str) (xs : List V) (zs : List (Option (Int × Str))), vs = [.ref o, .ref r, .ref pk] ∧ ReqAt A.CRequest H r la n i m e ∧ ObjAt A.CObjects H o d rs nm ∧ SqT K H pk (ps.map V.str) ∧ H la = some (.lst xs) ∧ xs.length = ps.length ∧ zs.length = ps.length ∧ (∀ s ∈ ps, s.length ≤ 2000) ∧ (∀ p ∈ ps, (kinP p).2.length ≤ 2000) ∧
  (∀ (k : Nat) (p : Str) (v : V) (z : Option (Int × Str)), ps[k]? = some p → xs[k]? = some v → zs[k]? = some z → nmOf rs p v z) ∧
  (zs.findSome? id = none → ∀ H', Same H H' → Q .non H') ∧ (∀ c wd, zs.findSome? id = some (c, wd) → FaultTo A H E n c wd)
theorem sc__check_named : FnScope ["objects", "request", "parts", "part", "value", "kind", "interfaces", "interface"] ["objects", "request", "parts"] (defScope s__check_named) := ⟨rfl, rfl, rfl, by decide +kernel, rfl, by decide +kernel, by decide +kernel⟩
theorem ok__check_named (T : Txt0 P K mg A) : FnOk P w K mg base (L2.CX P w) 4 A.f_check_named A.d_check_named ["objects", "request", "parts"] (sp__check_named A K) := by
  refine T.F_check_named.okX sc__check_named (fun vs H Q E h => ?_) (fun cdv Ar outer st H vs Q E hr h => ?_)
  · obtain ⟨_, _, _, _, _, _, _, _, _, _, _, _, _, _, rfl, _⟩ := h
    rfl
  · obtain ⟨o, r, d, la, pk, n, nm, i, m, e, rs, ps, xs, zs, rfl, ⟨dx, er⟩, O, qk, ela, hxl, hzl, hps, hps2, hz, q1, q2⟩ := h
    obtain ⟨dxo, eo⟩ := O.ob
    refine ⟨_, (pss_one (ps_for (passes_of rfl) rfl (pi_zipM (by rfl) T.zip (pa_cons (pv 2) (pa_cons (pe_fld (pv 1) rfl) pa_nil))) (pg_tup rfl (pgs_cons (pg_name (i := 3) sc__check_named.nd rfl (Or.inl rfl)) (pgs_cons (pg_name (i := 4) sc__check_named.nd rfl (Or.inl rfl)) pgs_nil)))
      (pss_cons (ps_asg (pe_call (ok__kind_and_interface T) (hr.mono (by decide)) rfl T.g_kind_and_interface T.k_kind_and_interface T.b_kind_and_interface .nil pass0 (pa_cons (pv 3) pa_nil)) (pg_tup rfl (pgs_cons (pg_name (i := 5) sc__check_named.nd rfl (Or.inl rfl)) (pgs_cons (pg_name (i := 6) sc__check_named.nd rfl (Or.inl rfl)) pgs_nil))))
      (pss_cons (ps_if (PW.pt (pw_and (pt_cmpR op_ne (pv 5) pe_str (nomark _)) (pw_and1 (PW.pt (pw_or (pt_cmpR op_ne (pv 5) pe_str (nomark _)) (pw_or1 (pt_cmpR (op_eqD hr.units) (pv 4) pe_int (nomark _))))))))
      (pss_one ps_continue)
      pss_nil)
      (pss_cons (ps_set (i := 7) sc__check_named.nd rfl (Or.inl rfl) (pe_meth (pv 0) T.clObjects T.mObjects_interface_of (ok_Objects_interface_of T) (hr.mono (by decide)) T.bObjects_interface_of .nil pass0 (pa_cons (pv 4) pa_nil)))
      (pss_cons (ps_if (pt_cmpR op_isN (pv 7) pe_non (nomark _))
      (pss_one (ps_raise rfl (takes_of rfl rfl rfl rfl) (pmk_oex T.oFault T.MFault T.TFault (ok_Fault___init__ T) (hr.mono (by decide)) T.bFault___init__ .nil pass0 (by rfl) T.gFault (pa_cons (pe_fld (pv 1) rfl) (pa_cons pe_int (pa_cons pe_str pa_nil))))))
      pss_nil)
      (pss_one (ps_if (pt_cmpR op_notIn_seq (pv 7) (pe_split (pv 6) pe_str) (by rfl))
      (pss_one (ps_raise rfl (takes_of rfl rfl rfl rfl) (pmk_oex T.oFault T.MFault T.TFault (ok_Fault___init__ T) (hr.mono (by decide)) T.bFault___init__ .nil pass0 (by rfl) T.gFault (pa_cons (pe_fld (pv 1) rfl) (pa_cons pe_int (pa_cons pe_str pa_nil))))))
      pss_nil)))))))), ?_⟩
    walk_at "gf"
    refine ⟨r, A.CRequest, dx, _, _, rfl, er, T.clRequest, T.nRequest_arguments, by walk_at "lk", ?_⟩
    walk_at "gf"
    refine ⟨pk, la, _, xs, rfl, qk, SqL.of ela, for_zipM (K := K) (by rw [List.length_map]; exact hxl.symm) (fun k σ H' => ∃ v3 v4 v5 v6 v7, σ = [some (.ref o), some (.ref r), some (.ref pk), v3, v4, v5, v6, v7] ∧ Same H H' ∧ (zs.take k).findSome? id = none) ⟨_, _, _, _, _, rfl, Same.refl _, rfl⟩ (fun k σ H' ⟨_, _, _, _, _, _, s, _⟩ => ⟨s.sqt qk, s.seq (SqL.of ela)⟩) ?_ ?_⟩
    · rintro k x v T0 σ H3 hx hv ⟨v3, v4, v5, v6, v7, rfl, s3, hnone⟩ hT
      rw [List.getElem?_map] at hx
      obtain ⟨p, hp, rfl⟩ := Option.map_eq_some_iff.mp hx
      obtain ⟨z0, hz0⟩ : ∃ z0, zs[k]? = some z0 := ⟨_, List.getElem?_eq_getElem (by have := (List.getElem?_eq_some_iff.mp hp).1; omega)⟩
      have hz0' := hz0
      obtain ⟨g1, g2, g3⟩ := hz k p v z0 hp hv hz0
      clear hz0
      have hsT := same_upd (o := .tup [.str p, v]) hT
      refine ⟨T0, _, rfl, SqT.of upd_same, rfl, ?_⟩
      walk_at "gf"
      refine ⟨hps p (List.mem_of_getElem? hp), fun t4 H4 s4 q4 => ?_⟩
      have s24 : Same H H4 := s3.trans (hsT.trans s4)
      walk_at "gf"
      apply useR (C := ¬ isNm p v)
      · intro rr bb
        refine iteStrN (fun c1 => ?_) (fun c1 => ?_)
        · walk_at "gf"
          refine iteStrN (fun c2 => ?_) (fun c2 => ?_)
          · exact bb (fun h => h.elim c1 (fun z => c2 z.1))
          · obtain ⟨n0, hn0⟩ := g3 c2
            walk_at "gf"
            refine ⟨.int n0, .int 0, (by rw [hn0]; exact .int n0), .int 0, (sh_int _).shaped, (sh_int _).shaped, _, rfl, ?_⟩
            by_cases hn : n0 = 0
            · refine if_t (by subst hn; exact (sh_int 0).self) ?_
              exact bb (fun h => h.elim c1 (fun z => z.2 (by rw [hn0, hn])))
            · refine if_f (by simpa [PyData.eqv] using hn) ?_
              exact rr (fun h => h (.inr ⟨c2, fun z => hn (V.int.inj (hn0.symm.trans z))⟩))
        · exact rr (fun h => h (.inl c1))
      · intro hnm
        obtain ⟨n0, rfl, hz0⟩ := g1 (Classical.not_not.mp hnm)
        obtain rfl : z0 = nmFlt rs p n0 := hz0
        have O4 := O.same s24
        have er4 := s24 _ _ er
        have htk : zs.take (k + 1) = zs.take k ++ [nmFlt rs p n0] := by
          obtain ⟨g1, g2⟩ := List.getElem?_eq_some_iff.mp hz0'
          rw [List.take_succ_eq_append_getElem g1, g2]
        obtain ⟨dxo4, eo4⟩ := O4.ob
        walk_at "gf"
        refine ⟨o, d, rs, nm, n0, rfl, O4, ?_⟩
        unfold nmFlt at hz0'
        cases hf : find rs n0 with
        | none =>
          rw [hf] at hz0'
          walk_at "gf"
          refine ⟨r, A.CRequest, dx, _, _, rfl, er4, T.clRequest, T.nRequest_number, by walk_at "lk", ?_⟩
          walk_at "gf"
          refine ⟨by show 3 ≤ 1000; decide, fault_go (fun dd H' h1 h2 h3 h4 => q2 3 "no such object" (findSome_at hnone hz0') dd H' (s24.free h1) h2 (fun b hb' => by cases e' : H b with
            | none => exact absurd e' hb'
            | some u => rw [h3 b (by rw [s24 _ _ e']; exact fun z => by cases z), s24 _ _ e']))⟩
        | some i0 =>
          rw [hf] at hz0'
          dsimp only at hz0'
          have hl2 := hps2 p (List.mem_of_getElem? hp)
          walk_at "gf"
          refine ⟨⟨_, rfl⟩, _, _, rfl, rfl, by decide +kernel, szl hl2, fun pl hpl => ?_⟩
          rw [split124]
          refine ⟨pl, _, rfl, .inl (SqL.of upd_same), rfl, flat_strs _, _, rfl, ?_⟩
          have s25 := s24.trans (same_upd (o := .lst ((spS 124 (kinP p).2).map V.str)) hpl)
          by_cases hm : i0 ∈ spS 124 (kinP p).2
          · rw [if_pos hm] at hz0'
            refine if_f (by show (!inV (.str i0) ((spS 124 (kinP p).2).map V.str)) = false; rw [inV_strs, decide_eq_true hm]; rfl) ?_
            walk_at "gf"
            refine ⟨_, _, _, _, _, rfl, s25, ?_⟩
            rw [htk, List.findSome?_append, hnone]
            unfold nmFlt
            rw [hf]
            dsimp only
            rw [if_pos hm]; rfl
          · rw [if_neg hm] at hz0'
            refine if_t (by show (!inV (.str i0) ((spS 124 (kinP p).2).map V.str)) = true; rw [inV_strs, decide_eq_false hm]; rfl) ?_
            walk_at "gf"
            refine ⟨r, A.CRequest, dx, _, _, rfl, s25 _ _ er, T.clRequest, T.nRequest_number, by walk_at "lk", ?_⟩
            walk_at "gf"
            refine ⟨by show 3 ≤ 1000; decide, fault_go (fun dd H' h1 h2 h3 h4 => q2 8 "object of another kind" (findSome_at hnone hz0') dd H' (s25.free h1) h2 (fun b hb' => by cases e' : H b with
              | none => exact absurd e' hb'
              | some u => rw [h3 b (by rw [s25 _ _ e']; exact fun z => by cases z), s25 _ _ e']))⟩
      · intro hnm
        obtain rfl : z0 = none := g2 hnm
        refine ⟨_, _, _, _, _, rfl, s24, ?_⟩
        have htk : zs.take (k + 1) = zs.take k ++ [none] := by
          obtain ⟨g1, g2⟩ := List.getElem?_eq_some_iff.mp hz0'
          rw [List.take_succ_eq_append_getElem g1, g2]
        rw [htk, List.findSome?_append, hnone]; rfl
    · rintro σ H3 ⟨v3, v4, v5, v6, v7, rfl, s3, hnone⟩
      walk_at "gf"
      refine q1 ?_ _ s3
      rwa [show zs.take (ps.map V.str).length = zs from by rw [List.length_map, ← hzl, List.take_length]] at hnone
/-! ### the arguments of a message, with the faults -/
theorem FaultTo.go {A : Adr} {H H1 : Hp} {E : XK} {n c : Int} {wd : Str} (f : FaultTo A H E n c wd) (s : Same H H1) :
    ∀ a, H1 a = none → sp_Fault___init__ A.CFault [.ref a, .int n, .int c, .str wd] (upd H1 a (exo a A.CFault none)) (fun v H2 => v = .non ∧ ∃ (d : Addr) (fs : List (Str × V)), H2 a = some (exo a A.CFault (some d)) ∧ H2 d = some (exd d fs) ∧ H1 d = none ∧ E (.ref A.CFault) (some d) (upd (del H2 a) d (.xd fs))) (fun _ _ _ => False) :=
  fault_go (fun dd H' h1 h2 h3 h4 => f dd H' (s.free h1) h2 (fun b hb' => by cases e' : H b with
    | none => exact absurd e' hb'
    | some u => rw [h3 b (by rw [s _ _ e']; exact fun z => by cases z), s _ _ e']))
theorem FaultTo.to {A : Adr} {H H1 : Hp} {E : XK} {n c : Int} {wd : Str} (f : FaultTo A H E n c wd) (s : Same H H1) : FaultTo A H1 E n c wd := fun dd H' h1 h2 h3 => f dd H' (s.free h1) h2 (fun b hb' => by
  cases e' : H b with
  | none => exact absurd e' hb'
  | some u => rw [h3 b (by rw [s _ _ e']; exact fun z => by cases z), s _ _ e'])
def argWords : RErr → Str
  | .len => "bad length"
  | .text => "bad text"
  | .pad => "bad padding"
  | .miss => "object missing"
def kindsOf (ps : List Str) : List Str := ps.map fun p => (kinP p).1
def sp__arguments (A : Adr) (K : PySem.W.Frag) : Sp := fun vs H Q E => ∃ (n : Int) (pk b : Addr) (ps : List Str) (xs : List Int), vs = [.int n, .ref pk, .ref b] ∧ SqT K H pk (ps.map V.str) ∧ ps.length < 1000 ∧ (∀ s ∈ ps, s.length ≤ 2000) ∧ Src K H b xs ∧
  (∀ rs, rdArgs xs (kindsOf ps) = .ok rs → ∀ p us H', Same H H' → H' p = some (.lst us) → ValsAt K H' us rs → Q (.ref p) H') ∧
  (∀ e, rdArgs xs (kindsOf ps) = .error e → FaultTo A H E n 2 (argWords e))
theorem sc__arguments : FnScope ["number", "parts", "body", "part"] ["number", "parts", "body"] (defScope s__arguments) := ⟨rfl, rfl, rfl, by decide +kernel, rfl, by decide +kernel, by decide +kernel⟩
theorem ok__arguments (T : Txt0 P K mg A) : FnOk P w K mg base (L2.CX P w) 6 A.f_arguments A.d_arguments ["number", "parts", "body"] (sp__arguments A K) := by
  refine T.F_arguments.okX sc__arguments (fun vs H Q E h => ?_) (fun cdv Ar outer st H vs Q E hr h => ?_)
  · obtain ⟨_, _, _, _, _, rfl, _⟩ := h
    rfl
  · obtain ⟨n, pk, b, ps, xs, rfl, qk, hl, hs, hS, q, qe⟩ := h
    refine ⟨_, (pss_one (ps_try_manyX rfl rfl (fun hd => L2H.passesAt_of rfl hd) (takes_of rfl rfl rfl rfl) (fun W pn xe tk _ => (pss_one (ps_ret (pe_callS (ok_read_arguments (P := P) (w := w) (base := base) T) (hr.mono (by decide)) rfl T.gread_arguments T.kread_arguments T.bread_arguments (fun σ => L2N.passAt tk σ) (pa_cons (by exact (pe_lc (wi := iTup K (tVar 1)) (own := [("part", 3)]) (g := (gName 3)) (tt := tYes) rfl sc__arguments.nd (pi_tup (pv 1)) (blkOk_by (own := [("part", 3)]) (N := ["number", "parts", "body", "part"]) (sc := defScope s__arguments) (by decide +kernel)) (fun _ _ _ _ _ => (pg_name (i := 3) sc__arguments.nd rfl (Or.inl rfl))) (fun _ _ _ _ _ => pts_nil) (fun _ _ _ _ _ => by exact (pe_ix (r := rIxT K) ix_tup (pe_call (ok__kind_and_interface T) (hr.mono (by decide)) rfl T.g_kind_and_interface T.k_kind_and_interface T.b_kind_and_interface .nil pass0 (pa_cons (pv 3) pa_nil)) pe_int (fun _ _ => rfl))))) (pa_cons (pv 2) pa_nil))))))
      (HdsX.cons ⟨rfl, by decide, .inl T.gBadLength⟩ (fun a cls d pn tkS hot => (pss_one (L2H.ps_raiseHN hot tkS (L2H.pmk5_oexH T.oFault T.MFault T.TFault (ok_Fault___init__H T) (L2H.roomH_mark (hr.mono (by decide)) _) hot T.bFault___init__ pass0 (by rfl) T.gFault (pa_cons (pv 0) (pa_cons pe_int (pa_cons pe_str pa_nil))))))) (HdsX.cons ⟨rfl, by decide, .inl T.gBadText⟩ (fun a cls d pn tkS hot => (pss_one (L2H.ps_raiseHN hot tkS (L2H.pmk5_oexH T.oFault T.MFault T.TFault (ok_Fault___init__H T) (L2H.roomH_mark (hr.mono (by decide)) _) hot T.bFault___init__ pass0 (by rfl) T.gFault (pa_cons (pv 0) (pa_cons pe_int (pa_cons pe_str pa_nil))))))) (HdsX.cons ⟨rfl, by decide, .inl T.gBadPadding⟩ (fun a cls d pn tkS hot => (pss_one (L2H.ps_raiseHN hot tkS (L2H.pmk5_oexH T.oFault T.MFault T.TFault (ok_Fault___init__H T) (L2H.roomH_mark (hr.mono (by decide)) _) hot T.bFault___init__ pass0 (by rfl) T.gFault (pa_cons (pv 0) (pa_cons pe_int (pa_cons pe_str pa_nil))))))) (HdsX.cons ⟨rfl, by decide, .inl T.gObjectMissing⟩ (fun a cls d pn tkS hot => (pss_one (L2H.ps_raiseHN hot tkS (L2H.pmk5_oexH T.oFault T.MFault T.TFault (ok_Fault___init__H T) (L2H.roomH_mark (hr.mono (by decide)) _) hot T.bFault___init__ pass0 (by rfl) T.gFault (pa_cons (pv 0) (pa_cons pe_int (pa_cons pe_str pa_nil))))))) .nil)))))), ?_⟩
    refine ⟨_, rfl, pk, rfl, ⟨_, qk⟩, fun D hD => ?_⟩
    refine lc_dp (walk_tup (K := K) (a := pk) (xs := ps.map V.str)) (K := K) (V0 := H) (H0 := H) (fun i => (ps[i]?).map fun p => PyData.str (kinP p).1) _ rfl (Same.refl _) hD (by rw [List.length_map]; omega) (fun H' s => s.sqt qk) (fun i x H H' y => y.1) ?_ ?_
    · rintro i v U H2 hi xx ⟨_, hv⟩ Qy Qn hy _
      rw [List.getElem?_map] at hv
      obtain ⟨p, hp, rfl⟩ := Option.map_eq_some_iff.mp hv
      refine ⟨rfl, _, rfl, p, rfl, hs p (List.mem_of_getElem? hp), fun t H3 s3 q3 => ?_⟩
      refine ⟨t, _, _, _, rfl, rfl, q3, atI_nat (j := 0) rfl, ?_⟩
      exact hy _ _ _ _ (by rw [hp]; rfl) ⟨Same.refl _, xx.vh.trans s3, s3, fun _ e => Or.inl e⟩ (.str _)
    · rintro U H2 ys xx hDU dA dl
      rw [List.length_map, fm_map] at dA
      have hks : ys = (kindsOf ps).map V.str := dpall_strs (by unfold kindsOf; rw [List.map_map]; exact dA)
      have eD : H2 D = some (.lst ((kindsOf ps).map V.str)) := by rw [← hks]; exact xx.vh _ _ hDU
      refine ⟨_, rfl, D, b, kindsOf ps, xs, rfl, SqL.of eD, by unfold kindsOf; rw [List.length_map]; omega, hS.to xx.hh, fun e H' he s3 => ?_, fun rs' us p H' he hp s3 e3 v3 => ?_⟩
      · have f := (qe e he).go (xx.hh.trans s3)
        cases e with
        | len => exact ⟨true, T.exBadLength, fun _ a ha => ⟨_, rfl, by show 3 ≤ 1000; decide, f⟩, fun z => nomatch z⟩
        | text => exact ⟨false, T.exBadText_BadLength, fun z => (nomatch z), fun _ => ⟨true, T.exBadText, fun _ a ha => ⟨_, rfl, by show 3 ≤ 1000; decide, f⟩, fun z => nomatch z⟩⟩
        | pad => exact ⟨false, T.exBadPadding_BadLength, fun z => (nomatch z), fun _ => ⟨false, T.exBadPadding_BadText, fun z => (nomatch z), fun _ => ⟨true, T.exBadPadding, fun _ a ha => ⟨_, rfl, by show 3 ≤ 1000; decide, f⟩, fun z => nomatch z⟩⟩⟩
        | miss => exact ⟨false, T.exObjectMissing_BadLength, fun z => (nomatch z), fun _ => ⟨false, T.exObjectMissing_BadText, fun z => (nomatch z), fun _ => ⟨false, T.exObjectMissing_BadPadding, fun z => (nomatch z), fun _ => ⟨true, T.exObjectMissing, fun _ a ha => ⟨_, rfl, by show 3 ≤ 1000; decide, f⟩, fun z => nomatch z⟩⟩⟩⟩
      · exact q rs' he p us H' (xx.hh.trans s3) e3 v3
/-! ### a message that is accepted -/
def newA (p : Str) (x : AV) : Option (Int × Str) :=
  if (kinP p).1 = Str.ofString "new" then (match x with | .num i => some (i, (kinP p).2) | _ => none)
  else if (kinP p).1 = Str.ofString "bound" then (match x with | .bnd s n => some (n, s) | _ => none) else none
structure FitA (p : Str) (x : AV) : Prop where
  new : (kinP p).1 = Str.ofString "new" → ∃ i, x = .num i
  bnd : (kinP p).1 = Str.ofString "bound" → ∃ s n, x = .bnd s n
  obj : (kinP p).1 = Str.ofString "object" → ∃ i, x = .num i
  may : (kinP p).1 = Str.ofString "maybe" → ∃ i, x = .num i
def OkNm (rs : List ORow) (p : Str) (x : AV) : Prop := ((kinP p).1 = Str.ofString "object" ∨ ((kinP p).1 = Str.ofString "maybe" ∧ x ≠ .num 0)) → ∃ n i, x = .num n ∧ find rs n = some i ∧ i ∈ spS 124 (kinP p).2
def newsOf (ps : List Str) (vals : List AV) : List (Option (Int × Str)) := (ps.zip vals).map fun a => newA a.1 a.2
abbrev RqRow := Str × List Str × Bool
structure RqAt (A : Adr) (w : World) (K : PySem.W.Frag) (i : Str) (ar : Addr) (rows : List RqRow) (j : Nat) (row : RqRow) : Prop where
  sr : (A.a_REQUESTS == sysModules) = false
  kd : KDct K w A.a_REQUESTS i (.ref ar)
  dp : ∀ H, Dp K H (.ref ar) (rqD rows)
  ln : rows.length < 1000
  at_ : rows[j]? = some row
  fst : ∀ (k : Nat) (row' : RqRow), k < j → rows[k]? = some row' → row'.1 ≠ row.1
  pl : row.2.1.length < 1000
  s1 : ∀ s ∈ row.2.1, s.length ≤ 2000
  s2 : ∀ s ∈ row.2.1, (kinP s).2.length ≤ 2000
theorem newsOf_at {ps : List Str} {vals : List AV} {k : Nat} {p : Str} {x : AV} (h1 : ps[k]? = some p) (h2 : vals[k]? = some x) : (newsOf ps vals)[k]? = some (newA p x) := by
  unfold newsOf
  rw [List.getElem?_map, show (ps.zip vals)[k]? = some (p, x) from List.getElem?_zip_eq_some.mpr ⟨h1, h2⟩]; rfl
def mkV (a : Int × Str) : V × V := (.int a.1, .str a.2)
/-- a request's new object can be asked for -/
theorem RqAt.pre {A : Adr} {w : World} {K : PySem.W.Frag} {i : Str} {ar : Addr} {rows : List RqRow} {j : Nat} {row : RqRow} (h : RqAt A w K i ar rows j row) {H : Hp} {r la : Addr} {n : Int} {us : List V} {vals : List AV} (hr : ReqAt A.CRequest H r la n i row.1 row.2.2) (e : H la = some (.lst us)) (hv : ValsAt K H us vals) (hl : vals.length = row.2.1.length)
    (hf : ∀ (k : Nat) (p : Str) (x : AV), row.2.1[k]? = some p → vals[k]? = some x → FitA p x) : NewPre A w K H r n ((newsOf row.2.1 vals).map fun z => z.map mkV) := by
  refine ⟨la, ar, i, row.1, row.2.2, rows, j, row, us, hr, h.sr, h.kd, h.dp, h.ln, h.at_, rfl, h.fst, e, by rw [hv.1, hl], ?_, h.s1, fun k p v z hp hv' hz => ?_⟩
  · unfold newsOf
    rw [List.length_map, List.length_map, List.length_zip, hv.1, hl]; omega
  · obtain ⟨x, hx, ax⟩ := hv.2 k v hv'
    have ft := hf k p x hp hx
    rw [List.getElem?_map, newsOf_at hp hx] at hz
    obtain rfl : (newA p x).map mkV = z := Option.some.inj hz
    unfold newA
    by_cases c1 : (kinP p).1 = Str.ofString "new"
    · obtain ⟨m, rfl⟩ := ft.new c1
      obtain rfl : v = .int m := ax
      rw [if_pos c1]
      exact .inl ⟨c1, rfl, rfl⟩
    · rw [if_neg c1]
      by_cases c2 : (kinP p).1 = Str.ofString "bound"
      · obtain ⟨s, m, rfl⟩ := ft.bnd c2
        obtain ⟨t, rfl, qt, _⟩ := ax
        rw [if_pos c2]
        exact .inr ⟨c2, t, rfl, qt⟩
      · rw [if_neg c2]
        exact ⟨c1, c2⟩
theorem findSome_mkV (l : List (Option (Int × Str))) : (l.map fun z => z.map mkV).findSome? id = (l.findSome? id).map mkV := by
  induction l with
  | nil => rfl
  | cons a l ih => cases a with
    | none => exact ih
    | some a => rfl
theorem findSome_mem {α : Type} {l : List (Option α)} {x : α} (h : l.findSome? id = some x) : some x ∈ l := by
  induction l with
  | nil => cases h
  | cons a l ih => cases a with
    | none => exact List.mem_cons_of_mem _ (ih h)
    | some a => cases h; exact List.mem_cons_self
/-- what is told of an argument that names an object -/
def nmA (rs : List ORow) (p : Str) (x : AV) : Option (Int × Str) := match x with
  | .num n => if (kinP p).1 = Str.ofString "object" ∨ ((kinP p).1 = Str.ofString "maybe" ∧ n ≠ 0) then nmFlt rs p n else none
  | _ => none
def nmsOf (rs : List ORow) (ps : List Str) (vals : List AV) : List (Option (Int × Str)) := (ps.zip vals).map fun a => nmA rs a.1 a.2
theorem nmA_of {K : PySem.W.Frag} {H : Hp} {rs : List ORow} {p : Str} {x : AV} {v : V} (ft : FitA p x) (ax : ArgAt K H v x) : nmOf rs p v (nmA rs p x) := by
  refine ⟨fun hn => ?_, fun hn => ?_, fun hm => ?_⟩
  · obtain ⟨m, rfl⟩ : ∃ m, x = .num m := hn.elim ft.obj fun y => ft.may y.1
    obtain rfl : v = .int m := ax
    exact ⟨m, rfl, if_pos (hn.imp id fun y => ⟨y.1, fun z => y.2 (by rw [z])⟩)⟩
  · cases x with
    | num m =>
      obtain rfl : v = .int m := ax
      exact if_neg fun z => hn (z.imp id fun y => ⟨y.1, fun e => y.2 (by cases e; rfl)⟩)
    | _ => rfl
  · obtain ⟨m, rfl⟩ := ft.may hm
    exact ⟨m, ax⟩
structure LookAt (A : Adr) (w : World) (K : PySem.W.Frag) (H : Hp) (Q : VK) (E : XK) (rs : List ORow) (n : Int) (i : Str) (ar : Addr) (rows : List RqRow) (op : Int) (xs : List Int) : Prop where
  sr : (A.a_REQUESTS == sysModules) = false
  kd : KDct K w A.a_REQUESTS i (.ref ar)
  dp : ∀ H, Dp K H (.ref ar) (rqD rows)
  over : (rows.length : Int) ≤ op → FaultTo A H E n 4 "no such request"
  row : ∀ (j : Nat) (row : RqRow), op = (j : Int) → rows[j]? = some row → RqAt A w K i ar rows j row ∧ (∀ e, rdArgs xs (kindsOf row.2.1) = .error e → FaultTo A H E n 2 (argWords e)) ∧
    ∀ vals, rdArgs xs (kindsOf row.2.1) = .ok vals → vals.length = row.2.1.length ∧ (∀ (k : Nat) (p : Str) (x : AV), row.2.1[k]? = some p → vals[k]? = some x → FitA p x) ∧
      (∀ c wd, (nmsOf rs row.2.1 vals).findSome? id = some (c, wd) → FaultTo A H E n c wd) ∧
      ((nmsOf rs row.2.1 vals).findSome? id = none → (∀ m s, (newsOf row.2.1 vals).findSome? id = some (m, s) → mayGive rs m = false → FaultTo A H E n 6 "number cannot be given") ∧
        ((∀ m s, (newsOf row.2.1 vals).findSome? id = some (m, s) → mayGive rs m = true) → ∀ v H', Same H H' → Q v H'))
def sp_look_at (A : Adr) (w : World) (K : PySem.W.Frag) : Sp := fun vs H Q E => ∃ (o d mt b : Addr) (n op : Int) (rs : List ORow) (nm : Int) (xs : List Int), vs = [.ref o, .ref mt] ∧ ObjAt A.CObjects H o d rs nm ∧ SqT K H mt [.int n, .int op, .ref b] ∧ Src K H b xs ∧ rs.length < 512 ∧ 0 ≤ op ∧
  (find rs n = none → FaultTo A H E 1 3 "no such object") ∧ ∀ i, find rs n = some i → ∃ ar rows, LookAt A w K H Q E rs n i ar rows op xs
theorem sc_look_at : FnScope ["objects", "message", "number", "opcode", "body", "interface", "row", "name", "parts", "ends", "request"] ["objects", "message"] (defScope s_look_at) := ⟨rfl, rfl, rfl, by decide +kernel, rfl, by decide +kernel, by decide +kernel⟩
theorem ok_look_at (T : Txt0 P K mg A) : FnOk P w K mg base (L2.CX P w) 7 A.flook_at A.dlook_at ["objects", "message"] (sp_look_at A w K) := by
  refine T.Flook_at.okX sc_look_at (fun vs H Q E h => ?_) (fun cdv Ar outer st H vs Q E hr h => ?_)
  · obtain ⟨_, _, _, _, _, _, _, _, _, rfl, _⟩ := h
    rfl
  · obtain ⟨o, d, mt, b, n, op, rs, nm, xs, rfl, O, qm, hS, hlen, hop, qn, ql⟩ := h
    obtain ⟨dxo, eo⟩ := O.ob
    refine ⟨_, (pss_cons (ps_asg (pv 1) (pg_tup rfl (pgs_cons (pg_name (i := 2) sc_look_at.nd rfl (Or.inl rfl)) (pgs_cons (pg_name (i := 3) sc_look_at.nd rfl (Or.inl rfl)) (pgs_cons (pg_name (i := 4) sc_look_at.nd rfl (Or.inl rfl)) pgs_nil)))))
      (pss_cons (ps_set (i := 5) sc_look_at.nd rfl (Or.inl rfl) (pe_meth (pv 0) T.clObjects T.mObjects_interface_of (ok_Objects_interface_of T) (hr.mono (by decide)) T.bObjects_interface_of .nil pass0 (pa_cons (pv 2) pa_nil)))
      (pss_cons (ps_if (pt_cmpR op_isN (pv 5) pe_non (nomark _))
      (pss_one (ps_raise rfl (takes_of rfl rfl rfl rfl) (pmk_oex T.oFault T.MFault T.TFault (ok_Fault___init__ T) (hr.mono (by decide)) T.bFault___init__ .nil pass0 (by rfl) T.gFault (pa_cons (pe_glob (v := .int (1)) rfl T.gDISPLAY ⟨_, rfl⟩) (pa_cons pe_int (pa_cons pe_str pa_nil))))))
      pss_nil)
      (pss_cons (ps_set (i := 6) sc_look_at.nd rfl (Or.inl rfl) (pe_call (ok_request_row T) (hr.mono (by decide)) rfl T.grequest_row T.krequest_row T.brequest_row .nil pass0 (pa_cons (pv 5) (pa_cons (pv 3) pa_nil))))
      (pss_cons (ps_if (pt_cmpR op_isN (pv 6) pe_non (nomark _))
      (pss_one (ps_raise rfl (takes_of rfl rfl rfl rfl) (pmk_oex T.oFault T.MFault T.TFault (ok_Fault___init__ T) (hr.mono (by decide)) T.bFault___init__ .nil pass0 (by rfl) T.gFault (pa_cons (pv 2) (pa_cons pe_int (pa_cons pe_str pa_nil))))))
      pss_nil)
      (pss_cons (ps_asg (pv 6) (pg_tup rfl (pgs_cons (pg_name (i := 7) sc_look_at.nd rfl (Or.inl rfl)) (pgs_cons (pg_name (i := 8) sc_look_at.nd rfl (Or.inl rfl)) (pgs_cons (pg_name (i := 9) sc_look_at.nd rfl (Or.inl rfl)) pgs_nil)))))
      (pss_cons (ps_set (i := 10) sc_look_at.nd rfl (Or.inl rfl) (pe_make T.MRequest (ok_Request___init__ T) (hr.mono (by decide)) rfl T.gRequest T.bRequest___init__ .nil pass0 (pa_cons (pv 2) (pa_cons (pv 5) (pa_cons (pv 7) (pa_cons (pe_call (ok__arguments T) (hr.mono (by decide)) rfl T.g_arguments T.k_arguments T.b_arguments .nil (passes_call (takes_of rfl rfl rfl rfl) (fun _ _ _ _ h => h)) (pa_cons (pv 2) (pa_cons (pv 8) (pa_cons (pv 4) pa_nil)))) (pa_cons (pv 9) pa_nil)))))))
      (pss_cons (ps_expr (pe_call (ok__check_named T) (hr.mono (by decide)) rfl T.g_check_named T.k_check_named T.b_check_named .nil (passes_call (takes_of rfl rfl rfl rfl) (fun _ _ _ _ h => h)) (pa_cons (pv 0) (pa_cons (pv 10) (pa_cons (pv 8) pa_nil)))))
      (pss_cons (ps_expr (pe_call (ok__check_new T) (hr.mono (by decide)) rfl T.g_check_new T.k_check_new T.b_check_new .nil (passes_call (takes_of rfl rfl rfl rfl) (fun _ _ _ _ h => h)) (pa_cons (pv 0) (pa_cons (pv 10) pa_nil))))
      (pss_one (ps_ret (pv 10)))))))))))), ?_⟩
    refine ⟨_, rfl, mt, _, rfl, qm, rfl, _, _, rfl, _, _, rfl, _, _, rfl, rfl, ?_⟩
    walk_at "gf"
    refine ⟨o, d, rs, nm, n, rfl, O, ?_⟩
    cases hfi : find rs n with
    | none =>
      walk_at "gf"
      exact ⟨by show 3 ≤ 1000; decide, (qn hfi).go (Same.refl _)⟩
    | some i =>
    obtain ⟨ar, rows, L⟩ := ql i hfi
    obtain ⟨ar', zs, e0, qs, ds⟩ := dp_tuple (L.dp H)
    cases e0
    have lzs : zs.length = rows.length := by rw [dpall_len ds, List.length_map]
    walk_at "gf"
    refine ⟨i, ar, zs, op, rfl, L.sr, L.kd, qs, fun H2 s2 => ⟨fun j z' hk' hz' => ?_, fun hc => ?_⟩⟩
    · have hj : j < rows.length := by have := (List.getElem?_eq_some_iff.mp hz').1; omega
      have hrow := List.getElem?_eq_getElem hj
      generalize rows[j] = row at hrow
      obtain ⟨z, hz, dz⟩ := dpall_get' ds (i := j) (d := .tuple [.str row.1, .tuple (row.2.1.map PyData.str), .bool row.2.2]) (by rw [List.getElem?_map, hrow]; rfl)
      obtain ⟨pt, ws, rfl, qw, dw⟩ := dp_tuple dz
      obtain rfl : V.ref pt = z' := Option.some.inj (hz.symm.trans hz')
      obtain ⟨R, qe, qv⟩ := L.row j row hk' hrow
      cases dw with
      | cons w1 w2 => cases w2 with
        | cons w2 w3 => cases w3 with
          | cons w3 w4 =>
            cases w4
            obtain rfl := dp_str w1
            obtain rfl := dp_bool w3
            obtain ⟨pk, ks, rfl, qk, dk⟩ := dp_tuple w2
            obtain rfl := dpall_strs dk
            have qw2 := s2.sqt qw
            have qk2 := s2.sqt qk
            have O2 := O.same s2
            obtain ⟨dxo2, eo2⟩ := O2.ob
            walk_at "gf"
            refine ⟨n, pk, b, row.2.1, xs, rfl, qk2, R.pl, R.s1, hS.to s2, fun vals hok la us H3 s3 e3 v3 => ?_, fun e he => (qe e he).to s2⟩
            obtain ⟨hvl, hfit, qf, qg⟩ := qv vals hok
            refine ⟨_, rfl, ?_⟩
            intro r dx hr0 hdx hne
            refine ⟨r, dx, n, i, row.1, .ref la, row.2.2, rfl, upd_same, fun H4 e4 k4 => ⟨rfl, ?_⟩⟩
            have s34 : Same H3 H4 := fun z u e => by
              have z1 : z ≠ r := ne_of_none e hr0
              rw [k4 z z1, upd_ne z1, upd_ne (ne_of_none e hdx)]; exact e
            have s24 := s3.trans s34
            have s4 := s2.trans s24
            have O4 := O2.same s24
            have rq4 : ReqAt A.CRequest H4 r la n i row.1 row.2.2 := ⟨⟨dx, e4⟩⟩
            obtain ⟨dxo4, eo4⟩ := O4.ob
            have hlu : us.length = row.2.1.length := by rw [v3.1, hvl]
            have nml : (nmsOf rs row.2.1 vals).length = row.2.1.length := by unfold nmsOf; rw [List.length_map, List.length_zip, hvl]; omega
            walk_at "gf"
            refine ⟨o, r, d, la, pk, n, nm, i, row.1, row.2.2, rs, row.2.1, us, nmsOf rs row.2.1 vals, rfl, rq4, O4, s24.sqt qk2, s34 _ _ e3, hlu, nml, R.s1, R.s2, fun k p v z hp hv hz => ?_, fun hnn H5 s5 => ?_, fun c wd hc => (qf c wd hc).to s4⟩
            · obtain ⟨x, hx, ax⟩ := v3.2 k v hv
              unfold nmsOf at hz
              rw [List.getElem?_map, show (row.2.1.zip vals)[k]? = some (p, x) from List.getElem?_zip_eq_some.mpr ⟨hp, hx⟩] at hz
              obtain rfl := Option.some.inj hz
              exact nmA_of (hfit k p x hp hx) (ax.to s34)
            · obtain ⟨q6, qq⟩ := qg hnn
              have O5 := O4.same s5
              have s35 := s34.trans s5
              have s5' := s4.trans s5
              have rq5 : ReqAt A.CRequest H5 r la n i row.1 row.2.2 := ⟨⟨dx, s5 _ _ e4⟩⟩
              obtain ⟨dxo5, eo5⟩ := O5.ob
              have pre := R.pre rq5 (s35 _ _ e3) (v3.to s35) hvl hfit
              walk_at "gf"
              refine ⟨o, r, d, n, nm, rs, _, rfl, pre, O5, fun hno H6 s6 => ?_, fun a b' hab => ?_⟩
              · walk_at "gf"
                rw [findSome_mkV] at hno
                exact qq (fun m s h => by rw [h] at hno; cases hno) _ _ (s5'.trans s6)
              · rw [findSome_mkV] at hab
                obtain ⟨⟨m, sx⟩, h1, h2⟩ := Option.map_eq_some_iff.mp hab
                cases h2
                refine ⟨m, rfl, fun h => (q6 m sx h1 h).to s5', fun _ h => absurd h (by omega), fun hg _ H6 s6 => ?_⟩
                walk_at "gf"
                exact qq (fun m' s' h' => by rw [h1] at h'; cases h'; exact hg) _ _ (s5'.trans s6)
    · have hov : (rows.length : Int) ≤ op := by omega
      walk_at "gf"
      exact ⟨by show 3 ≤ 1000; decide, (L.over hov).go s2⟩
section
/-! ### x in t, t a tuple of data (our own rule, along the library's for lists) -/
open PySem PySem.Spec PyProof.Rows
def rInDT (K : PySem.W.Frag) : R2 := fun x y H Q => ∃ d ds, Dp K H x d ∧ Dp K H y (.tuple ds) ∧ SeqAt.shaped d = true ∧ SeqAt.shaped (.tuple ds) = true ∧ Q (.bl (ds.any fun z => PyData.eqv z d)) H
theorem op_inDT {X : Cx} (hu : X.A.units + 65 < cLine) : OpR X (compareOp .In) (rInDT X.K) := by
  intro pins s σ H x y v u Q I rx ry h
  obtain ⟨d, ds, hd, he, sd, se, q⟩ := h
  obtain ⟨as, r1⟩ := Dp.reads I d x v hd rx
  obtain ⟨bs, r2⟩ := Dp.reads I (.tuple ds) y u he ry
  exact SeqAt.in_tuple_reads r2 r1 (SeqAt.canLay_of_shaped se) (SeqAt.canLay_of_shaped sd) (room_in_shaped sd hu) ⟨.bl _, H, I, rfl, q⟩
theorem room65 {k : Nat} {A : Around} (r : Room (k + 1) A) : A.units + 65 < cLine := by have := r.un; omega
end
/-! ### comprehensions that keep items -/
/-- a comprehension that keeps some of a list's items, whatever they are -/
theorem lc_keep {K : PySem.W.Frag} {a : Addr} {xs : List V} {α : Type} (zs : List α) (f : α → V) (p : α → Bool) {H0 : Hp} {D : Addr} {g : TG} {tt : TT} {te : TE} {vs : List Nat} {σ : St} {Qd : Hp → Prop} (σ0 : St) (hσ : wipe σ vs = σ0) (hD : H0 D = none) (e : H0 a = some (.lst xs)) (hx : xs = zs.map f) (hn : zs.length < 100000)
    (hs : ∀ (i : Nat) (z : α) (H : Hp), zs[i]? = some z → (∀ b, b ≠ D → H b = H0 b) → ∀ (Qy : VK) (Qn : Hp → Prop), (p z = true → Qy (f z) H) → (p z = false → Qn H) →
      g (f z) σ0 H fun σ2 H2 => wipe σ2 vs = σ0 ∧ tt σ2 H2 fun b H3 => if b = true then te σ2 H3 Qy else Qn H3)
    (hd : ∀ H, H D = some (.lst ((zs.filter p).map f)) → (∀ b, b ≠ D → H b = H0 b) → Qd H) :
    ∃ W : Nat → Nat → Hp → Prop, (∃ m, W 0 m (upd H0 D (.lst []))) ∧ ∀ i m H, W i m H →
      ((Itl K a).stop i H ∧ Qd H) ∨ ((Itl K a).go i H ∧ ∃ Nx : Hp → Prop, (∀ H', Nx H' → ∃ m', m' < m ∧ W (i + 1) m' H') ∧ ∀ x H', (Itl K a).yld i H x H' → g x (wipe σ vs) H' fun σ2 H2 => wipe σ2 vs = wipe σ vs ∧ tt σ2 H2 fun b H3 =>
        if b = true then te σ2 H3 fun y H4 => ∃ acc, H4 D = some (.lst acc) ∧ acc.length < sizeLine ∧ Nx (upd H4 D (.lst (acc ++ [y]))) else Nx H3) := by
  subst hσ
  have haD : a ≠ D := fun z => by rw [← z, e] at hD; cases hD
  refine lc_it (walk_list (K := K) (a := a) (xs := xs)) (fun i H => H D = some (.lst (((zs.take i).filter p).map f)) ∧ ∀ b, b ≠ D → H b = H0 b) ⟨upd_same, fun b hb => upd_ne hb⟩ (fun i H _ ⟨_, h⟩ => SqL.of ((h a haD).trans e)) (fun i x H H' hi ⟨h1, h2⟩ y => ?_) (fun H ⟨h1, h2⟩ => ?_)
  · obtain ⟨rfl, hy⟩ := y
    rw [hx, List.getElem?_map] at hy
    obtain ⟨z, hz, rfl⟩ := Option.map_eq_some_iff.mp hy
    have htk : zs.take (i + 1) = zs.take i ++ [z] := by
      obtain ⟨g1, g2⟩ := List.getElem?_eq_some_iff.mp hz
      rw [List.take_succ_eq_append_getElem g1, g2]
    refine hs i z H' hz h2 _ _ (fun hp => ⟨_, h1, ?_, ?_, fun b hb => (upd_ne hb).trans (h2 b hb)⟩) (fun hp => ⟨?_, h2⟩)
    · refine lt_line (Nat.lt_of_le_of_lt ?_ hn)
      rw [List.length_map]
      exact Nat.le_trans (List.length_filter_le _ _) (by rw [List.length_take]; omega)
    · rw [upd_same, htk, List.filter_append, List.filter_cons_of_pos hp, List.map_append]; rfl
    · rw [htk, List.filter_append, List.filter_cons_of_neg (by rw [hp]; exact fun z => by cases z), List.filter_nil, List.append_nil]; exact h1
  · rw [hx, List.length_map, List.take_length] at h1
    exact hd H h1 h2
/-! ### the law's world, what it picks and what is free -/
theorem findO_none {rs : List ORow} {n : Int} (h : ∀ r ∈ rs, r.1 ≠ n) : find rs n = none := by
  unfold find
  rw [List.find?_eq_none.mpr fun r hr => by simpa using h r hr]; rfl
theorem find_mem {rs : List ORow} {n : Int} {i : Str} (h : find rs n = some i) : (n, i) ∈ rs := by
  unfold find at h
  obtain ⟨r, hr, rfl⟩ := Option.map_eq_some_iff.mp h
  have h1 := List.mem_of_find?_eq_some hr
  have h2 := List.find?_some hr
  have : r.1 = n := of_decide_eq_true h2
  subst this; exact h1
theorem find_some {rs : List ORow} (hn : (rs.map Prod.fst).Nodup) {r : ORow} (h : r ∈ rs) : find rs r.1 = some r.2 := by
  induction rs with
  | nil => cases h
  | cons a t ih =>
    rw [find_cons]
    rw [List.map_cons, List.nodup_cons] at hn
    rcases List.mem_cons.mp h with rfl | h
    · rw [if_pos rfl]
    · rw [if_neg (fun z => hn.1 (by rw [z]; exact List.mem_map_of_mem h))]
      exact ih hn.2 h
def tabNames12 : List Str := tab.map fun t => t.1
structure WorldOk (rs : List ORow) : Prop where
  ne : rs ≠ []
  ln : rs.length ≤ 40
  nd : (rs.map Prod.fst).Nodup
  rg : ∀ r ∈ rs, 1 ≤ r.1 ∧ r.1 < 4294967296
  nm : ∀ r ∈ rs, r.2 ∈ tabNames12
  no : ∀ r ∈ rs, r.1 ≠ 987654
structure WInv (i : Nat) (rs : List ORow) (nm number : Int) : Prop where
  ln : rs.length = i + 1
  nd : (rs.map Prod.fst).Nodup
  ks : ∀ r ∈ rs, (1 ≤ r.1 ∧ r.1 < number) ∨ (4278190080 ≤ r.1 ∧ r.1 < nm)
  nb : 2 ≤ number ∧ number ≤ 2 + 3 * (i : Int)
  mb : 4278190080 ≤ nm ∧ nm ≤ 4278190080 + (i : Int)
  nn : ∀ r ∈ rs, r.2 ∈ tabNames12
theorem WInv.start : WInv 0 [(1, "display")] 4278190080 2 := by
  refine ⟨rfl, by simp, fun r hr => ?_, by omega, by omega, fun r hr => ?_⟩
  · rw [List.mem_singleton.mp hr]; exact .inl ⟨by decide, by decide⟩
  · rw [List.mem_singleton.mp hr]; decide +kernel
theorem nodup_snoc {rs : List ORow} {n : Int} {z : Str} (h : (rs.map Prod.fst).Nodup) (hn : ∀ r ∈ rs, r.1 ≠ n) : ((rs ++ [(n, z)]).map Prod.fst).Nodup := by
  rw [List.map_append]
  refine List.nodup_append.mpr ⟨h, by simp, fun a ha b hb => ?_⟩
  obtain ⟨r, hr, rfl⟩ := List.mem_map.mp ha
  have : b = n := by simpa using hb
  rw [this]; exact hn r hr
theorem WInv.make {i : Nat} {rs : List ORow} {nm number : Int} {z : Str} (h : WInv i rs nm number) (hi : i ≤ 40) (hz : z ∈ tabNames12) : find rs nm = none ∧ WInv (i + 1) (rs ++ [(nm, z)]) (nm + 1) number := by
  have hn : ∀ r ∈ rs, r.1 ≠ nm := fun r hr => by
    have := h.ks r hr; have := h.nb; have := h.mb; omega
  have h1 := h.nb
  have h2 := h.mb
  refine ⟨findO_none hn, by rw [List.length_append, h.ln]; rfl, nodup_snoc h.nd hn, fun r hr => ?_, by omega, by omega, fun r hr => ?_⟩
  · rcases List.mem_append.mp hr with hr | hr
    · have := h.ks r hr; omega
    · rw [List.mem_singleton.mp hr]; exact .inr ⟨h.mb.1, by show nm < nm + 1; omega⟩
  · rcases List.mem_append.mp hr with hr | hr
    · exact h.nn r hr
    · rw [List.mem_singleton.mp hr]; exact hz
theorem WInv.give {i : Nat} {rs : List ORow} {nm number c : Int} {z : Str} (h : WInv i rs nm number) (hi : i ≤ 40) (hc : 0 ≤ c ∧ c ≤ 2) (hz : z ∈ tabNames12) : find rs number = none ∧ WInv (i + 1) (rs ++ [(number, z)]) nm (number + 1 + c) := by
  have hn : ∀ r ∈ rs, r.1 ≠ number := fun r hr => by
    have := h.ks r hr; have := h.nb; have := h.mb; omega
  have h1 := h.nb
  have h2 := h.mb
  refine ⟨findO_none hn, by rw [List.length_append, h.ln]; rfl, nodup_snoc h.nd hn, fun r hr => ?_, by omega, by omega, fun r hr => ?_⟩
  · rcases List.mem_append.mp hr with hr | hr
    · have := h.ks r hr; omega
    · rw [List.mem_singleton.mp hr]; exact .inl ⟨by show 1 ≤ number; omega, by show number < number + 1 + c; omega⟩
  · rcases List.mem_append.mp hr with hr | hr
    · exact h.nn r hr
    · rw [List.mem_singleton.mp hr]; exact hz
theorem WInv.done {i : Nat} {rs : List ORow} {nm number : Int} (h : WInv i rs nm number) (hi : i ≤ 33) : WorldOk rs := by
  have h1 := h.nb
  have h2 := h.mb
  refine ⟨fun z => ?_, by rw [h.ln]; omega, h.nd, fun r hr => ?_, h.nn, fun r hr => ?_⟩
  · have := h.ln; rw [z] at this; cases this
  · have := h.ks r hr; omega
  · have := h.ks r hr; omega
def sp__law_world (A : Adr) (K : PySem.W.Frag) : Sp := fun vs H Q _ => ∃ (a : Addr) (ns : List Int) (shift : Nat), vs = [.ref a, .int (shift : Int)] ∧ SqL K H a (ns.map V.int) ∧ ∀ o d rs nm H', Same H H' → ObjAt A.CObjects H' o d rs nm → WorldOk rs → Q (.ref o) H'
theorem sc__law_world : FnScope ["script", "shift", "objects", "names", "row", "number", "k"] ["script", "shift"] (defScope s__law_world) := ⟨rfl, rfl, rfl, by decide +kernel, rfl, by decide +kernel, by decide +kernel⟩
theorem ok__law_world (T : Txt0 P K mg A) : FnOk P w K mg base CX0 3 A.f_law_world A.d_law_world ["script", "shift"] (sp__law_world A K) := by
  refine T.F_law_world.ok sc__law_world (fun vs H Q E h => ?_) (fun cdv Ar outer st H vs Q E hr h => ?_)
  · obtain ⟨_, _, _, rfl, _⟩ := h
    rfl
  · obtain ⟨a, ns, shift, rfl, hS, q⟩ := h
    refine ⟨_, (pss_cons (ps_set (i := 2) sc__law_world.nd rfl (Or.inl rfl) (pe_make0 T.MObjects (ok_Objects___init__ T) (hr.mono (by decide)) rfl T.gObjects T.bObjects___init__ .nil pass0))
      (pss_cons (ps_setLc (i := 3) (own := [("row", 4)]) (g := (gName 4)) (tt := tYes) rfl sc__law_world.nd rfl rfl (sw_true rfl rfl rfl (by decide +kernel)) (pi_list (pe_call0 (ok__law_table T) (hr.mono (by decide)) rfl T.g_law_table T.k_law_table T.b_law_table .nil pass0)) (blkOk_by (own := [("row", 4)]) (N := ["script", "shift", "objects", "names", "row", "number", "k"]) (sc := defScope s__law_world) (by decide +kernel)) (fun _ _ _ _ _ => (pg_name (i := 4) sc__law_world.nd rfl (Or.inl rfl))) (fun _ _ _ _ _ => pts_nil) (fun _ _ _ _ _ => by exact (pe_ix (r := rIxT K) ix_tup (pv 4) pe_int (fun _ _ => rfl))))
      (pss_cons (ps_set (i := 5) sc__law_world.nd rfl (Or.inl rfl) pe_int)
      (pss_cons (ps_for PassesOwn.never rfl (pi_range1 (by rfl) T.range (pa_cons (pe_op op_add pe_int (pe_op op_mod (pe_callTy call_int1 (by rfl) T.int (by decide +kernel) (pa_cons (pe_call (ok__law_row T) (hr.mono (by decide)) rfl T.g_law_row T.k_law_row T.b_law_row .nil pass0 (pa_cons (pv 0) (pa_cons (pv 1) pa_nil))) pa_nil)) pe_int)) pa_nil)) (pg_name (i := 6) sc__law_world.nd rfl (Or.inl rfl))
      (pss_cons (ps_set (i := 4) sc__law_world.nd rfl (Or.inl rfl) (pe_callTy call_int1 (by rfl) T.int (by decide +kernel) (pa_cons (pe_call (ok__law_row T) (hr.mono (by decide)) rfl T.g_law_row T.k_law_row T.b_law_row .nil pass0 (pa_cons (pv 0) (pa_cons (pe_op op_add (pe_op op_add (pv 1) pe_int) (pv 6)) pa_nil))) pa_nil)))
      (pss_one (ps_if (pt_cmpR op_eq (pe_op op_mod (pv 4) pe_int) pe_int (nomark _))
      (pss_one (ps_expr (pe_meth (pv 2) T.clObjects T.mObjects_make (ok_Objects_make T) (hr.mono (by decide)) T.bObjects_make .nil pass0 (pa_cons (pe_ix (r := rIxL K) ix_list (pv 3) (pe_op op_mod (pe_op op_fdiv (pv 4) pe_int) (pe_callB call_len_seq (by rfl) T.len PySem.boot_len (pa_cons (pv 3) pa_nil))) (fun _ _ => rfl)) pa_nil))))
      (pss_cons (ps_expr (pe_meth (pv 2) T.clObjects T.mObjects_give (ok_Objects_give T) (hr.mono (by decide)) T.bObjects_give .nil pass0 (pa_cons (pv 5) (pa_cons (pe_ix (r := rIxL K) ix_list (pv 3) (pe_op op_mod (pe_op op_fdiv (pv 4) pe_int) (pe_callB call_len_seq (by rfl) T.len PySem.boot_len (pa_cons (pv 3) pa_nil))) (fun _ _ => rfl)) pa_nil))))
      (pss_one (ps_set (i := 5) sc__law_world.nd rfl (Or.inl rfl) (pe_op op_add (pe_op op_add (pv 5) pe_int) (pe_op op_mod (pe_op op_fdiv (pv 4) pe_int) pe_int)))))))))
      (pss_one (ps_ret (pv 2))))))), ?_⟩
    intro o dx ho hdx hne
    refine ⟨o, dx, rfl, upd_same, fun d H1 O hd b1 => ⟨rfl, ?_⟩⟩
    have ho' : H o = none := ho
    have s1 : Same H H1 := fun b u e => b1 b u (by rw [upd_ne (ne_of_none e ho), upd_ne (ne_of_none e hdx)]; exact e) (ne_of_none e ho)
    have hd0 : H d = none := by
      have h1 : d ≠ o := fun z => by rw [z, upd_same] at hd; cases hd
      rw [upd_ne h1] at hd
      have h2 : d ≠ dx := fun z => by rw [z, upd_same] at hd; cases hd
      rw [upd_ne h2] at hd; exact hd
    clear b1 hd
    refine ⟨H1, rfl, Same.refl _, fun p U2 H2 x2 dt => ?_⟩
    obtain ⟨p', ts, e0, qt, dts⟩ := dp_list dt
    cases e0
    have lts : ts.length = tab.length := by rw [dpall_len dts, List.length_map]
    have ltab : tab.length = 23 := by unfold tab; rw [List.length_map]; decide +kernel
    refine ⟨p, rfl, ⟨_, x2.vh.seq qt⟩, fun D hD => ?_⟩
    refine lc_dp (walk_list (K := K) (a := p) (xs := ts)) (K := K) (V0 := U2) (H0 := H2) (fun i => (tab[i]?).map fun t => PyData.str t.1) _ rfl x2.vh hD (by omega) (fun H' s => s.seq (x2.vh.seq qt)) (fun i x H H' y => y.1) ?_ ?_
    · rintro i v U H3 hi xx ⟨_, hv⟩ Qy Qn hy _
      obtain ⟨dd, hdd, dv⟩ := dpall_get dts hv
      rw [List.getElem?_map] at hdd
      obtain ⟨t, ht, rfl⟩ := Option.map_eq_some_iff.mp hdd
      obtain ⟨pt, ws, rfl, qw, dw⟩ := dp_tuple dv
      cases dw with
      | cons w1 w2 =>
        obtain rfl := dp_str w1
        refine ⟨rfl, _, rfl, pt, _, _, _, rfl, rfl, xx.hh.sqt (x2.vh.sqt qw), atI_nat (j := 0) rfl, ?_⟩
        exact hy _ _ _ _ (by rw [ht]; rfl) (Ext.refl xx.vh) (.str _)
    · rintro U H3 ys xx hDU dA dl
      rw [lts, fm_map] at dA
      have hys : ys = tabNames12.map V.str := dpall_strs (by unfold tabNames12; rw [List.map_map]; exact dA)
      have eD : H3 D = some (.lst (tabNames12.map V.str)) := by rw [← hys]; exact xx.vh _ _ hDU
      have s3 : Same H1 H3 := x2.hh.trans xx.hh
      have O3 := O.same s3
      have lnm : tabNames12.length = 23 := by unfold tabNames12; rw [List.length_map]; exact ltab
      clear dt qt dts dA dl hDU
      walk_at "go"
      refine ⟨a, ns, shift, rfl, (s1.trans s3).seq hS, ?_⟩
      generalize lawRow ns shift = r0
      walk_at "go"
      obtain ⟨m, hm, em⟩ : ∃ m : Nat, m ≤ 33 ∧ 3 + r0 % 30 = (m : Int) := ⟨(3 + r0 % 30).toNat, by omega, by omega⟩
      rw [em]
      refine ⟨by omega, by omega, for_range (lo := 0) (fun i σ H' => ∃ (v4 v6 : Option V) (number nm : Int) (rs : List ORow), σ = [some (.ref a), some (.int (shift : Int)), some (.ref o), some (.ref D), v4, some (.int number), v6] ∧ Same H H' ∧ ObjAt A.CObjects H' o d rs nm ∧ WInv i rs nm number ∧ H' D = some (.lst (tabNames12.map V.str))) ⟨_, _, 2, _, _, rfl, s1.trans s3, O3, WInv.start, eD⟩ ?_ ?_⟩
      · clear O O3 eD s1 s3 x2 xx
        rintro i σ H4 hi ⟨v4, v6, number, nm, rs, rfl, s4, O4, I, eD4⟩
        have hi' : i ≤ 33 := by omega
        walk_at "go"
        refine ⟨a, ns, shift + 1 + i, by show [V.ref a, V.int ((shift : Int) + 1 + (0 + (i : Int)))] = [V.ref a, V.int ((shift + 1 + i : Nat) : Int)]; rw [Int.zero_add, Int.natCast_add, Int.natCast_add]; rfl, s4.seq hS, ?_⟩
        have h0 := lawRow_nn ns (shift + 1 + i)
        generalize lawRow ns (shift + 1 + i) = row at h0
        have hne1 : D ≠ o := fun z => by obtain ⟨dxo, eo⟩ := O4.ob; rw [z, eo] at eD4; cases eD4
        have hne2 : D ≠ d := fun z => by rw [z, O4.dk] at eD4; cases eD4
        have hlt : (row / 7 % 23).toNat < tabNames12.length := by rw [lnm]; omega
        have hz := List.getElem?_eq_getElem hlt
        have hzm := List.getElem_mem hlt
        generalize tabNames12[(row / 7 % 23).toNat] = z at hz hzm
        have hzi : atI (tabNames12.map V.str) (row / 7 % (((tabNames12.map V.str).length : Nat) : Int)) = some (.str z) := by
          refine at_of (j := (row / 7 % 23).toNat) ?_ (by rw [List.getElem?_map, hz]; rfl)
          rw [List.length_map, lnm]
          show row / 7 % 23 = _
          omega
        have hpos : (0 : Int) < (((tabNames12.map V.str).length : Nat) : Int) := by rw [List.length_map, lnm]; decide
        obtain ⟨dxo, eo⟩ := O4.ob
        have hll : rs.length < 90000 := by rw [I.ln]; omega
        walk_at "go"
        refine iteEq (fun h => ?_) (fun h => ?_)
        · obtain ⟨f1, I1⟩ := I.make (z := z) (by omega) hzm
          walk_at "gf"
          refine ⟨D, _, _, _, rfl, rfl, SqL.of eD4, hzi, ?_⟩
          refine ⟨o, d, rs, nm, z, rfl, O4, f1, hll, fun H5 O5 b5 => ?_⟩
          exact ⟨_, _, number, _, _, rfl, fun b u e => b5 b u (s4 b u e) (fun z => z.elim (ne_of_none e hd0) (ne_of_none e ho')), O5, I1, b5 D _ eD4 (fun z => z.elim hne2 hne1)⟩
        · obtain ⟨f1, I1⟩ := I.give (z := z) (c := row / 200 % 3) (by omega) (by omega) hzm
          walk_at "gf"
          refine ⟨D, _, _, _, rfl, rfl, SqL.of eD4, hzi, ?_⟩
          refine ⟨o, d, rs, nm, number, z, rfl, O4, f1, hll, fun H5 O5 b5 => ?_⟩
          walk_at "gf"
          exact ⟨_, _, _, _, _, rfl, fun b u e => b5 b u (s4 b u e) (ne_of_none e hd0), O5, I1, b5 D _ eD4 hne2⟩
      · rintro σ H4 ⟨v4, v6, number, nm, rs, rfl, s4, O4, I, eD4⟩
        exact ⟨_, rfl, q o d rs nm H4 s4 O4 (I.done (by omega))⟩
def sp__law_pick (A : Adr) (K : PySem.W.Frag) : Sp := fun vs H Q _ => ∃ (o d pw : Addr) (rs : List ORow) (nm row : Int) (ws : List Str), vs = [.ref o, .ref pw, .int row] ∧ ObjAt A.CObjects H o d rs nm ∧ SqL K H pw (ws.map V.str) ∧ WorldOk rs ∧ (∀ H', Same H H' → Q .non H') ∧ (∀ n i H', find rs n = some i → i ∈ ws → Same H H' → Q (.int n) H')
def inW (rs : List ORow) (ws : List Str) (n : Int) : Bool := match find rs n with
  | some i => decide (i ∈ ws)
  | none => false
theorem sc__law_pick : FnScope ["objects", "wanted", "row", "fitting", "n"] ["objects", "wanted", "row"] (defScope s__law_pick) := ⟨rfl, rfl, rfl, by decide +kernel, rfl, by decide +kernel, by decide +kernel⟩
theorem ok__law_pick (T : Txt0 P K mg A) : FnOk P w K mg base CX0 2 A.f_law_pick A.d_law_pick ["objects", "wanted", "row"] (sp__law_pick A K) := by
  refine T.F_law_pick.ok sc__law_pick (fun vs H Q E h => ?_) (fun cdv Ar outer st H vs Q E hr h => ?_)
  · obtain ⟨_, _, _, _, _, _, _, rfl, _⟩ := h
    rfl
  · obtain ⟨o, d, pw, rs, nm, row, ws, rfl, O, hw, W, q1, q2⟩ := h
    refine ⟨_, (pss_cons (ps_setLc (i := 3) (own := [("n", 4)]) (g := (gName 4)) rfl sc__law_pick.nd rfl rfl (sw_true rfl rfl rfl (by decide +kernel)) (pi_list (pe_meth0 (pv 0) T.clObjects T.mObjects_numbers (ok_Objects_numbers T) (hr.mono (by decide)) T.bObjects_numbers .nil pass0)) (blkOk_by (own := [("n", 4)]) (N := ["objects", "wanted", "row", "fitting", "n"]) (sc := defScope s__law_pick) (by decide +kernel)) (fun _ _ _ _ _ => (pg_name (i := 4) sc__law_pick.nd rfl (Or.inl rfl))) (fun _ _ _ _ _ => (pts_one (pt_cmpR (r := rIn K false) op_in_seq (pe_meth (pv 0) T.clObjects T.mObjects_interface_of (ok_Objects_interface_of T) (hr.mono (by decide)) T.bObjects_interface_of .nil pass0 (pa_cons (pv 4) pa_nil)) (pv 1) (by rfl)))) (fun _ _ _ _ _ => by exact (pv 4)))
      (pss_cons (ps_if (pt_cmpR (op_eqD hr.units) (pv 3) (pe_lst pa_nil) (nomark _))
      (pss_one (ps_ret pe_non))
      pss_nil)
      (pss_one (ps_ret (pe_ix (r := rIxL K) ix_list (pv 3) (pe_op op_mod (pe_callTy call_int1 (by rfl) T.int (by decide +kernel) (pa_cons (pv 2) pa_nil)) (pe_callB call_len_seq (by rfl) T.len PySem.boot_len (pa_cons (pv 3) pa_nil))) (fun _ _ => rfl)))))), ?_⟩
    obtain ⟨dxo, eo⟩ := O.ob
    walk_at "gf"
    refine ⟨o, d, rs, nm, rfl, O, fun p H1 nl => ?_⟩
    have O1 := O.same nl.same
    obtain ⟨dxo1, eo1⟩ := O1.ob
    refine ⟨p, rfl, ⟨_, SqL.of nl.at_⟩, fun D hD => ?_⟩
    have lk : (rs.map fun r => r.1).length < 100000 := by rw [List.length_map]; have := W.ln; omega
    refine lc_keep (K := K) (a := p) (rs.map fun r => r.1) V.int (inW rs ws) _ rfl hD nl.at_ rfl lk ?_ ?_
    · rintro i n H2 hn k2 Qy Qn hy hno
      have e2 : ∀ b u, H1 b = some u → H2 b = some u := fun b u e => (k2 b (ne_of_none e hD)).trans e
      have O2 := O1.same e2
      obtain ⟨r, hr, rfl⟩ := List.mem_map.mp (List.mem_of_getElem? hn)
      have hf := find_some W.nd hr
      refine ⟨rfl, _, rfl, o, dxo1, _, rfl, e2 _ _ eo1, oF_no _ _ (by decide +kernel) (by decide +kernel), _, rfl, o, d, rs, nm, r.1, rfl, O2, ?_⟩
      rw [hf]
      refine ⟨_, rfl, pw, _, rfl, .inl (Same.seq e2 (nl.same.seq hw)), rfl, flat_strs _, _, rfl, ?_⟩
      have ein : inV (.str r.2) (ws.map V.str) = inW rs ws r.1 := by
        unfold inW
        rw [hf, inV_strs]
      cases hb : inW rs ws r.1 with
      | true =>
        refine if_t (show inV (.str r.2) (ws.map V.str) = true by rw [ein, hb]) ?_
        exact ⟨_, rfl, hy hb⟩
      | false =>
        exact if_f (show inV (.str r.2) (ws.map V.str) = false by rw [ein, hb]) (hno hb)
    · intro H2 eD k2
      have e2 : Same H1 H2 := fun b u e => (k2 b (ne_of_none e hD)).trans e
      have s2 := nl.same.trans e2
      have eD' : H2 D = some (.lst (((rs.map fun r => r.1).filter (inW rs ws)).map V.int)) := eD
      have hin : ∀ n ∈ (rs.map fun r => r.1).filter (inW rs ws), ∃ i, find rs n = some i ∧ i ∈ ws := fun n hn => by
        have h := (List.mem_filter.mp hn).2
        unfold inW at h
        cases e : find rs n with
        | none => rw [e] at h; cases h
        | some i => rw [e] at h; exact ⟨i, rfl, of_decide_eq_true h⟩
      generalize (rs.map fun r => r.1).filter (inW rs ws) = fs at eD' hin
      clear eD k2
      walk_at "gf"
      rename_i p2 hp2
      have s3 := same_upd (o := .lst []) hp2
      refine t_eq (d := pInts fs) (e := pInts []) (dp_ints (SqL.of (s3 _ _ eD'))) (.lst (SqL.of upd_same) .nil) (sh_ints _).shaped (sh_ints []).shaped ⟨_, rfl, ?_⟩
      cases fs with
      | nil =>
        refine if_t (sh_ints []).self ?_
        exact q1 _ (s2.trans s3)
      | cons f fs =>
        refine if_f (by unfold pInts; simp [PyData.eqv, PyData.eqvAll]) ?_
        walk_at "gf"
        have hlt : (row % (((f :: fs).length : Nat) : Int)).toNat < (f :: fs).length := by
          have : (0 : Int) < (((f :: fs).length : Nat) : Int) := by rw [List.length_cons]; omega
          have h1 := Int.emod_nonneg row (show (((f :: fs).length : Nat) : Int) ≠ 0 by omega)
          have h2 := Int.emod_lt_of_pos row this
          omega
        have hx := List.getElem?_eq_getElem hlt
        have hxm := List.getElem_mem hlt
        generalize (f :: fs)[(row % (((f :: fs).length : Nat) : Int)).toNat] = x at hx hxm
        obtain ⟨i, h1, h2⟩ := hin x hxm
        refine ⟨by show (0 : Int) < _; rw [List.length_map, List.length_cons]; omega, D, _, _, .int x, rfl, rfl, SqL.of (s3 _ _ eD'), at_of (j := (row % (((f :: fs).length : Nat) : Int)).toNat) ?_ (by rw [List.getElem?_map, hx]; rfl), ?_⟩
        · rw [List.length_map]
          have h1 := Int.emod_nonneg row (show (((f :: fs).length : Nat) : Int) ≠ 0 by rw [List.length_cons]; omega)
          show row % _ = _
          omega
        · exact q2 x i _ h1 h2 (s2.trans s3)
def sp__law_free (A : Adr) (K : PySem.W.Frag) : Sp := fun vs H Q _ => ∃ (o d : Addr) (rs : List ORow) (nm row : Int), vs = [.ref o, .int row] ∧ ObjAt A.CObjects H o d rs nm ∧ WorldOk rs ∧ ∀ n, mayGive rs n = true → Q (.int n) H
theorem mayGive_false {rs : List ORow} {n : Int} (h : mayGive rs n = false) (hn : 2 ≤ n ∧ n ≤ 4278190079) : n ∈ rs.map Prod.fst := by
  unfold mayGive at h
  rw [decide_eq_true hn, Bool.true_and] at h
  cases e : find rs n with
  | none => rw [e] at h; cases h
  | some i => exact List.mem_map.mpr ⟨_, find_mem e, rfl⟩
theorem few_ints : ∀ (d m : List Int), d.Nodup → (∀ k, k ∈ d → k ∈ m) → d.length ≤ m.length
  | [], m, _, _ => Nat.zero_le _
  | a :: t, m, hd, hm => by
    have h := List.nodup_cons.mp hd
    have ha := hm a List.mem_cons_self
    have ih := few_ints t (m.erase a) h.2 fun k hk => by
      have : k ≠ a := fun z => h.1 (by rw [← z]; exact hk)
      exact (List.mem_erase_of_ne this).mpr (hm k (List.mem_cons_of_mem _ hk))
    have := List.length_pos_of_mem ha
    rw [List.length_erase_of_mem ha] at ih
    rw [List.length_cons]; omega
theorem sc__law_free : FnScope ["objects", "row", "number", "step"] ["objects", "row"] (defScope s__law_free) := ⟨rfl, rfl, rfl, by decide +kernel, rfl, by decide +kernel, by decide +kernel⟩
theorem ok__law_free (T : Txt0 P K mg A) : FnOk P w K mg base CX0 2 A.f_law_free A.d_law_free ["objects", "row"] (sp__law_free A K) := by
  refine T.F_law_free.ok sc__law_free (fun vs H Q E h => ?_) (fun cdv Ar outer st H vs Q E hr h => ?_)
  · obtain ⟨_, _, _, _, _, rfl, _⟩ := h
    rfl
  · obtain ⟨o, d, rs, nm, row, rfl, O, W, q⟩ := h
    obtain ⟨dxo, eo⟩ := O.ob
    refine ⟨_, (pss_cons (ps_set (i := 2) sc__law_free.nd rfl (Or.inl rfl) (pe_op op_add pe_int (pe_op op_mod (pe_callTy call_int1 (by rfl) T.int (by decide +kernel) (pa_cons (pv 1) pa_nil)) pe_int)))
      (pss_cons (ps_for PassesOwn.never rfl (pi_range1 (by rfl) T.range (pa_cons pe_int pa_nil)) (pg_name (i := 3) sc__law_free.nd rfl (Or.inl rfl))
      (pss_one (ps_if (pt_val (pe_meth (pv 0) T.clObjects T.mObjects_may_give (ok_Objects_may_give T) (hr.mono (by decide)) T.bObjects_may_give .nil pass0 (pa_cons (pe_op op_add (pv 2) (pv 3)) pa_nil)))
      (pss_one (ps_ret (pe_op op_add (pv 2) (pv 3))))
      pss_nil)))
      (pss_one (ps_ret (pv 2))))), ?_⟩
    walk_at "go"
    have hb : 2 ≤ 2 + row % 90 ∧ 2 + row % 90 ≤ 91 := by omega
    refine ⟨by decide, by decide, for_range (lo := 0) (fun i σ H' => ∃ (v3 : Option V), σ = [some (.ref o), some (.int row), some (.int (2 + row % 90)), v3] ∧ H' = H ∧ ∀ j : Nat, j < i → mayGive rs (2 + row % 90 + (j : Int)) = false) ⟨_, rfl, rfl, fun j hj => absurd hj (Nat.not_lt_zero _)⟩ ?_ ?_⟩
    · rintro i σ H4 hi ⟨v3, rfl, rfl, hf⟩
      walk_at "gf"
      refine ⟨o, d, rs, nm, 2 + row % 90 + (0 + (i : Int)), rfl, O, _, rfl, ?_⟩
      cases hg : mayGive rs (2 + row % 90 + (0 + (i : Int))) with
      | true =>
        refine if_t rfl ?_
        walk_at "gf"
        exact q _ hg
      | false =>
        refine if_f rfl ?_
        refine ⟨_, rfl, rfl, fun j hj => ?_⟩
        by_cases c : j = i
        · subst c; rw [Int.zero_add] at hg; exact hg
        · exact hf j (by omega)
    · rintro σ H4 ⟨v3, rfl, rfl, hf⟩
      exfalso
      have h1 := few_ints ((List.range 700).map fun j : Nat => 2 + row % 90 + (j : Int)) (rs.map Prod.fst) (by
        refine List.pairwise_map.mpr ((List.nodup_range (n := 700)).imp fun {a b} h => ?_)
        intro z; exact h (by omega)) fun k hk => by
        obtain ⟨j, hj, rfl⟩ := List.mem_map.mp hk
        have hj := List.mem_range.mp hj
        exact mayGive_false (hf j (by show j < (700 : Int).toNat; exact hj)) (by omega)
      rw [List.length_map, List.length_map, List.length_range] at h1
      have := W.ln
      omega
/-! ### what the law puts for an argument -/
def kinds2 : List Str := ["new", "maybe", "object"]
def kinds1 : List Str := ["bound", "text", "octets", "int", "uint"]
def okPart (p : Str) : Bool := decide (p.length ≤ 100) && match spS 32 p with
  | [k] => decide (kinP p = (k, Str.empty)) && decide (k ∈ kinds1)
  | [k, x] => decide (kinP p = (k, x)) && (decide (k ∈ kinds2) && decide (x.length ≤ 100))
  | _ => false
theorem okPart_ex {p : Str} (h : okPart p = true) : p.length ≤ 100 ∧ ((∃ k, spS 32 p = [k] ∧ kinP p = (k, Str.empty) ∧ k ∈ kinds1) ∨ ∃ k x, spS 32 p = [k, x] ∧ kinP p = (k, x) ∧ k ∈ kinds2 ∧ x.length ≤ 100) := by
  unfold okPart at h
  rw [Bool.and_eq_true] at h
  refine ⟨of_decide_eq_true h.1, ?_⟩
  have h2 := h.2
  split at h2
  · rename_i k e
    rw [Bool.and_eq_true] at h2
    exact .inl ⟨k, e, of_decide_eq_true h2.1, of_decide_eq_true h2.2⟩
  · rename_i k x e
    rw [Bool.and_eq_true, Bool.and_eq_true] at h2
    exact .inr ⟨k, x, e, of_decide_eq_true h2.1, of_decide_eq_true h2.2.1, of_decide_eq_true h2.2.2⟩
  · cases h2
theorem split32 (s : Str) : Txt.split s (Str.ofString " ") = spS 32 s := by rw [show Str.ofString " " = ⟨#[32]⟩ from by decide +kernel, split_sp]
structure GoodArg (rs : List ORow) (p : Str) (g : Arg) : Prop where
  kd : g.kind = (kinP p).1
  sp : ArgSpec g.kind g.val true g.os
  ln : g.os.length ≤ 1000
  fit : FitA p g.val
  nm : OkNm rs p g.val
  nw : ∀ m s, newA p g.val = some (m, s) → mayGive rs m = true
theorem spec_true {k : Str} {x : AV} {b : Bool} {os : List Int} (h : ArgSpec k x b os) (e : b = true) : ArgSpec k x true os := by rw [e] at h; exact h
theorem FitA.num {p : Str} (i : Int) (h : (kinP p).1 ≠ Str.ofString "bound") : FitA p (.num i) := ⟨fun _ => ⟨i, rfl⟩, fun z => absurd z h, fun _ => ⟨i, rfl⟩, fun _ => ⟨i, rfl⟩⟩
theorem FitA.free {p : Str} {x : AV} (h1 : (kinP p).1 ≠ Str.ofString "new") (h2 : (kinP p).1 ≠ Str.ofString "bound") (h3 : (kinP p).1 ≠ Str.ofString "object") (h4 : (kinP p).1 ≠ Str.ofString "maybe") : FitA p x := ⟨fun z => absurd z h1, fun z => absurd z h2, fun z => absurd z h3, fun z => absurd z h4⟩
theorem OkNm.free {rs : List ORow} {p : Str} {x : AV} (h3 : (kinP p).1 ≠ Str.ofString "object") (h4 : (kinP p).1 ≠ Str.ofString "maybe") : OkNm rs p x := fun z => z.elim (fun y => absurd y h3) fun y => absurd y.1 h4
theorem newA_none {p : Str} {x : AV} (h1 : (kinP p).1 ≠ Str.ofString "new") (h2 : (kinP p).1 ≠ Str.ofString "bound") : newA p x = none := by unfold newA; rw [if_neg h1, if_neg h2]
theorem good_num {rs : List ORow} {p k : Str} {lo hi i : Int} (hk : (kinP p).1 = k) (nk : NumKind k lo hi) (hi : lo ≤ i ∧ i ≤ hi) (h2 : (kinP p).1 ≠ Str.ofString "bound") (nm : OkNm rs p (.num i)) (nw : ∀ m s, newA p (.num i) = some (m, s) → mayGive rs m = true) : GoodArg rs p ⟨k, .num i, octs (i % 4294967296) 4⟩ :=
  ⟨hk.symm, spec_true (ArgSpec.num nk) (decide_eq_true hi), by show 4 ≤ 1000; decide, FitA.num i h2, nm, nw⟩
theorem mayGive_rg {rs : List ORow} {n : Int} (h : mayGive rs n = true) : 2 ≤ n ∧ n ≤ 4278190079 := by
  unfold mayGive at h
  rw [Bool.and_eq_true] at h
  exact of_decide_eq_true h.1
def GoodV (K : PySem.W.Frag) (rs : List ORow) (p : Str) (U : Hp) (v : V) : Prop := (v = .non ∧ (kinP p).1 ∈ (["maybe", "object"] : List Str)) ∨ ∃ g : Arg, GoodArg rs p g ∧ ArgAt K U v g.val
def txts4 : List Str := ["", "a", "mail box", "~"]
def txtsB : List Str := ["memory", "seat", "output", "x"]
theorem txt_ok : ∀ s ∈ txts4 ++ txtsB, isText s = true ∧ s.length ≤ 100 := by
  have h : (txts4 ++ txtsB).all (fun s => isText s && decide (s.length ≤ 100)) = true := by decide +kernel
  intro s hs
  have := List.all_eq_true.mp h s hs
  rw [Bool.and_eq_true] at this
  exact ⟨this.1, of_decide_eq_true this.2⟩
theorem pick4 {a b c d : V} {x : Int} (h0 : 0 ≤ x) (h1 : x < 4) : ∃ v, v ∈ [a, b, c, d] ∧ atI [a, b, c, d] x = some v := by
  obtain ⟨j, rfl⟩ : ∃ j : Nat, x = (j : Int) := ⟨x.toNat, by omega⟩
  have hj : j < [a, b, c, d].length := by show j < 4; omega
  exact ⟨_, List.getElem_mem hj, atI_nat (List.getElem?_eq_getElem hj)⟩
local macro_rules | `(tactic| walk_at "kg1") => `(tactic| first
  | refine iteStr (fun h => absurd h (by decide +kernel)) (fun _ => ?_)
  | refine iteStr (fun _ => ?_) (fun h => absurd rfl h)
  | walk_at "gf1")
local macro_rules | `(tactic| walk_at "kg") => `(tactic| repeat walk_at "kg1")
def sp__law_argument (A : Adr) (K : PySem.W.Frag) : Sp := fun vs H Q _ => ∃ (o d : Addr) (rs : List ORow) (nm row : Int) (p : Str) (U : Hp), vs = [.ref o, .str p, .int row] ∧ ObjAt A.CObjects H o d rs nm ∧ WorldOk rs ∧ okPart p = true ∧ Same U H ∧ ∀ v U' H', Ext U H U' H' → GoodV K rs p U' v → Q v H'
theorem sc__law_argument : FnScope ["objects", "argument", "row", "words"] ["objects", "argument", "row"] (defScope s__law_argument) := ⟨rfl, rfl, rfl, by decide +kernel, rfl, by decide +kernel, by decide +kernel⟩
theorem ok__law_argument (T : Txt0 P K mg A) : FnOk P w K mg base CX0 3 A.f_law_argument A.d_law_argument ["objects", "argument", "row"] (sp__law_argument A K) := by
  refine T.F_law_argument.ok sc__law_argument (fun vs H Q E h => ?_) (fun cdv Ar outer st H vs Q E hr h => ?_)
  · obtain ⟨_, _, _, _, _, _, _, rfl, _⟩ := h
    rfl
  · obtain ⟨o, d, rs, nm, row, p, U, rfl, O, W, hp, sU, q⟩ := h
    have q0 : ∀ v H', Same H H' → GoodV K rs p U v → Q v H' := fun v H' s g => q v U H' ⟨Same.refl _, sU.trans s, s, fun _ h => .inl h⟩ g
    have qn : ∀ v H1 a x, Same H H1 → H1 a = none → GoodV K rs p (upd U a x) v → Q v (upd H1 a x) := fun v H1 a x s ha g => by
      have x1 : Ext U H U H1 := ⟨Same.refl _, sU.trans s, s, fun _ h => .inl h⟩
      exact q v _ _ (x1.trans (Ext.new x1.vh ha)) g
    obtain ⟨hl, hc⟩ := okPart_ex hp
    refine ⟨_, (pss_cons (ps_set (i := 3) sc__law_argument.nd rfl (Or.inl rfl) (pe_split (pv 1) pe_str))
      (pss_cons (ps_if (pt_cmpR op_eq (pe_ix (r := rIxL K) ix_list (pv 3) pe_int (fun _ _ => rfl)) pe_str (nomark _))
      (pss_one (ps_ret (pe_call (ok__law_free T) (hr.mono (by decide)) rfl T.g_law_free T.k_law_free T.b_law_free .nil pass0 (pa_cons (pv 0) (pa_cons (pv 2) pa_nil)))))
      pss_nil)
      (pss_cons (ps_if (pt_cmpR op_eq (pe_ix (r := rIxL K) ix_list (pv 3) pe_int (fun _ _ => rfl)) pe_str (nomark _))
      (pss_one (ps_ret (pe_tup (pa_cons (pe_ix (r := rIxT K) ix_tup (pe_tup (pa_cons pe_str (pa_cons pe_str (pa_cons pe_str (pa_cons pe_str pa_nil))))) (pe_op op_mod (pe_callTy call_int1 (by rfl) T.int (by decide +kernel) (pa_cons (pv 2) pa_nil)) pe_int) (fun _ _ => rfl)) (pa_cons (pe_call (ok__law_free T) (hr.mono (by decide)) rfl T.g_law_free T.k_law_free T.b_law_free .nil pass0 (pa_cons (pv 0) (pa_cons (pe_op op_fdiv (pv 2) pe_int) pa_nil))) pa_nil)))))
      pss_nil)
      (pss_cons (ps_if (PW.pt (pw_and (pt_cmpR op_eq (pe_ix (r := rIxL K) ix_list (pv 3) pe_int (fun _ _ => rfl)) pe_str (nomark _)) (pw_and1 (pt_cmpR op_eq (pe_op op_mod (pe_callTy call_int1 (by rfl) T.int (by decide +kernel) (pa_cons (pv 2) pa_nil)) pe_int) pe_int (nomark _)))))
      (pss_one (ps_ret pe_int))
      pss_nil)
      (pss_cons (ps_if (pt_cmpR op_eq (pe_callB call_len_seq (by rfl) T.len PySem.boot_len (pa_cons (pv 3) pa_nil)) pe_int (nomark _))
      (pss_one (ps_ret (pe_call (ok__law_pick T) (hr.mono (by decide)) rfl T.g_law_pick T.k_law_pick T.b_law_pick .nil pass0 (pa_cons (pv 0) (pa_cons (pe_split (pe_ix (r := rIxL K) ix_list (pv 3) pe_int (fun _ _ => rfl)) pe_str) (pa_cons (pe_op op_fdiv (pv 2) pe_int) pa_nil))))))
      pss_nil)
      (pss_cons (ps_if (pt_cmpR op_eq (pe_ix (r := rIxL K) ix_list (pv 3) pe_int (fun _ _ => rfl)) pe_str (nomark _))
      (pss_one (ps_ret (pe_ix (r := rIxT K) ix_tup (pe_tup (pa_cons pe_str (pa_cons pe_str (pa_cons pe_str (pa_cons pe_str pa_nil))))) (pe_op op_mod (pe_callTy call_int1 (by rfl) T.int (by decide +kernel) (pa_cons (pv 2) pa_nil)) pe_int) (fun _ _ => rfl))))
      pss_nil)
      (pss_cons (ps_if (pt_cmpR op_eq (pe_ix (r := rIxL K) ix_list (pv 3) pe_int (fun _ _ => rfl)) pe_str (nomark _))
      (pss_one (ps_ret (pe_op op_rep (pe_lst (pa_cons (pe_op op_mod (pe_callTy call_int1 (by rfl) T.int (by decide +kernel) (pa_cons (pe_op op_fdiv (pv 2) pe_int) pa_nil)) pe_int) pa_nil)) (pe_op op_mod (pe_callTy call_int1 (by rfl) T.int (by decide +kernel) (pa_cons (pv 2) pa_nil)) pe_int))))
      pss_nil)
      (pss_cons (ps_if (pt_cmpR op_eq (pe_ix (r := rIxL K) ix_list (pv 3) pe_int (fun _ _ => rfl)) pe_str (nomark _))
      (pss_one (ps_ret (pe_op op_sub (pe_op op_mod (pe_callTy call_int1 (by rfl) T.int (by decide +kernel) (pa_cons (pv 2) pa_nil)) pe_int) pe_int)))
      pss_nil)
      (pss_one (ps_ret (pe_op op_mod (pe_callTy call_int1 (by rfl) T.int (by decide +kernel) (pa_cons (pv 2) pa_nil)) pe_int))))))))))), ?_⟩
    walk_at "go"
    refine ⟨⟨p, rfl⟩, p, _, rfl, rfl, by decide +kernel, szl (by omega), fun pw hpw => ?_⟩
    rw [split32]
    have sw := same_upd (o := .lst ((spS 32 p).map V.str)) hpw
    have ew : (upd H pw (.lst ((spS 32 p).map V.str))) pw = _ := upd_same
    have O1 := O.same sw
    generalize upd H pw (.lst ((spS 32 p).map V.str)) = H1 at sw ew O1 ⊢
    rcases hc with ⟨k, e1, e2, hk⟩ | ⟨k, x, e1, e2, hk, hx⟩
    · rw [e1] at ew
      have ew' : SqL K H1 pw [.str k] := SqL.of ew
      have k1 : (kinP p).1 = k := by rw [e2]
      unfold kinds1 at hk
      simp only [List.mem_cons, List.not_mem_nil, or_false] at hk
      rcases hk with rfl | rfl | rfl | rfl | rfl
      · -- bound
        walk_at "kg"
        rename_i pt hpt
        have s2 := same_upd (o := .tup [.str "memory", .str "seat", .str "output", .str "x"]) hpt
        obtain ⟨v, hv, ha⟩ := pick4 (a := V.str "memory") (b := V.str "seat") (c := V.str "output") (d := V.str "x") (x := row % 4) (by omega) (by omega)
        obtain ⟨z, hz, rfl⟩ : ∃ z, z ∈ txtsB ∧ v = .str z := by
          simp only [List.mem_cons, List.not_mem_nil, or_false] at hv
          rcases hv with rfl | rfl | rfl | rfl <;> exact ⟨_, by unfold txtsB; simp, rfl⟩
        obtain ⟨t1, t2⟩ := txt_ok z (List.mem_append_right _ hz)
        refine ⟨pt, _, _, _, rfl, rfl, SqT.of upd_same, ha, ?_⟩
        walk_at "kg"
        refine ⟨o, d, rs, nm, _, rfl, O1.same s2, W, fun n hn => ?_⟩
        have hrg := mayGive_rg hn
        walk_at "kg"
        rename_i p3 hp3
        have s3 := same_upd (o := .tup [.str z, .int n]) hp3
        refine qn _ _ _ _ (sw.trans s2) hp3 (.inr ⟨⟨"bound", .bnd z n, textOcts z ++ octs n 4⟩, ⟨k1.symm, spec_true ArgSpec.bnd (by rw [t1, decide_eq_true (by omega)]; rfl), ?_, ⟨fun h => absurd (k1.symm.trans h) (by decide +kernel), fun _ => ⟨z, n, rfl⟩, fun h => absurd (k1.symm.trans h) (by decide +kernel), fun h => absurd (k1.symm.trans h) (by decide +kernel)⟩, OkNm.free (by rw [k1]; decide +kernel) (by rw [k1]; decide +kernel), fun m s hm => ?_⟩, ⟨p3, rfl, SqT.of upd_same, by show z.length < 80000; omega⟩⟩)
        · have := textOcts_len z
          show (textOcts z ++ octs n 4).length ≤ 1000
          rw [List.length_append]
          have : (octs n 4).length = 4 := rfl
          omega
        · unfold newA at hm
          rw [if_neg (by rw [k1]; decide +kernel), if_pos k1] at hm
          cases hm; exact hn
      · -- text
        walk_at "kg"
        rename_i pt hpt
        have s2 := same_upd (o := .tup [.str "", .str "a", .str "mail box", .str "~"]) hpt
        obtain ⟨v, hv, ha⟩ := pick4 (a := V.str "") (b := V.str "a") (c := V.str "mail box") (d := V.str "~") (x := row % 4) (by omega) (by omega)
        obtain ⟨z, hz, rfl⟩ : ∃ z, z ∈ txts4 ∧ v = .str z := by
          simp only [List.mem_cons, List.not_mem_nil, or_false] at hv
          rcases hv with rfl | rfl | rfl | rfl <;> exact ⟨_, by unfold txts4; simp, rfl⟩
        obtain ⟨t1, t2⟩ := txt_ok z (List.mem_append_left _ hz)
        refine ⟨pt, _, _, _, rfl, rfl, SqT.of upd_same, ha, ?_⟩
        walk_at "kg"
        refine q0 _ _ (sw.trans s2) (.inr ⟨⟨"text", .txt z, textOcts z⟩, ⟨k1.symm, spec_true ArgSpec.txt t1, ?_, FitA.free (by rw [k1]; decide +kernel) (by rw [k1]; decide +kernel) (by rw [k1]; decide +kernel) (by rw [k1]; decide +kernel), OkNm.free (by rw [k1]; decide +kernel) (by rw [k1]; decide +kernel), fun m s hm => ?_⟩, ⟨rfl, by omega⟩⟩)
        · have := textOcts_len z
          show (textOcts z).length ≤ 1000
          omega
        · rw [newA_none (by rw [k1]; decide +kernel) (by rw [k1]; decide +kernel)] at hm; cases hm
      · -- octets
        walk_at "kg"
        rename_i pt hpt
        have s2 := same_upd (o := .lst [.int (row / 5 % 256)]) hpt
        refine ⟨pt, _, _, rfl, rfl, upd_same, by omega, by omega, len_line (by show 1 * (row % 5).toNat ≤ 100000; omega), fun p3 hp3 => ?_⟩
        rw [rep_flat]
        have s3 := same_upd (o := .lst (List.replicate (row % 5).toNat (V.int (row / 5 % 256)))) hp3
        have hok : octsOk (List.replicate (row % 5).toNat (row / 5 % 256)) = true := by
          unfold octsOk
          rw [Bool.and_eq_true, List.all_eq_true]
          refine ⟨decide_eq_true (by rw [List.length_replicate]; omega), fun z hz => decide_eq_true ?_⟩
          rw [List.eq_of_mem_replicate hz]; omega
        refine qn _ _ _ _ (sw.trans s2) hp3 (.inr ⟨⟨"octets", .oct (List.replicate (row % 5).toNat (row / 5 % 256)), _⟩, ⟨k1.symm, spec_true ArgSpec.oct hok, ?_, FitA.free (by rw [k1]; decide +kernel) (by rw [k1]; decide +kernel) (by rw [k1]; decide +kernel) (by rw [k1]; decide +kernel), OkNm.free (by rw [k1]; decide +kernel) (by rw [k1]; decide +kernel), fun m s hm => ?_⟩, ⟨p3, rfl, by rw [List.map_replicate]; exact upd_same, by rw [List.length_replicate]; omega⟩⟩)
        · show (pad (octs ((List.replicate (row % 5).toNat (row / 5 % 256)).length : Int) 4 ++ List.replicate (row % 5).toNat (row / 5 % 256))).length ≤ 1000
          have := padN_lt (octs ((List.replicate (row % 5).toNat (row / 5 % 256)).length : Int) 4 ++ List.replicate (row % 5).toNat (row / 5 % 256)).length
          rw [pad_len, List.length_append, List.length_replicate] at *
          have : (octs (((row % 5).toNat : Nat) : Int) 4).length = 4 := rfl
          omega
        · rw [newA_none (by rw [k1]; decide +kernel) (by rw [k1]; decide +kernel)] at hm; cases hm
      · -- int
        walk_at "kg"
        exact q0 _ _ sw (.inr ⟨_, good_num k1 NumKind.int (by omega) (by rw [k1]; decide +kernel) (OkNm.free (by rw [k1]; decide +kernel) (by rw [k1]; decide +kernel)) (fun m s hm => by rw [newA_none (by rw [k1]; decide +kernel) (by rw [k1]; decide +kernel)] at hm; cases hm), rfl⟩)
      · -- uint
        walk_at "kg"
        exact q0 _ _ sw (.inr ⟨_, good_num k1 NumKind.uint (by omega) (by rw [k1]; decide +kernel) (OkNm.free (by rw [k1]; decide +kernel) (by rw [k1]; decide +kernel)) (fun m s hm => by rw [newA_none (by rw [k1]; decide +kernel) (by rw [k1]; decide +kernel)] at hm; cases hm), rfl⟩)
    · rw [e1] at ew
      have ew' : SqL K H1 pw [.str k, .str x] := SqL.of ew
      have k1 : (kinP p).1 = k := by rw [e2]
      have k2 : (kinP p).2 = x := by rw [e2]
      have keyOf : ∀ n i H', find rs n = some i → i ∈ spS 124 x → k ∈ (["maybe", "object"] : List Str) → Same H H' → Q (.int n) H' := fun n i H' h1 h2 hkk s => by
        have hr := W.rg _ (find_mem h1)
        have hrg : 1 ≤ n ∧ n < 4294967296 := hr
        have nk : ∃ lo, NumKind k lo 4294967295 ∧ lo ≤ n := by
          simp only [List.mem_cons, List.not_mem_nil, or_false] at hkk
          rcases hkk with rfl | rfl
          · exact ⟨0, NumKind.maybe, by omega⟩
          · exact ⟨1, NumKind.object, by omega⟩
        obtain ⟨lo, nk, hlo⟩ := nk
        have kn : (kinP p).1 ≠ Str.ofString "new" ∧ (kinP p).1 ≠ Str.ofString "bound" := by
          simp only [List.mem_cons, List.not_mem_nil, or_false] at hkk
          rw [k1]
          rcases hkk with rfl | rfl <;> exact ⟨by decide +kernel, by decide +kernel⟩
        exact q0 _ _ s (.inr ⟨_, good_num k1 nk (by omega) kn.2 (fun _ => ⟨n, i, rfl, h1, by rw [k2]; exact h2⟩) (fun m s hm => by rw [newA_none kn.1 kn.2] at hm; cases hm), rfl⟩)
      have spl : ∀ (H2 : Hp), Same H1 H2 → k ∈ (["maybe", "object"] : List Str) → ∀ (pl : Addr) (r2 : Int), H2 pl = some (.lst ((spS 124 x).map V.str)) → sp__law_pick A K [.ref o, .ref pl, .int r2] H2 Q E0 := fun H2 s hkk pl r2 e => by
        refine ⟨o, d, pl, rs, nm, r2, spS 124 x, rfl, O1.same s, SqL.of e, W, fun H' s' => q0 _ _ (sw.trans (s.trans s')) (.inl ⟨rfl, by rw [k1]; exact hkk⟩), fun n i H' h1 h2 s' => keyOf n i H' h1 h2 hkk (sw.trans (s.trans s'))⟩
      unfold kinds2 at hk
      simp only [List.mem_cons, List.not_mem_nil, or_false] at hk
      rcases hk with rfl | rfl | rfl
      · -- new
        walk_at "kg"
        refine ⟨o, d, rs, nm, _, rfl, O1, W, fun n hn => ?_⟩
        have hrg := mayGive_rg hn
        exact q0 _ _ sw (.inr ⟨_, good_num k1 NumKind.new (by omega) (by rw [k1]; decide +kernel) (OkNm.free (by rw [k1]; decide +kernel) (by rw [k1]; decide +kernel)) (fun m s hm => by
          unfold newA at hm
          rw [if_pos k1] at hm
          cases hm; exact hn), rfl⟩)
      · -- maybe
        walk_at "kg"
        refine iteEq (fun h => ?_) (fun h => ?_)
        · walk_at "kg"
          exact q0 _ _ sw (.inr ⟨_, good_num (i := 0) k1 NumKind.maybe (by omega) (by rw [k1]; decide +kernel) (fun h => h.elim (fun y => absurd (k1.symm.trans y) (by decide +kernel)) fun y => absurd rfl y.2) (fun m s hm => by rw [newA_none (by rw [k1]; decide +kernel) (by rw [k1]; decide +kernel)] at hm; cases hm), rfl⟩)
        · walk_at "kg"
          refine ⟨⟨x, rfl⟩, x, _, rfl, rfl, by decide +kernel, szl (by omega), fun pl hpl => ?_⟩
          rw [split124]
          walk_at "kg"
          exact spl _ (same_upd hpl) (by simp) pl _ upd_same
      · -- object
        walk_at "kg"
        refine ⟨⟨x, rfl⟩, x, _, rfl, rfl, by decide +kernel, szl (by omega), fun pl hpl => ?_⟩
        rw [split124]
        walk_at "kg"
        exact spl _ (same_upd hpl) (by simp) pl _ upd_same
/-! ### what look_at answers, as the law tells it -/
theorem rdKind_fit {k : Str} {xs : List Int} {a b : Nat} {x : AV} (h : rdKind k xs a = .ok (x, b)) (k1 : k ≠ Str.ofString "text") (k2 : k ≠ Str.ofString "octets") (k3 : k ≠ Str.ofString "bound") : ∃ i, x = .num i := by
  unfold rdKind at h
  rw [if_neg k1, if_neg k2, if_neg k3] at h
  split at h
  · split at h
    · cases h
    · cases h; exact ⟨_, rfl⟩
  · split at h
    · cases h
    · cases h; exact ⟨_, rfl⟩
theorem rdBound_fit {xs : List Int} {a b : Nat} {x : AV} (h : rdBound xs a = .ok (x, b)) : ∃ s i, x = .bnd s i := by
  unfold rdBound at h
  repeat' split at h
  all_goals first | (cases h; exact ⟨_, _, rfl⟩) | cases h
theorem rdAll_fit {xs : List Int} : ∀ {ks : List Str} {a b : Nat} {rs : List AV}, rdAll xs ks a = .ok (rs, b) → rs.length = ks.length ∧ ∀ (i : Nat) (k : Str) (x : AV), ks[i]? = some k → rs[i]? = some x → ∃ c d, rdKind k xs c = .ok (x, d)
  | [], a, b, rs, h => by cases h; exact ⟨rfl, fun i k x h => by cases h⟩
  | k :: ks, a, b, rs, h => by
    unfold rdAll at h
    split at h
    · cases h
    · rename_i x c hx
      split at h
      · cases h
      · rename_i r d hr
        cases h
        obtain ⟨h1, h2⟩ := rdAll_fit hr
        refine ⟨by rw [List.length_cons, List.length_cons, h1], fun i k' x' e1 e2 => ?_⟩
        cases i with
        | zero => cases e1; cases e2; exact ⟨_, _, hx⟩
        | succ i => exact h2 i k' x' e1 e2
theorem rdArgs_fit {xs : List Int} {ps : List Str} {vals : List AV} (h : rdArgs xs (kindsOf ps) = .ok vals) : vals.length = ps.length ∧ ∀ (i : Nat) (p : Str) (x : AV), ps[i]? = some p → vals[i]? = some x → FitA p x := by
  unfold rdArgs at h
  split at h
  · cases h
  · rename_i r c hr
    split at h
    · cases h
    · cases h
      obtain ⟨h1, h2⟩ := rdAll_fit hr
      refine ⟨by rw [h1]; unfold kindsOf; rw [List.length_map], fun i p x e1 e2 => ?_⟩
      obtain ⟨c', d', hk⟩ := h2 i (kinP p).1 x (by unfold kindsOf; rw [List.getElem?_map, e1]; rfl) e2
      refine ⟨fun k => rdKind_fit hk ?_ ?_ ?_, fun k => ?_, fun k => rdKind_fit hk ?_ ?_ ?_, fun k => rdKind_fit hk ?_ ?_ ?_⟩
      all_goals try (rw [k]; decide +kernel)
      rw [k] at hk
      unfold rdKind at hk
      rw [if_neg (by decide +kernel), if_neg (by decide +kernel), if_pos rfl] at hk
      exact rdBound_fit hk
/-- what look_at answers: nothing, or the fault -/
def lookF (rs : List ORow) (rowsOf : Str → List RqRow) (n op : Int) (xs : List Int) : Option (Int × Int × Str) := match find rs n with
  | none => some (1, 3, "no such object")
  | some i => match (rowsOf i)[op.toNat]? with
    | none => some (n, 4, "no such request")
    | some row => match rdArgs xs (kindsOf row.2.1) with
      | .error e => some (n, 2, argWords e)
      | .ok vals => match (nmsOf rs row.2.1 vals).findSome? id with
        | some f => some (n, f.1, f.2)
        | none => match (newsOf row.2.1 vals).findSome? id with
          | none => none
          | some f => if mayGive rs f.1 then none else some (n, 6, "number cannot be given")
def rowsIn (i : Str) : List RqRow := match tab.find? (fun t => decide (t.1 = i)) with
  | some t => t.2.1
  | none => []
theorem look_sp {A : Adr} {w : World} {K : PySem.W.Frag} {H : Hp} {o d mt b : Addr} {n op nm : Int} {rs : List ORow} {xs : List Int} {Q : VK} {E : XK} (O : ObjAt A.CObjects H o d rs nm) (qm : SqT K H mt [.int n, .int op, .ref b]) (hS : Src K H b xs) (hlen : rs.length < 512) (hop : 0 ≤ op)
    (ht : ∀ i, find rs n = some i → ∃ ar, (A.a_REQUESTS == sysModules) = false ∧ KDct K w A.a_REQUESTS i (.ref ar) ∧ (∀ H, Dp K H (.ref ar) (rqD (rowsIn i))) ∧ ∀ j row, (rowsIn i)[j]? = some row → RqAt A w K i ar (rowsIn i) j row)
    (h1 : lookF rs rowsIn n op xs = none → ∀ v H', Same H H' → Q v H') (h2 : ∀ a c wd, lookF rs rowsIn n op xs = some (a, c, wd) → FaultTo A H E a c wd) : sp_look_at A w K [.ref o, .ref mt] H Q E := by
  refine ⟨o, d, mt, b, n, op, rs, nm, xs, rfl, O, qm, hS, hlen, hop, fun hn => h2 _ _ _ (by unfold lookF; rw [hn]), fun i hi => ?_⟩
  obtain ⟨ar, sr, kd, dp, at_⟩ := ht i hi
  refine ⟨ar, rowsIn i, sr, kd, dp, fun ho => h2 _ _ _ ?_, fun j row hj hrow => ⟨at_ j row hrow, fun e he => h2 _ _ _ ?_, fun vals hv => ⟨(rdArgs_fit hv).1, (rdArgs_fit hv).2, fun c wd hc => h2 _ _ _ ?_, fun hnn => ⟨fun m s hm hg => h2 _ _ _ ?_, fun hok v H' s => h1 ?_ v H' s⟩⟩⟩⟩
  all_goals unfold lookF; rw [hi]; dsimp only
  · rw [List.getElem?_eq_none (by omega)]
  all_goals subst hj; rw [Int.toNat_natCast, hrow]; dsimp only
  · rw [he]
  all_goals rw [hv]; dsimp only
  · rw [hc]
  all_goals rw [hnn]; dsimp only
  · rw [hm]; dsimp only; rw [if_neg (by rw [hg]; decide)]
  · cases hm : (newsOf row.2.1 vals).findSome? id with
    | none => rfl
    | some f => dsimp only; rw [if_pos (hok f.1 f.2 hm)]
def sp__law_told (A : Adr) (w : World) (K : PySem.W.Frag) : Sp := fun vs H Q _ => ∃ (o d mt b : Addr) (n op : Int) (rs : List ORow) (nm : Int) (xs : List Int), vs = [.ref o, .ref mt] ∧ ObjAt A.CObjects H o d rs nm ∧ SqT K H mt [.int n, .int op, .ref b] ∧ Src K H b xs ∧ rs.length < 512 ∧ 0 ≤ op ∧
  (∀ i, find rs n = some i → ∃ ar, (A.a_REQUESTS == sysModules) = false ∧ KDct K w A.a_REQUESTS i (.ref ar) ∧ (∀ H, Dp K H (.ref ar) (rqD (rowsIn i))) ∧ ∀ j row, (rowsIn i)[j]? = some row → RqAt A w K i ar (rowsIn i) j row) ∧
  (lookF rs rowsIn n op xs = none → ∀ H', Same H H' → Q .non H') ∧ (∀ a c wd, lookF rs rowsIn n op xs = some (a, c, wd) → ∀ t H', Same H H' → SqT K H' t [.int a, .int c, .str wd] → Q (.ref t) H')
theorem sc__law_told : FnScope ["objects", "message", "e"] ["objects", "message"] (defScope s__law_told) := ⟨rfl, rfl, rfl, by decide +kernel, rfl, by decide +kernel, by decide +kernel⟩
theorem ok__law_told (T : Txt0 P K mg A) : FnOk P w K mg base CX0 8 A.f_law_told A.d_law_told ["objects", "message"] (sp__law_told A w K) := by
  refine T.F_law_told.ok sc__law_told (fun vs H Q E h => ?_) (fun cdv Ar outer st H vs Q E hr h => ?_)
  · obtain ⟨_, _, _, _, _, _, _, _, _, rfl, _⟩ := h
    rfl
  · obtain ⟨o, d, mt, b, n, op, rs, nm, xs, rfl, O, qm, hS, hlen, hop, ht, q1, q2⟩ := h
    refine ⟨_, (pss_cons (ps_try_as (i := 2) rfl rfl sc__law_told.nd rfl rfl ⟨rfl, by decide, .inl T.gFault⟩ takes0 (fun W pn xe tk _ => (pss_one (ps_expr (pe_callS (ok_look_at (P := P) (w := w) (base := base) T) (hr.mono (by decide)) rfl T.glook_at T.klook_at T.blook_at (fun σ => passAt tk σ) (pa_cons (pv 0) (pa_cons (pv 1) pa_nil))))))
      (fun a oe cls d pn hz hf => (pss_one (ps_ret (pe_tup (pa_cons (pe_xf T.xfFault T.nFault_number hz hf (pv 2)) (pa_cons (pe_xf T.xfFault T.nFault_code hz hf (pv 2)) (pa_cons (pe_xf T.xfFault T.nFault_words hz hf (pv 2)) pa_nil))))))))
      (pss_one (ps_ret pe_non))), ?_⟩
    walk_at "gf"
    refine look_sp O qm hS hlen hop ht (fun hn v H' s => ?_) (fun a c wd hf dd H' h1 h2 h3 => ?_)
    · walk_at "gf"
      exact q1 hn H' s
    · have s : Same H H' := fun b u e => by rw [h3 b (by rw [e]; exact fun z => by cases z)]; exact e
      refine ⟨true, T.exFault, (fun _ a' ha => ?_), (fun z => nomatch z)⟩
      walk_at "gf"
      refine ⟨dd, _, _, rfl, h2, by unfold ffF; walk_at "lk", ?_⟩
      walk_at "gf"
      refine ⟨dd, _, _, rfl, h2, by unfold ffF; walk_at "lk", ?_⟩
      walk_at "gf"
      refine ⟨dd, _, _, rfl, h2, by unfold ffF; walk_at "lk", ?_⟩
      walk_at "gf"
      rename_i te hte
      exact q2 a c wd hf te _ (s.trans (same_upd hte)) (SqT.of upd_same)
/-! ### a value with a problem -/
/-- a value that can be written for the part -/
structure EncArg (p : Str) (g : Arg) : Prop where
  kd : g.kind = (kinP p).1
  sp : ArgSpec g.kind g.val true g.os
  ln : g.os.length ≤ 1000
theorem GoodArg.enc {rs : List ORow} {p : Str} {g : Arg} (h : GoodArg rs p g) : EncArg p g := ⟨h.kd, h.sp, h.ln⟩
def EncV (K : PySem.W.Frag) (p : Str) (U : Hp) (v : V) : Prop := ∃ g : Arg, EncArg p g ∧ ArgAt K U v g.val
theorem EncV.to {K : PySem.W.Frag} {p : Str} {U U' : Hp} {v : V} (h : EncV K p U v) (s : Same U U') : EncV K p U' v := by
  obtain ⟨g, h1, h2⟩ := h
  exact ⟨g, h1, h2.to s⟩
theorem enc_num {K : PySem.W.Frag} {U : Hp} {p k : Str} {lo hi i : Int} (hk : (kinP p).1 = k) (nk : NumKind k lo hi) (h : lo ≤ i ∧ i ≤ hi) : EncV K p U (.int i) :=
  ⟨⟨k, .num i, octs (i % 4294967296) 4⟩, ⟨hk.symm, spec_true (ArgSpec.num nk) (decide_eq_true h), by show 4 ≤ 1000; decide⟩, rfl⟩
theorem enc_maybe {K : PySem.W.Frag} {p : Str} {U : Hp} {v : V} (h : EncV K p U v) (k : (kinP p).1 = Str.ofString "maybe") : ∃ n, v = .int n := by
  obtain ⟨g, e, ag⟩ := h
  have sp := e.sp
  rw [e.kd, k] at sp
  generalize g.val = x at sp ag
  generalize g.os = os at sp
  generalize hb : true = bb at sp
  generalize hk : Str.ofString "maybe" = kk at sp
  cases sp with
  | num _ => exact ⟨_, ag⟩
  | txt => exact absurd hk (by decide +kernel)
  | oct => exact absurd hk (by decide +kernel)
  | bnd => exact absurd hk (by decide +kernel)
theorem pick5 {a b c d e : V} (x : Int) : ∃ v, v ∈ [a, b, c, d, e] ∧ atI [a, b, c, d, e] (x % 5) = some v := by
  obtain ⟨j, hj⟩ : ∃ j : Nat, x % 5 = (j : Int) := ⟨(x % 5).toNat, by omega⟩
  have hl : j < [a, b, c, d, e].length := by show j < 5; omega
  exact ⟨_, List.getElem_mem hl, by rw [hj]; exact atI_nat (List.getElem?_eq_getElem hl)⟩
def sp__law_bad (A : Adr) (K : PySem.W.Frag) : Sp := fun vs H Q _ => ∃ (o d : Addr) (rs : List ORow) (nm row : Int) (p : Str) (v : V), vs = [.ref o, .str p, v, .int row] ∧ ObjAt A.CObjects H o d rs nm ∧ WorldOk rs ∧ okPart p = true ∧ EncV K p H v ∧ ∀ v' H', Same H H' → (v' = v ∨ ∀ U, EncV K p U v') → Q v' H'
theorem sc__law_bad : FnScope ["objects", "argument", "value", "row", "kind", "case"] ["objects", "argument", "value", "row"] (defScope s__law_bad) := ⟨rfl, rfl, rfl, by decide +kernel, rfl, by decide +kernel, by decide +kernel⟩
theorem ok__law_bad (T : Txt0 P K mg A) : FnOk P w K mg base CX0 3 A.f_law_bad A.d_law_bad ["objects", "argument", "value", "row"] (sp__law_bad A K) := by
  refine T.F_law_bad.ok sc__law_bad (fun vs H Q E h => ?_) (fun cdv Ar outer st H vs Q E hr h => ?_)
  · obtain ⟨_, _, _, _, _, _, _, rfl, _⟩ := h
    rfl
  · obtain ⟨o, d, rs, nm, row, p, v, rfl, O, W, hp, ev, q⟩ := h
    refine ⟨_, (pss_cons (ps_set (i := 4) sc__law_bad.nd rfl (Or.inl rfl) (pe_ix (r := rIxL K) ix_list (pe_split (pv 1) pe_str) pe_int (fun _ _ => rfl)))
      (pss_cons (ps_set (i := 5) sc__law_bad.nd rfl (Or.inl rfl) (pe_op op_mod (pe_callTy call_int1 (by rfl) T.int (by decide +kernel) (pa_cons (pv 3) pa_nil)) pe_int))
      (pss_cons (ps_if (pt_cmpR op_eq (pv 4) pe_str (nomark _))
      (pss_one (ps_ret (pe_ix (r := rIxT K) ix_tup (pe_tup (pa_cons (pv 2) (pa_cons pe_int (pa_cons pe_int (pa_cons (pe_ix (r := rIxL K) ix_list (pe_meth0 (pv 0) T.clObjects T.mObjects_numbers (ok_Objects_numbers T) (hr.mono (by decide)) T.bObjects_numbers .nil pass0) (pe_op op_mod (pe_callTy call_int1 (by rfl) T.int (by decide +kernel) (pa_cons (pe_op op_fdiv (pv 3) pe_int) pa_nil)) (pe_callB call_len_seq (by rfl) T.len PySem.boot_len (pa_cons (pe_meth0 (pv 0) T.clObjects T.mObjects_numbers (ok_Objects_numbers T) (hr.mono (by decide)) T.bObjects_numbers .nil pass0) pa_nil))) (fun _ _ => rfl)) (pa_cons (pv 2) pa_nil)))))) (pv 5) (fun _ _ => rfl))))
      pss_nil)
      (pss_cons (ps_if (PW.pt (pw_or (pt_cmpR op_eq (pv 4) pe_str (nomark _)) (pw_or1 (PW.pt (pw_and (pt_cmpR op_eq (pv 4) pe_str (nomark _)) (pw_and1 (pt_cmpR (op_neD hr.units) (pv 2) pe_int (nomark _))))))))
      (pss_one (ps_ret (pe_ix (r := rIxT K) ix_tup (pe_tup (pa_cons (pv 2) (pa_cons pe_int (pa_cons (pe_ix (r := rIxL K) ix_list (pe_meth0 (pv 0) T.clObjects T.mObjects_numbers (ok_Objects_numbers T) (hr.mono (by decide)) T.bObjects_numbers .nil pass0) (pe_op op_mod (pe_callTy call_int1 (by rfl) T.int (by decide +kernel) (pa_cons (pe_op op_fdiv (pv 3) pe_int) pa_nil)) (pe_callB call_len_seq (by rfl) T.len PySem.boot_len (pa_cons (pe_meth0 (pv 0) T.clObjects T.mObjects_numbers (ok_Objects_numbers T) (hr.mono (by decide)) T.bObjects_numbers .nil pass0) pa_nil))) (fun _ _ => rfl)) (pa_cons pe_int (pa_cons (pv 2) pa_nil)))))) (pv 5) (fun _ _ => rfl))))
      pss_nil)
      (pss_one (ps_ret (pv 2))))))), ?_⟩
    obtain ⟨lp, hc⟩ := okPart_ex hp
    obtain ⟨rest, e1⟩ : ∃ rest, spS 32 p = (kinP p).1 :: rest := by
      rcases hc with ⟨k', e1, e2, _⟩ | ⟨k', x, e1, e2, _⟩
      · exact ⟨[], by rw [e1, e2]⟩
      · exact ⟨[x], by rw [e1, e2]⟩
    clear hc hp
    obtain ⟨dxo, eo⟩ := O.ob
    replace q := Hid.mk q
    walk_at "gf"
    refine ⟨⟨p, rfl⟩, p, _, rfl, rfl, by decide +kernel, szl (by omega), fun pw hpw => ?_⟩
    rw [split32, e1]
    have sw := same_upd (o := .lst (((kinP p).1 :: rest).map V.str)) hpw
    have ew : (upd H pw (.lst (((kinP p).1 :: rest).map V.str))) pw = some (.lst (V.str (kinP p).1 :: rest.map V.str)) := upd_same
    generalize upd H pw (.lst (((kinP p).1 :: rest).map V.str)) = H1 at sw ew ⊢
    have O1 := O.same sw
    obtain ⟨dxo1, eo1⟩ := O1.ob
    refine ⟨pw, _, _, .str (kinP p).1, rfl, rfl, SqL.of ew, atI_nat (j := 0) rfl, ?_⟩
    walk_at "gf"
    have lpos : 0 < rs.length := List.length_pos_iff.mpr W.ne
    have hlt : (row / 5 % (rs.length : Int)).toNat < rs.length := by
      have h1 := Int.emod_nonneg (row / 5) (show (rs.length : Int) ≠ 0 by omega)
      have h2 := Int.emod_lt_of_pos (row / 5) (show (0 : Int) < (rs.length : Int) by omega)
      omega
    have hr := List.getElem?_eq_getElem hlt
    have hrg := W.rg _ (List.getElem_mem hlt)
    generalize rs[(row / 5 % (rs.length : Int)).toNat] = r at hr hrg
    refine iteStr (fun k1 => ?_) (fun k1 => ?_)
    · walk_at "gf"
      refine ⟨o, d, rs, nm, rfl, O1, fun p1 H2 n1 => ?_⟩
      have O2 := O1.same n1.same
      obtain ⟨dxo2, eo2⟩ := O2.ob
      walk_at "gf"
      refine ⟨o, d, rs, nm, rfl, O2, fun p2 H3 n2 => ?_⟩
      have s3 := sw.trans (n1.same.trans n2.same)
      have en := n2.same _ _ n1.at_
      have en2 := n2.at_
      walk_at "gf"
      refine ⟨by show (0 : Int) < _; rw [List.length_map, List.length_map]; omega, p1, _, _, .int r.1, rfl, rfl, SqL.of en, at_of (j := (row / 5 % (rs.length : Int)).toNat) ?_ (by rw [List.getElem?_map, List.getElem?_map, hr]; rfl), ?_⟩
      · rw [List.length_map, List.length_map]
        have h1 := Int.emod_nonneg (row / 5) (show (rs.length : Int) ≠ 0 by omega)
        show row / 5 % _ = _
        omega
      walk_at "gf"
      rename_i pt hpt
      obtain ⟨v', hm, hv'⟩ := pick5 (a := v) (b := .int 1) (c := .int 4278190080) (d := .int r.1) (e := v) row
      refine ⟨pt, _, _, v', rfl, rfl, SqT.of upd_same, hv', ?_⟩
      have s4 := s3.trans (same_upd (o := .tup [v, .int 1, .int 4278190080, .int r.1, v]) hpt)
      refine q.go v' _ s4 ?_
      simp only [List.mem_cons, List.not_mem_nil, or_false] at hm
      rcases hm with rfl | rfl | rfl | rfl | rfl
      · exact .inl rfl
      · exact .inr fun U => enc_num k1 NumKind.new (by omega)
      · exact .inr fun U => enc_num k1 NumKind.new (by omega)
      · exact .inr fun U => enc_num k1 NumKind.new (by omega)
      · exact .inl rfl
    · walk_at "gf"
      have rr : isNm p v → ∃ lo, NumKind (kinP p).1 lo 4294967295 ∧ lo ≤ 1 := fun h => by
        rcases h with k | ⟨k, _⟩
        · rw [k]; exact ⟨1, NumKind.object, by omega⟩
        · rw [k]; exact ⟨0, NumKind.maybe, by omega⟩
      apply useR (C := ¬ isNm p v)
      · intro rr1 bb
        refine iteStr (fun k2 => ?_) (fun k2 => ?_)
        · exact rr1 (fun h => h (.inl k2))
        · walk_at "gf"
          refine iteStr (fun k3 => ?_) (fun k3 => ?_)
          · obtain ⟨n0, hn0⟩ := enc_maybe ev k3
            walk_at "gf"
            refine ⟨.int n0, .int 0, (by rw [hn0]; exact .int n0), .int 0, (sh_int _).shaped, (sh_int _).shaped, _, rfl, ?_⟩
            by_cases hn : n0 = 0
            · refine if_f (by simp [PyData.eqv, hn]) ?_
              exact bb (fun h => h.elim k2 (fun z => z.2 (by rw [hn0, hn])))
            · refine if_t (by simpa [PyData.eqv] using hn) ?_
              exact rr1 (fun h => h (.inr ⟨k3, fun z => hn (V.int.inj (hn0.symm.trans z))⟩))
          · exact bb (fun h => h.elim k2 (fun z => k3 z.1))
      · intro hnm
        obtain ⟨lo, nk, hlo⟩ := rr (Classical.not_not.mp hnm)
        walk_at "gf"
        refine ⟨o, d, rs, nm, rfl, O1, fun p1 H2 n1 => ?_⟩
        have O2 := O1.same n1.same
        obtain ⟨dxo2, eo2⟩ := O2.ob
        walk_at "gf"
        refine ⟨o, d, rs, nm, rfl, O2, fun p2 H3 n2 => ?_⟩
        have s3 := sw.trans (n1.same.trans n2.same)
        have en := n2.same _ _ n1.at_
        have en2 := n2.at_
        walk_at "gf"
        refine ⟨by show (0 : Int) < _; rw [List.length_map, List.length_map]; omega, p1, _, _, .int r.1, rfl, rfl, SqL.of en, at_of (j := (row / 5 % (rs.length : Int)).toNat) ?_ (by rw [List.getElem?_map, List.getElem?_map, hr]; rfl), ?_⟩
        · rw [List.length_map, List.length_map]
          have h1 := Int.emod_nonneg (row / 5) (show (rs.length : Int) ≠ 0 by omega)
          show row / 5 % _ = _
          omega
        walk_at "gf"
        rename_i pt hpt
        obtain ⟨v', hm, hv'⟩ := pick5 (a := v) (b := .int 987654) (c := .int r.1) (d := .int 1) (e := v) row
        refine ⟨pt, _, _, v', rfl, rfl, SqT.of upd_same, hv', ?_⟩
        have s4 := s3.trans (same_upd (o := .tup [v, .int 987654, .int r.1, .int 1, v]) hpt)
        refine q.go v' _ s4 ?_
        simp only [List.mem_cons, List.not_mem_nil, or_false] at hm
        rcases hm with rfl | rfl | rfl | rfl | rfl
        · exact .inl rfl
        · exact .inr fun U => enc_num rfl nk (by omega)
        · exact .inr fun U => enc_num rfl nk (by omega)
        · exact .inr fun U => enc_num rfl nk (by omega)
        · exact .inl rfl
      · intro hnm
        walk_at "gf"
        exact q.go v H1 sw (.inl rfl)
/-! ### what is due -/
theorem jn_sp (c : Nat) : ∀ l : List Nat, jnC c (spC c l) = l ∧ spC c l ≠ []
  | [] => ⟨rfl, by simp [spC]⟩
  | x :: r => by
    obtain ⟨h1, h2⟩ := jn_sp c r
    unfold spC
    by_cases e : x = c
    · rw [if_pos e]
      refine ⟨?_, by simp⟩
      cases hs : spC c r with
      | nil => exact absurd hs h2
      | cons p q =>
        rw [hs] at h1
        show [] ++ c :: jnC c (p :: q) = x :: r
        rw [h1, e]; rfl
    · rw [if_neg e]
      cases hs : spC c r with
      | nil => exact absurd hs h2
      | cons p q =>
        rw [hs] at h1
        refine ⟨?_, by simp⟩
        cases q with
        | nil =>
          show x :: p = x :: r
          have : p = r := h1
          rw [this]
        | cons b q =>
          show (x :: p) ++ c :: jnC c (b :: q) = x :: r
          rw [← h1]; rfl
theorem sp_one {p k : Str} (h : spS 32 p = [k]) : p = k := by
  unfold spS at h
  have e := (jn_sp 32 p.cps.toList).1
  cases hs : spC 32 p.cps.toList with
  | nil => rw [hs] at h; cases h
  | cons a l =>
    rw [hs] at h e
    cases l with
    | nil =>
      cases h
      have e' : a = p.cps.toList := e
      rw [e']
    | cons b l => cases h
/-- the law's own reading of what is due -/
def badN (rs : List ORow) (z : Option (Int × Str)) : Bool := match z with
  | some f => !mayGive rs f.1
  | none => false
def dueL (rs : List ORow) (ps : List Str) (vals : List AV) : Option (Int × Str) := match (nmsOf rs ps vals).findSome? id with
  | some f => some f
  | none => if (newsOf ps vals).any (badN rs) = true then some (6, "number cannot be given") else none
/-- the answer of the law's own defs: nothing, or a number, a code, words -/
def Ans (K : PySem.W.Frag) (H : Hp) (Q : VK) (n : Int) (r : Option (Int × Str)) : Prop := (r = none → ∀ H', Same H H' → Q .non H') ∧ ∀ c wd, r = some (c, wd) → ∀ t H', Same H H' → SqT K H' t [.int n, .int c, .str wd] → Q (.ref t) H'
def sp__law_due (A : Adr) (K : PySem.W.Frag) : Sp := fun vs H Q _ => ∃ (o d a b : Addr) (n nm : Int) (rs : List ORow) (ps : List Str) (us : List V) (vals : List AV), vs = [.ref o, .int n, .ref a, .ref b] ∧ ObjAt A.CObjects H o d rs nm ∧ SqL K H a (ps.map V.str) ∧ SqL K H b us ∧ ValsAt K H us vals ∧ vals.length = ps.length ∧ ps.length ≤ 100 ∧
  (∀ p ∈ ps, okPart p = true) ∧ (∀ (k : Nat) (p : Str) (x : AV), ps[k]? = some p → vals[k]? = some x → FitA p x) ∧ Ans K H Q n (dueL rs ps vals)
theorem sc__law_due : FnScope ["objects", "number", "arguments", "values", "j", "words", "interface", "given"] ["objects", "number", "arguments", "values"] (defScope s__law_due) := ⟨rfl, rfl, rfl, by decide +kernel, rfl, by decide +kernel, by decide +kernel⟩
theorem ok__law_due (T : Txt0 P K mg A) : FnOk P w K mg base CX0 3 A.f_law_due A.d_law_due ["objects", "number", "arguments", "values"] (sp__law_due A K) := by
  refine T.F_law_due.ok sc__law_due (fun vs H Q E h => ?_) (fun cdv Ar outer st H vs Q E hr h => ?_)
  · obtain ⟨_, _, _, _, _, _, _, _, _, _, rfl, _⟩ := h
    rfl
  · obtain ⟨o, d, a, b, n, nm, rs, ps, us, vals, rfl, O, ha, hb, va, hvl, hpl, hok, hfit, q1, q2⟩ := h
    refine ⟨_, (C8.pss_cut (ps_for PassesOwn.never rfl (pi_range1 (by rfl) T.range (pa_cons (pe_callB call_len_seq (by rfl) T.len PySem.boot_len (pa_cons (pv 2) pa_nil)) pa_nil)) (pg_name (i := 4) sc__law_due.nd rfl (Or.inl rfl))
      (pss_cons (ps_set (i := 5) sc__law_due.nd rfl (Or.inl rfl) (pe_split (pe_ix (r := rIxL K) ix_list (pv 2) (pv 4) (fun _ _ => rfl)) pe_str))
      (pss_one (ps_if (PW.pt (pw_or (pt_cmpR op_eq (pe_ix (r := rIxL K) ix_list (pv 5) pe_int (fun _ _ => rfl)) pe_str (nomark _)) (pw_or1 (PW.pt (pw_and (pt_cmpR op_eq (pe_ix (r := rIxL K) ix_list (pv 5) pe_int (fun _ _ => rfl)) pe_str (nomark _)) (pw_and1 (pt_cmpR (op_neD hr.units) (pe_ix (r := rIxL K) ix_list (pv 3) (pv 4) (fun _ _ => rfl)) pe_int (nomark _))))))))
      (pss_cons (ps_set (i := 6) sc__law_due.nd rfl (Or.inl rfl) (pe_meth (pv 0) T.clObjects T.mObjects_interface_of (ok_Objects_interface_of T) (hr.mono (by decide)) T.bObjects_interface_of .nil pass0 (pa_cons (pe_ix (r := rIxL K) ix_list (pv 3) (pv 4) (fun _ _ => rfl)) pa_nil)))
      (pss_cons (ps_if (pt_cmpR op_isN (pv 6) pe_non (nomark _))
      (pss_one (ps_ret (pe_tup (pa_cons (pv 1) (pa_cons pe_int (pa_cons pe_str pa_nil))))))
      pss_nil)
      (pss_one (ps_if (pt_cmpR op_notIn_seq (pv 6) (pe_split (pe_ix (r := rIxL K) ix_list (pv 5) pe_int (fun _ _ => rfl)) pe_str) (by rfl))
      (pss_one (ps_ret (pe_tup (pa_cons (pv 1) (pa_cons pe_int (pa_cons pe_str pa_nil))))))
      pss_nil))))
      pss_nil))))
      (pss_cons (ps_for PassesOwn.never rfl (pi_range1 (by rfl) T.range (pa_cons (pe_callB call_len_seq (by rfl) T.len PySem.boot_len (pa_cons (pv 2) pa_nil)) pa_nil)) (pg_name (i := 4) sc__law_due.nd rfl (Or.inl rfl))
      (pss_cons (ps_set (i := 7) sc__law_due.nd rfl (Or.inl rfl) pe_non)
      (pss_cons (ps_if (pt_cmpR op_eq (pe_ix (r := rIxL K) ix_list (pe_split (pe_ix (r := rIxL K) ix_list (pv 2) (pv 4) (fun _ _ => rfl)) pe_str) pe_int (fun _ _ => rfl)) pe_str (nomark _))
      (pss_one (ps_set (i := 7) sc__law_due.nd rfl (Or.inl rfl) (pe_ix (r := rIxL K) ix_list (pv 3) (pv 4) (fun _ _ => rfl))))
      pss_nil)
      (pss_cons (ps_if (pt_cmpR op_eq (pe_ix (r := rIxL K) ix_list (pv 2) (pv 4) (fun _ _ => rfl)) pe_str (nomark _))
      (pss_one (ps_set (i := 7) sc__law_due.nd rfl (Or.inl rfl) (pe_ix (r := rIxT K) ix_tup (pe_ix (r := rIxL K) ix_list (pv 3) (pv 4) (fun _ _ => rfl)) pe_int (fun _ _ => rfl))))
      pss_nil)
      (pss_one (ps_if (PW.pt (pw_and (pt_cmpR op_notN (pv 7) pe_non (nomark _)) (pw_and1 (pt_not (pt_val (pe_meth (pv 0) T.clObjects T.mObjects_may_give (ok_Objects_may_give T) (hr.mono (by decide)) T.bObjects_may_give .nil pass0 (pa_cons (pv 7) pa_nil)))))))
      (pss_one (ps_ret (pe_tup (pa_cons (pv 1) (pa_cons pe_int (pa_cons pe_str pa_nil))))))
      pss_nil))))))
      (pss_one (ps_ret pe_non)))), ?_⟩
    have hul : us.length = ps.length := by rw [va.1, hvl]
    have nml : (nmsOf rs ps vals).length = ps.length := by unfold nmsOf; rw [List.length_map, List.length_zip, hvl]; omega
    have nwl : (newsOf ps vals).length = ps.length := by unfold newsOf; rw [List.length_map, List.length_zip, hvl]; omega
    replace q1 := Hid.mk q1
    replace q2 := Hid.mk q2
    refine ⟨fun σ' H' => ∃ v4 v5 v6, σ' = [some (.ref o), some (.int n), some (.ref a), some (.ref b), v4, v5, v6, none] ∧ Same H H' ∧ (nmsOf rs ps vals).findSome? id = none, ?_, ?_⟩
    · walk_at "gf"
      refine ⟨by rw [List.length_map]; omega, by rw [List.length_map]; omega, for_range (lo := 0) (fun i σ H' => ∃ v4 v5 v6, σ = [some (.ref o), some (.int n), some (.ref a), some (.ref b), v4, v5, v6, none] ∧ Same H H' ∧ ((nmsOf rs ps vals).take i).findSome? id = none) ⟨_, _, _, rfl, Same.refl _, rfl⟩ ?_ ?_⟩
      · rintro i σ H1 hi ⟨v4, v5, v6, rfl, s1, hnone⟩
        have hi' : i < ps.length := by rw [List.length_map] at hi; omega
        have hp := List.getElem?_eq_getElem hi'
        generalize ps[i] = p at hp
        have hiu : i < us.length := by omega
        have hv := List.getElem?_eq_getElem hiu
        generalize us[i] = v at hv
        obtain ⟨x, hx, ax⟩ := va.2 i v hv
        have hz : (nmsOf rs ps vals)[i]? = some (nmA rs p x) := by
          unfold nmsOf
          rw [List.getElem?_map, show (ps.zip vals)[i]? = some (p, x) from List.getElem?_zip_eq_some.mpr ⟨hp, hx⟩]; rfl
        obtain ⟨g1, g2, g3⟩ := nmA_of (rs := rs) (hfit i p x hp hx) (ax.to s1)
        generalize nmA rs p x = z0 at hz g1 g2
        have htk : ∀ z1, z0 = z1 → (nmsOf rs ps vals).take (i + 1) = (nmsOf rs ps vals).take i ++ [z1] := fun z1 e => by
          obtain ⟨y1, y2⟩ := List.getElem?_eq_some_iff.mp hz
          rw [List.take_succ_eq_append_getElem y1, y2, e]
        obtain ⟨lp, hc⟩ := okPart_ex (hok p (List.mem_of_getElem? hp))
        obtain ⟨rest, e1, e2, l2⟩ : ∃ rest, spS 32 p = (kinP p).1 :: rest ∧ ((kinP p).1 ∈ kinds2 → rest = [(kinP p).2]) ∧ (kinP p).2.length ≤ 2000 := by
          rcases hc with ⟨k', e1, e2, hk⟩ | ⟨k', x, e1, e2, _, hx⟩
          · refine ⟨[], by rw [e1, e2], fun z => ?_, by rw [e2]; show (0 : Nat) ≤ 2000; decide⟩
            rw [e2] at z
            have z' : k' ∈ kinds2 := z
            unfold kinds1 at hk
            simp only [List.mem_cons, List.not_mem_nil, or_false] at hk
            rcases hk with rfl | rfl | rfl | rfl | rfl <;> exact absurd z' (by decide +kernel)
          · exact ⟨[x], by rw [e1, e2], fun _ => by rw [e2], by rw [e2]; show x.length ≤ 2000; omega⟩
        clear hc
        have O1 := O.same s1
        walk_at "gf"
        refine ⟨a, _, _, _, rfl, rfl, s1.seq ha, at_of (j := i) (Int.zero_add _) (by rw [List.getElem?_map, hp]; rfl), ⟨p, rfl⟩, p, _, rfl, rfl, by decide +kernel, szl (by omega), fun pw hpw => ?_⟩
        rw [split32, e1]
        have sw := same_upd (o := .lst (((kinP p).1 :: rest).map V.str)) hpw
        have ew : (upd H1 pw (.lst (((kinP p).1 :: rest).map V.str))) pw = some (.lst (V.str (kinP p).1 :: rest.map V.str)) := upd_same
        generalize upd H1 pw (.lst (((kinP p).1 :: rest).map V.str)) = H2 at sw ew ⊢
        have s2 := s1.trans sw
        have O2 := O.same s2
        obtain ⟨dxo2, eo2⟩ := O2.ob
        have qb2 := s2.seq hb
        walk_at "gf"
        apply useR (C := ¬ isNm p v)
        · intro rr bb
          refine iteStr (fun k2 => ?_) (fun k2 => ?_)
          · exact rr (fun h => h (.inl k2))
          · walk_at "gf"
            refine iteStr (fun k3 => ?_) (fun k3 => ?_)
            · obtain ⟨n0, hn0⟩ := g3 k3
              walk_at "gf"
              refine ⟨b, _, _, _, rfl, rfl, qb2, at_of (j := i) (Int.zero_add _) hv, ?_⟩
              walk_at "gf"
              refine ⟨.int n0, .int 0, (by rw [hn0]; exact .int n0), .int 0, (sh_int _).shaped, (sh_int _).shaped, _, rfl, ?_⟩
              by_cases hn : n0 = 0
              · refine if_f (by simp [PyData.eqv, hn]) ?_
                exact bb (fun h => h.elim k2 (fun z => z.2 (by rw [hn0, hn])))
              · refine if_t (by simpa [PyData.eqv] using hn) ?_
                exact rr (fun h => h (.inr ⟨k3, fun z => hn (V.int.inj (hn0.symm.trans z))⟩))
            · exact bb (fun h => h.elim k2 (fun z => k3 z.1))
        · intro hnm
          have hnm' := Classical.not_not.mp hnm
          obtain ⟨n0, rfl, hz0⟩ := g1 hnm'
          obtain rfl : z0 = nmFlt rs p n0 := hz0
          have hk2 : (kinP p).1 ∈ kinds2 := by
            rcases hnm' with k | ⟨k, _⟩ <;> rw [k] <;> decide +kernel
          have er := e2 hk2
          walk_at "gf"
          refine ⟨b, _, _, _, rfl, rfl, qb2, at_of (j := i) (Int.zero_add _) hv, ?_⟩
          refine ⟨o, d, rs, nm, n0, rfl, O2, ?_⟩
          unfold nmFlt at hz htk
          cases hf : find rs n0 with
          | none =>
            rw [hf] at hz htk
            walk_at "gf"
            rename_i pt hpt
            exact q2.go 3 "no such object" (by unfold dueL; rw [findSome_at hnone hz]) pt _ (s2.trans (same_upd hpt)) (SqT.of upd_same)
          | some i0 =>
            rw [hf] at hz htk
            dsimp only at hz htk
            walk_at "gf"
            refine ⟨pw, _, _, .str (kinP p).2, rfl, rfl, SqL.of ew, atI_nat (j := 1) (by rw [er]; rfl), ?_⟩
            refine ⟨⟨_, rfl⟩, _, _, rfl, rfl, by decide +kernel, szl l2, fun pl hpl => ?_⟩
            rw [split124]
            refine ⟨pl, _, rfl, .inl (SqL.of upd_same), rfl, flat_strs _, _, rfl, ?_⟩
            have s25 := s2.trans (same_upd (o := .lst ((spS 124 (kinP p).2).map V.str)) hpl)
            by_cases hm : i0 ∈ spS 124 (kinP p).2
            · rw [if_pos hm] at hz htk
              refine if_f (by show (!inV (.str i0) ((spS 124 (kinP p).2).map V.str)) = false; rw [inV_strs, decide_eq_true hm]; rfl) ?_
              walk_at "gf"
              exact ⟨s25, by rw [htk none rfl, List.findSome?_append, hnone]; rfl⟩
            · rw [if_neg hm] at hz htk
              refine if_t (by show (!inV (.str i0) ((spS 124 (kinP p).2).map V.str)) = true; rw [inV_strs, decide_eq_false hm]; rfl) ?_
              walk_at "gf"
              rename_i pt hpt
              exact q2.go 8 "object of another kind" (by unfold dueL; rw [findSome_at hnone hz]) pt _ (s25.trans (same_upd hpt)) (SqT.of upd_same)
        · intro hnm
          exact ⟨_, _, _, rfl, s2, by rw [htk none (g2 hnm), List.findSome?_append, hnone]; rfl⟩
      · rintro σ H1 ⟨v4, v5, v6, rfl, s1, hnone⟩
        exact ⟨_, _, _, rfl, s1, by rwa [show (nmsOf rs ps vals).take ((((ps.map V.str).length : Nat) : Int)).toNat = nmsOf rs ps vals from by rw [Int.toNat_natCast, List.length_map, ← nml, List.take_length]] at hnone⟩
    · rintro σ H1 ⟨v4, v5, v6, rfl, s1, hnone⟩
      have dd : dueL rs ps vals = if (newsOf ps vals).any (badN rs) = true then (some (6, "number cannot be given") : Option (Int × Str)) else none := by unfold dueL; rw [hnone]
      walk_at "gf"
      refine ⟨by rw [List.length_map]; omega, by rw [List.length_map]; omega, for_range (lo := 0) (fun i σ H' => ∃ v4 v5 v6 v7, σ = [some (.ref o), some (.int n), some (.ref a), some (.ref b), v4, v5, v6, v7] ∧ Same H H' ∧ ((newsOf ps vals).take i).any (badN rs) = false) ⟨_, _, _, _, rfl, s1, rfl⟩ ?_ ?_⟩
      · clear hnone s1
        rintro i σ H1 hi ⟨v4, v5, v6, v7, rfl, s1, hany⟩
        have hi' : i < ps.length := by rw [List.length_map] at hi; omega
        have hp := List.getElem?_eq_getElem hi'
        generalize ps[i] = p at hp
        have hiu : i < us.length := by omega
        have hv := List.getElem?_eq_getElem hiu
        generalize us[i] = v at hv
        obtain ⟨x, hx, ax⟩ := va.2 i v hv
        have hz := newsOf_at hp hx
        have htk : (newsOf ps vals).take (i + 1) = (newsOf ps vals).take i ++ [newA p x] := by
          obtain ⟨y1, y2⟩ := List.getElem?_eq_some_iff.mp hz
          rw [List.take_succ_eq_append_getElem y1, y2]
        have hbad : badN rs (newA p x) = true → (newsOf ps vals).any (badN rs) = true := fun h => List.any_eq_true.mpr ⟨_, List.mem_of_getElem? hz, h⟩
        have hgood : badN rs (newA p x) = false → ((newsOf ps vals).take (i + 1)).any (badN rs) = false := fun h => by
          rw [htk, List.any_append, hany]; simp [h]
        obtain ⟨lp, hc⟩ := okPart_ex (hok p (List.mem_of_getElem? hp))
        have hft := hfit i p x hp hx
        obtain ⟨rest, e1⟩ : ∃ rest, spS 32 p = (kinP p).1 :: rest := by
          rcases hc with ⟨k', e1, e2, _⟩ | ⟨k', x, e1, e2, _⟩
          · exact ⟨[], by rw [e1, e2]⟩
          · exact ⟨[x], by rw [e1, e2]⟩
        have kb : (kinP p).1 = Str.ofString "bound" → p = Str.ofString "bound" := fun k => by
          rcases hc with ⟨k', e1, e2, hk⟩ | ⟨k', x, e1, e2, hk, _⟩
          · rw [e2] at k
            exact (sp_one e1).trans k
          · rw [e2] at k
            have k'' : k' = Str.ofString "bound" := k
            rw [k''] at hk
            exact absurd hk (by decide +kernel)
        have bk : p = Str.ofString "bound" → (kinP p).1 = Str.ofString "bound" := fun h => by rw [h]; decide +kernel
        clear hc htk hany
        have O1 := O.same s1
        have qb1 := s1.seq hb
        walk_at "gf"
        refine ⟨a, _, _, _, rfl, rfl, s1.seq ha, at_of (j := i) (Int.zero_add _) (by rw [List.getElem?_map, hp]; rfl), ⟨p, rfl⟩, p, _, rfl, rfl, by decide +kernel, szl (by omega), fun pw hpw => ?_⟩
        rw [split32, e1]
        have sw := same_upd (o := .lst (((kinP p).1 :: rest).map V.str)) hpw
        have ew : (upd H1 pw (.lst (((kinP p).1 :: rest).map V.str))) pw = some (.lst (V.str (kinP p).1 :: rest.map V.str)) := upd_same
        generalize upd H1 pw (.lst (((kinP p).1 :: rest).map V.str)) = H2 at sw ew ⊢
        have s2 := s1.trans sw
        have O2 := O.same s2
        obtain ⟨dxo2, eo2⟩ := O2.ob
        have qb2 := s2.seq hb
        have qa2 := s2.seq ha
        refine ⟨pw, _, _, .str (kinP p).1, rfl, rfl, SqL.of ew, atI_nat (j := 0) rfl, ?_⟩
        walk_at "gf"
        refine iteStr (fun k1 => ?_) (fun k1 => ?_)
        · obtain ⟨m, rfl⟩ := hft.new k1
          obtain rfl : v = .int m := ax
          have en : newA p (.num m) = some (m, (kinP p).2) := by unfold newA; rw [if_pos k1]
          rw [en] at hbad hgood
          walk_at "gf"
          refine ⟨b, _, _, _, rfl, rfl, qb2, at_of (j := i) (Int.zero_add _) hv, ?_⟩
          walk_at "gf"
          refine ⟨a, _, _, _, rfl, rfl, qa2, at_of (j := i) (Int.zero_add _) (by rw [List.getElem?_map, hp]; rfl), ?_⟩
          walk_at "gf"
          refine iteStr (fun k2 => absurd (k1.symm.trans (bk k2)) (by decide +kernel)) (fun k2 => ?_)
          walk_at "gf"
          refine ⟨o, d, rs, nm, m, rfl, O2, _, rfl, ?_⟩
          refine if_b (fun hb => ?_) (fun hb => ?_)
          · walk_at "gf"
            rename_i pt hpt
            exact q2.go 6 "number cannot be given" (by rw [dd, if_pos (hbad hb)]) pt _ (s2.trans (same_upd hpt)) (SqT.of upd_same)
          · exact ⟨_, _, _, _, rfl, s2, hgood hb⟩
        · walk_at "gf"
          refine ⟨a, _, _, _, rfl, rfl, qa2, at_of (j := i) (Int.zero_add _) (by rw [List.getElem?_map, hp]; rfl), ?_⟩
          walk_at "gf"
          refine iteStr (fun k2 => ?_) (fun k2 => ?_)
          · obtain ⟨s0, m, rfl⟩ := hft.bnd (bk k2)
            obtain ⟨tb, rfl, qt, _⟩ := ax.to s2
            have en : newA p (.bnd s0 m) = some (m, s0) := by unfold newA; rw [if_neg k1, if_pos (bk k2)]
            rw [en] at hbad hgood
            walk_at "gf"
            refine ⟨b, _, _, _, rfl, rfl, qb2, at_of (j := i) (Int.zero_add _) hv, ?_⟩
            refine ⟨tb, _, _, .int m, rfl, rfl, qt, atI_nat (j := 1) rfl, ?_⟩
            walk_at "gf"
            refine ⟨o, d, rs, nm, m, rfl, O2, _, rfl, ?_⟩
            refine if_b (fun hb => ?_) (fun hb => ?_)
            · walk_at "gf"
              rename_i pt hpt
              exact q2.go 6 "number cannot be given" (by rw [dd, if_pos (hbad hb)]) pt _ (s2.trans (same_upd hpt)) (SqT.of upd_same)
            · exact ⟨_, _, _, _, rfl, s2, hgood hb⟩
          · have en : newA p x = none := newA_none k1 (fun k => k2 (kb k))
            rw [en] at hgood
            walk_at "gf"
            exact ⟨s2, hgood rfl⟩
      · rintro σ H1 ⟨v4, v5, v6, v7, rfl, s1, hany⟩
        walk_at "gf"
        refine q1.go ?_ _ s1
        rw [dd, if_neg]
        rw [show (newsOf ps vals).take ((((ps.map V.str).length : Nat) : Int)).toNat = newsOf ps vals from by rw [Int.toNat_natCast, List.length_map, ← nwl, List.take_length]] at hany
        rw [hany]; exact Bool.false_ne_true
/-! ### what the writer wrote, the reader reads: pure -/
def AtO (xs : List Int) (p : Nat) (l : List Int) : Prop := ∃ pre rest : List Int, xs = pre ++ (l ++ rest) ∧ pre.length = p
theorem AtO.left {xs l1 l2 : List Int} {p : Nat} (h : AtO xs p (l1 ++ l2)) : AtO xs p l1 := by
  obtain ⟨pre, rest, e, hp⟩ := h
  exact ⟨pre, l2 ++ rest, by rw [e, List.append_assoc], hp⟩
theorem AtO.right {xs l1 l2 : List Int} {p : Nat} (h : AtO xs p (l1 ++ l2)) : AtO xs (p + l1.length) l2 := by
  obtain ⟨pre, rest, e, hp⟩ := h
  exact ⟨pre ++ l1, rest, by rw [e, List.append_assoc, List.append_assoc], by rw [List.length_append, hp]⟩
theorem AtO.len {xs l : List Int} {p : Nat} (h : AtO xs p l) : p + l.length ≤ xs.length := by
  obtain ⟨pre, rest, e, hp⟩ := h
  rw [e, List.length_append, List.length_append]; omega
theorem AtO.take {xs l : List Int} {p : Nat} (h : AtO xs p l) : (xs.drop p).take l.length = l := by
  obtain ⟨pre, rest, rfl, rfl⟩ := h
  rw [List.drop_left, List.take_left]
theorem AtO.get {xs l : List Int} {p : Nat} (h : AtO xs p l) {i : Nat} (hi : i < l.length) : xs.getD (p + i) 0 = l.getD i 0 := by
  obtain ⟨pre, rest, rfl, rfl⟩ := h
  rw [List.getD_eq_getElem?_getD, List.getD_eq_getElem?_getD, List.getElem?_append_right (by omega), show pre.length + i - pre.length = i by omega, List.getElem?_append_left hi]
theorem octs4r (n : Int) : octs n 4 = [n / 1 % 256, n / 256 % 256, n / 65536 % 256, n / 16777216 % 256] := rfl
theorem rdNum_at {xs : List Int} {p : Nat} {n : Int} (h : AtO xs p (octs n 4)) (h0 : 0 ≤ n) (h1 : n < 4294967296) : rdNum xs p = .ok (n, p + 4) := by
  have hl := h.len
  rw [octs_len] at hl
  unfold rdNum
  rw [if_neg (by omega), numAt4]
  have e0 : xs.getD p 0 = n / 1 % 256 := h.get (i := 0) (by rw [octs_len]; decide)
  have e1 : xs.getD (p + 1) 0 = n / 256 % 256 := h.get (i := 1) (by rw [octs_len]; decide)
  have e2 : xs.getD (p + 2) 0 = n / 65536 % 256 := h.get (i := 2) (by rw [octs_len]; decide)
  have e3 : xs.getD (p + 3) 0 = n / 16777216 % 256 := h.get (i := 3) (by rw [octs_len]; decide)
  rw [e0, e1, e2, e3]
  congr 2
  omega
theorem rdNamed_at {xs : List Int} {p : Nat} {n : Int} (h : AtO xs p (octs n 4)) (h0 : 1 ≤ n) (h1 : n < 4294967296) : rdNamed xs p = .ok (n, p + 4) := by
  unfold rdNamed
  rw [rdNum_at h (by omega) h1]
  exact if_neg (by omega)
theorem padN_mod {a b : Nat} (h : a % 4 = b % 4) : padN a = padN b := by unfold padN; omega
theorem rdPad_at {xs : List Int} {e : Nat} (h : AtO xs e (List.replicate (padN e) 0)) : rdPad xs e = .ok (e + padN e) := by
  have hl := h.len
  have ht := h.take
  rw [List.length_replicate] at hl ht
  unfold rdPad
  rw [if_neg (by omega), ht, if_neg]
  rw [List.any_replicate]
  simp
theorem codesS_of (s : Str) : codesS (codesOf s) = s := by
  unfold codesS codesOf
  rw [List.map_map, show (Int.toNat ∘ fun c : Nat => (c : Int)) = id from by funext c; rfl, List.map_id]
theorem pad_mod (l : List Int) : (pad l).length % 4 = 0 := by rw [pad_len]; unfold padN; omega
theorem rdText_at {xs : List Int} {p : Nat} {s : Str} (h : AtO xs p (textOcts s)) (hp : p % 4 = 0) (ok : isText s = true) : rdText xs p = .ok (s, p + (textOcts s).length) := by
  unfold isText at ok
  rw [Bool.and_eq_true] at ok
  have hl := of_decide_eq_true ok.1
  have hall : (codesOf s).all codeOk = true := by
    unfold codesOf; rw [List.all_map]; exact ok.2
  unfold textOcts pad at h
  have a1 := h.left.left.left
  have a2 := h.left.left.right
  have a3 := h.left.right
  have a4 := h.right
  rw [octs_len] at a2
  have hcl := codesOf_len s
  rw [List.length_append, octs_len, hcl] at a3
  rw [List.length_append, List.length_append, octs_len, hcl] at a4
  have lin : ([(0 : Int)] : List Int).length = 1 := rfl
  rw [lin] at a4
  have ht := a2.take
  rw [hcl] at ht
  have hz := a3.get (i := 0) (by decide)
  have hxl := a4.len
  unfold rdText
  rw [rdNum_at a1 (by omega) (by omega)]
  dsimp only
  rw [show ((s.length : Int) + 1).toNat = s.length + 1 by omega]
  rw [if_neg (fun z => z ⟨by omega, by omega⟩), if_neg (by omega)]
  rw [show s.length + 1 - 1 = s.length by omega, ht, show p + 4 + (s.length + 1) - 1 = p + (4 + s.length) + 0 by omega, hz]
  rw [if_neg (fun z => z.elim (fun z => z rfl) (fun z => by rw [hall] at z; cases z))]
  rw [show p + 4 + (s.length + 1) = p + (4 + s.length + 1) by omega]
  rw [padN_mod (show (4 + s.length + 1) % 4 = (p + (4 + s.length + 1)) % 4 by omega)] at a4
  rw [rdPad_at a4]
  dsimp only
  rw [codesS_of]
  congr 2
  unfold textOcts
  rw [pad_len, List.length_append, List.length_append, octs_len, hcl, lin, padN_mod (show (p + (4 + s.length + 1)) % 4 = (4 + s.length + 1) % 4 by omega)]
  omega
theorem rdOcts_at {xs : List Int} {p : Nat} {ys : List Int} (h : AtO xs p (pad (octs ys.length 4 ++ ys))) (hp : p % 4 = 0) (ok : octsOk ys = true) : rdOcts xs p = .ok (ys, p + (pad (octs ys.length 4 ++ ys)).length) := by
  unfold octsOk at ok
  rw [Bool.and_eq_true] at ok
  have hl := of_decide_eq_true ok.1
  unfold pad at h
  have a1 := h.left.left
  have a2 := h.left.right
  have a4 := h.right
  rw [octs_len] at a2
  rw [List.length_append, octs_len] at a4
  have ht := a2.take
  unfold rdOcts
  rw [rdNum_at a1 (by omega) (by omega)]
  dsimp only
  rw [if_neg (by omega), show ((ys.length : Int)).toNat = ys.length by omega, ht]
  rw [show p + 4 + ys.length = p + (4 + ys.length) by omega]
  rw [padN_mod (show (4 + ys.length) % 4 = (p + (4 + ys.length)) % 4 by omega)] at a4
  rw [rdPad_at a4]
  dsimp only
  congr 2
  rw [pad_len, List.length_append, octs_len, padN_mod (show (p + (4 + ys.length)) % 4 = (4 + ys.length) % 4 by omega)]
  omega
theorem spec_mod {k : Str} {x : AV} {ok : Bool} {os : List Int} (h : ArgSpec k x ok os) : os.length % 4 = 0 := by
  cases h with
  | num h => rw [octs_len]
  | txt => exact pad_mod _
  | oct => exact pad_mod _
  | bnd =>
    rw [List.length_append, octs_len]
    rename_i s n
    have : (textOcts s).length % 4 = 0 := pad_mod _
    omega
theorem rdKind_at {xs : List Int} {p : Nat} {k : Str} {x : AV} {os : List Int} (hs : ArgSpec k x true os) (h : AtO xs p os) (hp : p % 4 = 0) : rdKind k xs p = .ok (x, p + os.length) := by
  generalize hb : true = ok at hs
  cases hs with
  | num hn =>
    rename_i lo hi i
    have hi := of_decide_eq_true hb.symm
    rw [octs_len]
    unfold rdKind
    cases hn with
    | uint =>
      rw [if_neg (by decide +kernel), if_neg (by decide +kernel), if_neg (by decide +kernel), if_neg (by decide +kernel), rdNum_at h (by omega) (by omega)]
      dsimp only
      rw [if_neg (fun z => absurd z.1 (by decide +kernel)), Int.emod_eq_of_lt (by omega) (by omega)]
    | maybe =>
      rw [if_neg (by decide +kernel), if_neg (by decide +kernel), if_neg (by decide +kernel), if_neg (by decide +kernel), rdNum_at h (by omega) (by omega)]
      dsimp only
      rw [if_neg (fun z => absurd z.1 (by decide +kernel)), Int.emod_eq_of_lt (by omega) (by omega)]
    | int =>
      rw [if_neg (by decide +kernel), if_neg (by decide +kernel), if_neg (by decide +kernel), if_neg (by decide +kernel), rdNum_at h (by omega) (by omega)]
      dsimp only
      by_cases c : 2147483647 < i % 4294967296
      · rw [if_pos ⟨rfl, c⟩, show i % 4294967296 - 4294967296 = i by omega]
      · rw [if_neg (fun z => c z.2), show i % 4294967296 = i by omega]
    | object =>
      rw [if_neg (by decide +kernel), if_neg (by decide +kernel), if_neg (by decide +kernel), if_pos (Or.inl rfl), rdNamed_at h (by omega) (by omega)]
      dsimp only
      rw [Int.emod_eq_of_lt (by omega) (by omega)]
    | new =>
      rw [if_neg (by decide +kernel), if_neg (by decide +kernel), if_neg (by decide +kernel), if_pos (Or.inr rfl), rdNamed_at h (by omega) (by omega)]
      dsimp only
      rw [Int.emod_eq_of_lt (by omega) (by omega)]
  | txt =>
    unfold rdKind
    rw [if_pos rfl, rdText_at h hp hb.symm]
  | oct =>
    unfold rdKind
    rw [if_neg (by decide +kernel), if_pos rfl, rdOcts_at h hp hb.symm]
  | bnd =>
    rename_i s n
    have hb' := hb.symm
    rw [Bool.and_eq_true] at hb'
    have hn := of_decide_eq_true hb'.2
    unfold rdKind rdBound
    rw [if_neg (by decide +kernel), if_neg (by decide +kernel), if_pos rfl, rdText_at h.left hp hb'.1]
    dsimp only
    rw [rdNamed_at h.right (by omega) (by omega)]
    dsimp only
    rw [List.length_append, octs_len, Nat.add_assoc]
theorem octs_ok {n : Int} {c : Nat} : okOcts (octs n c) := fun x hx => by
  obtain ⟨k, _, rfl⟩ := List.mem_map.mp hx
  exact ⟨Int.emod_nonneg _ (by decide), by have := Int.emod_lt_of_pos (n / 2 ^ (8 * k)) (show (0 : Int) < 256 by decide); omega⟩
theorem okOcts.app {a b : List Int} (h : okOcts a) (g : okOcts b) : okOcts (a ++ b) := fun x hx => (List.mem_append.mp hx).elim (h x) (g x)
theorem okOcts.pad {a : List Int} (h : okOcts a) : okOcts (pad a) := h.app fun x hx => by
  rw [(List.mem_replicate.mp hx).2]; decide
theorem textOcts_ok {s : Str} (ok : isText s = true) : okOcts (textOcts s) := by
  unfold isText at ok
  rw [Bool.and_eq_true] at ok
  refine ((octs_ok.app fun x hx => ?_).app fun x hx => ?_).pad
  · obtain ⟨c, hc, rfl⟩ := List.mem_map.mp hx
    have := of_decide_eq_true (List.all_eq_true.mp ok.2 c hc)
    omega
  · rw [List.mem_singleton.mp hx]; decide
theorem spec_ok {k : Str} {x : AV} {os : List Int} (hs : ArgSpec k x true os) : okOcts os := by
  generalize hb : true = ok at hs
  cases hs with
  | num => exact octs_ok
  | txt => exact textOcts_ok hb.symm
  | oct =>
    have hb' := hb.symm
    unfold octsOk at hb'
    rw [Bool.and_eq_true] at hb'
    exact (octs_ok.app fun x hx => of_decide_eq_true (List.all_eq_true.mp hb'.2 x hx)).pad
  | bnd =>
    have hb' := hb.symm
    rw [Bool.and_eq_true] at hb'
    exact (textOcts_ok hb'.1).app octs_ok
theorem body_ok {args : List Arg} (h : ∀ g ∈ args, ArgSpec g.kind g.val true g.os) : okOcts (bodyOf args) := fun x hx => by
  obtain ⟨g, hg, hx⟩ := List.mem_flatMap.mp hx
  exact spec_ok (h g hg) x hx
theorem rdAll_at {xs : List Int} : ∀ (args : List Arg) (p : Nat), (∀ g ∈ args, ArgSpec g.kind g.val true g.os) → AtO xs p (bodyOf args) → p % 4 = 0 → rdAll xs (args.map Arg.kind) p = .ok (args.map Arg.val, p + (bodyOf args).length)
  | [], p, _, _, _ => rfl
  | g :: r, p, hs, h, hp => by
    have h' : AtO xs p (g.os ++ bodyOf r) := h
    have hg := hs g List.mem_cons_self
    have hm := spec_mod hg
    have ih := rdAll_at r (p + g.os.length) (fun x hx => hs x (List.mem_cons_of_mem _ hx)) h'.right (by omega)
    show rdAll xs (g.kind :: r.map Arg.kind) p = _
    unfold rdAll
    rw [rdKind_at hg h'.left hp]
    dsimp only
    rw [ih]
    dsimp only
    show _ = Except.ok (_, p + (g.os ++ bodyOf r).length)
    rw [List.length_append, Nat.add_assoc]; rfl
theorem rdArgs_at {args : List Arg} (hs : ∀ g ∈ args, ArgSpec g.kind g.val true g.os) : rdArgs (bodyOf args) (args.map Arg.kind) = .ok (args.map Arg.val) := by
  unfold rdArgs
  rw [rdAll_at args 0 hs ⟨[], [], by rw [List.append_nil]; rfl, rfl⟩ rfl]
  dsimp only
  exact if_neg (by omega)
/-! ### the values as data -/
def avD : AV → PyData
  | .num i => .int i
  | .txt s => .str s
  | .oct xs => pInts xs
  | .bnd s n => .tuple [.str s, .int n]
theorem avD_at {K : PySem.W.Frag} {H : Hp} {v : V} {x : AV} (h : ArgAt K H v x) : Dp K H v (avD x) := by
  cases x with
  | num i => obtain rfl : v = .int i := h; exact .int i
  | txt s => obtain ⟨rfl, _⟩ := h; exact .str s
  | oct xs => obtain ⟨a, rfl, e, _⟩ := h; exact dp_ints (SqL.of e)
  | bnd s n => obtain ⟨a, rfl, e, _⟩ := h; exact .tup e (.cons (.str s) (.cons (.int n) .nil))
theorem text_strOk {s : Str} (ok : isText s = true) : PyData.strOk s = true := by
  unfold isText at ok
  rw [Bool.and_eq_true] at ok
  unfold PyData.strOk
  rw [← Array.all_toList, List.all_eq_true]
  intro c hc
  have := of_decide_eq_true (List.all_eq_true.mp ok.2 c hc)
  exact decide_eq_true (by omega)
theorem avD_sh {k : Str} {x : AV} {os : List Int} (hs : ArgSpec k x true os) : Sh 1 (avD x) := by
  generalize hb : true = ok at hs
  cases hs with
  | num => exact (sh_int _).mono (by decide)
  | txt => exact (sh_str (text_strOk hb.symm)).mono (by decide)
  | oct => exact sh_ints _
  | bnd =>
    have hb' := hb.symm
    rw [Bool.and_eq_true] at hb'
    refine sh_tuple fun d hd => ?_
    simp only [List.mem_cons, List.not_mem_nil, or_false] at hd
    rcases hd with rfl | rfl
    · exact sh_str (text_strOk hb'.1)
    · exact sh_int _
theorem dpall_of {K : PySem.W.Frag} {H : Hp} : ∀ {vs : List V} {ds : List PyData}, vs.length = ds.length → (∀ (i : Nat) (v : V), vs[i]? = some v → ∃ d, ds[i]? = some d ∧ Dp K H v d) → DpAll K H vs ds
  | [], [], _, _ => .nil
  | v :: vs, d :: ds, hl, h => by
    obtain ⟨d', e, q⟩ := h 0 v rfl
    obtain rfl := Option.some.inj e
    exact .cons q (dpall_of (Nat.succ.inj hl) fun i x hx => h (i + 1) x hx)
theorem ValsAt.dp {K : PySem.W.Frag} {H : Hp} {vs : List V} {rs : List AV} (h : ValsAt K H vs rs) : DpAll K H vs (rs.map avD) :=
  dpall_of (by rw [List.length_map]; exact h.1) fun i v hv => by
    obtain ⟨x, e, q⟩ := h.2 i v hv
    exact ⟨avD x, by rw [List.getElem?_map, e]; rfl, avD_at q⟩
/-! ### one request asked -/
/-- of each list's item something is known: a list of what is known -/
theorem choose_list {α : Type} : ∀ {vs : List V} {R : Nat → V → α → Prop}, (∀ i v, vs[i]? = some v → ∃ a, R i v a) → ∃ l : List α, l.length = vs.length ∧ ∀ (i : Nat) (v : V) (a : α), vs[i]? = some v → l[i]? = some a → R i v a
  | [], R, _ => ⟨[], rfl, fun i v a h => (by cases h)⟩
  | v :: vs, R, h => by
    obtain ⟨a, ha⟩ := h 0 v rfl
    obtain ⟨l, hl, hr⟩ := choose_list (vs := vs) (R := fun i v a => R (i + 1) v a) fun i v e => h (i + 1) v e
    refine ⟨a :: l, by rw [List.length_cons, List.length_cons, hl], fun i v' a' e1 e2 => ?_⟩
    cases i with
    | zero => cases e1; cases e2; exact ha
    | succ i => exact hr i v' a' e1 e2
theorem names_of {rs : List ORow} (W : WorldOk rs) {r : ORow} (h : r ∈ rs) : ∃ t ∈ tab, t.1 = r.2 := by
  have := W.nm r h
  unfold tabNames12 at this
  obtain ⟨t, ht, e⟩ := List.mem_map.mp this
  exact ⟨t, ht, e⟩
/-- the facts of the table's rows: against the program's table of requests -/
structure TabRq (A : Adr) (w : World) (K : PySem.W.Frag) (t : TR) : Prop where
  sr : (A.a_REQUESTS == sysModules) = false
  rq : ∃ ar, KDct K w A.a_REQUESTS t.1 (.ref ar) ∧ ∀ H, Dp K H (.ref ar) (rqD t.2.1)
  d1 : (t.2.1.map fun r => r.1).Nodup
  l1 : t.2.1.length ≤ 100
  l2 : ∀ r ∈ t.2.1, r.2.1.length ≤ 20
  s0 : ∀ r ∈ t.2.1, PyData.strOk r.1 = true
  ok : ∀ r ∈ t.2.1, ∀ p ∈ r.2.1, okPart p = true
  s1 : ∀ r ∈ t.2.1, ∀ s ∈ r.2.1, PyData.strOk s = true ∧ PyData.strOk (kinP s).2 = true
  un : ∀ r ∈ t.2.1, (r.2.1.filter fun s => decide ((kinP s).1 = Str.ofString "new" ∨ (kinP s).1 = Str.ofString "bound")).length ≤ 1
structure TabAll12 (A : Adr) (w : World) (K : PySem.W.Frag) : Prop where
  all : ∀ t ∈ tab, TabRq A w K t
  nd : (tab.map fun t => t.1).Nodup
  so : ∀ s ∈ tab.map (fun t => t.1), PyData.strOk s = true
theorem tab_find {A : Adr} {w : World} {K : PySem.W.Frag} (TA : TabAll12 A w K) {t : TR} (ht : t ∈ tab) : tab.filter (fun s => decide (s.1 = t.1)) = [t] := by
  have nd := TA.nd
  generalize tab = l at ht nd
  induction l with
  | nil => cases ht
  | cons a l ih =>
    rw [List.map_cons, List.nodup_cons] at nd
    rcases List.mem_cons.mp ht with rfl | ht
    · rw [List.filter_cons_of_pos (by simp)]
      congr 1
      refine List.filter_eq_nil_iff.mpr fun s hs => ?_
      have : s.1 ≠ t.1 := fun z => nd.1 (by rw [← z]; exact List.mem_map_of_mem hs)
      simpa using this
    · have : a.1 ≠ t.1 := fun z => nd.1 (by rw [z]; exact List.mem_map_of_mem ht)
      rw [List.filter_cons_of_neg (by simpa using this)]
      exact ih ht nd.2
theorem TabRq.at_ {A : Adr} {w : World} {K : PySem.W.Frag} {t : TR} (h : TabRq A w K t) (ht : t ∈ tab) {j : Nat} {row : RqRow} (hj : t.2.1[j]? = some row) : (∃ ar, RqAt A w K t.1 ar t.2.1 j row) ∧ ∀ p ∈ row.2.1, okPart p = true := by
  have hok : ∀ p ∈ row.2.1, okPart p = true := h.ok row (List.mem_of_getElem? hj)
  obtain ⟨ar, kd, dp⟩ := h.rq
  refine ⟨⟨ar, h.sr, kd, dp, by have := h.l1; omega, hj, fun k row' hk hr => ?_, by have := h.l2 row (List.mem_of_getElem? hj); omega, fun s hs => ?_, fun s hs => ?_⟩, hok⟩
  · intro e
    have n := h.d1
    have a1 : (t.2.1.map fun r => r.1)[k]? = some row'.1 := by rw [List.getElem?_map, hr]; rfl
    have a2 : (t.2.1.map fun r => r.1)[j]? = some row.1 := by rw [List.getElem?_map, hj]; rfl
    rw [e] at a1
    have := (List.getElem?_inj (List.getElem?_eq_some_iff.mp a1).1 n).mp (a1.trans a2.symm)
    omega
  · have := (okPart_ex (hok s hs)).1; omega
  · rcases (okPart_ex (hok s hs)).2 with ⟨k, _, e, _⟩ | ⟨k, x, _, e, _, hx⟩
    · rw [e]; show (0 : Nat) ≤ 2000; decide
    · rw [e]; show x.length ≤ 2000; omega
theorem fm_filterMap {α β : Type} (f : α → Option β) (xs : List α) (n : Nat) (h : n = xs.length) (g : Nat → Option β) (hg : ∀ i x, xs[i]? = some x → g i = f x) : fm g n = xs.filterMap f := by
  subst h
  have h2 : ∀ n, n ≤ xs.length → fm g n = (xs.take n).filterMap f := by
    intro n
    induction n with
    | zero => intro _; rfl
    | succ n ih =>
      intro hn
      rw [fm_succ, ih (by omega), List.take_succ_eq_append_getElem (by omega), List.filterMap_append, hg n xs[n] (List.getElem?_eq_getElem (by omega))]
      cases e : f xs[n] with
      | none => simp [e]
      | some y => simp [e]
  rw [h2 _ (Nat.le_refl _), List.take_length]
theorem filterMap_if {α β : Type} (p : α → Prop) [DecidablePred p] (g : α → β) : ∀ l : List α, (l.filterMap fun x => if p x then some (g x) else none) = (l.filter fun x => decide (p x)).map g
  | [] => rfl
  | a :: l => by
    rw [List.filterMap_cons]
    by_cases h : p a
    · rw [if_pos h, List.filter_cons_of_pos (by simpa using h), List.map_cons, filterMap_if p g l]
    · rw [if_neg h, List.filter_cons_of_neg (by simpa using h)]; exact filterMap_if p g l
theorem sh_spl {r : Spl} (h0 : PyData.strOk r.1 = true) (h1 : ∀ s ∈ r.2.1, PyData.strOk s = true) : Sh 2 (splD r) := sh_tuple fun d hd => by
  simp only [List.mem_cons, List.not_mem_nil, or_false] at hd
  rcases hd with rfl | rfl | rfl
  · exact (sh_str h0).mono (by decide)
  · exact sh_list fun d hd => by
      obtain ⟨s, hs, rfl⟩ := List.mem_map.mp hd
      exact sh_str (h1 s hs)
  · exact (sh_bool _).mono (by decide)
theorem neSelf {x : V} {A B : Prop} (h : B) : if (!decide (x = x)) = true then A else B := by rw [if_neg (by simp)]; exact h
theorem GoodV.to {K : PySem.W.Frag} {rs : List ORow} {p : Str} {U U' : Hp} {v : V} (h : GoodV K rs p U v) (s : Same U U') : GoodV K rs p U' v := by
  rcases h with h | ⟨g, h1, h2⟩
  · exact .inl h
  · exact .inr ⟨g, h1, h2.to s⟩
theorem body_cut {n : Int} {j : Int} (b : List Int) : cutV ((msgOcts n j b).map V.int) (some 8) none = b.map V.int := by
  have hl : (msgOcts n j b).length = 8 + b.length := by
    unfold msgOcts
    simp only [List.length_append, octs_len]
  have e : (msgOcts n j b).drop 8 = b := by
    unfold msgOcts
    rw [List.drop_append_of_le_length (by simp only [List.length_append, octs_len]; omega), List.drop_of_length_le (by simp only [List.length_append, octs_len]; omega), List.nil_append]
  unfold cutV
  have h1 : HT.sIx ((msgOcts n j b).map V.int).length 0 (some 8) = 8 := by
    show HT.sIx _ 0 (some ((8 : Nat) : Int)) = 8
    rw [HT.sIx_nat, List.length_map, hl]; omega
  rw [h1, HT.sIx_none, ← List.map_drop, e, List.take_of_length_le]
  rw [List.length_map, List.length_map, hl]; omega
def dueV (K : PySem.W.Frag) (H : Hp) (v : V) : Option (Int × Str) → Prop
  | none => v = .non
  | some (m, s) => ∃ t, v = .ref t ∧ SqT K H t [.int m, .str s]
theorem newA_kind {p : Str} {x : AV} {z : Int × Str} (h : newA p x = some z) : (kinP p).1 = Str.ofString "new" ∨ (kinP p).1 = Str.ofString "bound" := by
  unfold newA at h
  by_cases c : (kinP p).1 = Str.ofString "new"
  · exact .inl c
  · rw [if_neg c] at h
    by_cases c2 : (kinP p).1 = Str.ofString "bound"
    · exact .inr c2
    · rw [if_neg c2] at h; cases h
theorem filter_two {α : Type} {p : α → Bool} : ∀ {l : List α} {i j : Nat} {x y : α}, (l.filter p).length ≤ 1 → l[i]? = some x → l[j]? = some y → p x = true → p y = true → i = j
  | [], i, j, x, y, _, h, _, _, _ => by cases h
  | a :: l, 0, 0, x, y, _, _, _, _, _ => rfl
  | a :: l, 0, j + 1, x, y, h, h1, h2, h3, h4 => by
    cases h1
    rw [List.filter_cons_of_pos h3, List.length_cons] at h
    have := List.mem_filter.mpr ⟨List.mem_of_getElem? (i := j) h2, h4⟩
    have := List.length_pos_of_mem this
    omega
  | a :: l, i + 1, 0, x, y, h, h1, h2, h3, h4 => by
    cases h2
    rw [List.filter_cons_of_pos h4, List.length_cons] at h
    have := List.mem_filter.mpr ⟨List.mem_of_getElem? (i := i) h1, h3⟩
    have := List.length_pos_of_mem this
    omega
  | a :: l, i + 1, j + 1, x, y, h, h1, h2, h3, h4 => by
    have h' : (l.filter p).length ≤ 1 := by
      by_cases c : p a = true
      · rw [List.filter_cons_of_pos c, List.length_cons] at h; omega
      · rw [List.filter_cons_of_neg c] at h; exact h
    rw [filter_two (l := l) (i := i) (j := j) h' h1 h2 h3 h4]
/-- what is due behind one argument more -/
theorem news_step {ps : List Str} {vals : List AV} {i : Nat} {p : Str} {x : AV} (un : (ps.filter fun s => decide ((kinP s).1 = Str.ofString "new" ∨ (kinP s).1 = Str.ofString "bound")).length ≤ 1) (h1 : ps[i]? = some p) (h2 : vals[i]? = some x) :
    (((newsOf ps vals).take (i + 1)).findSome? id = match newA p x with | some z => some z | none => ((newsOf ps vals).take i).findSome? id) := by
  have e := newsOf_at h1 h2
  obtain ⟨g1, g2⟩ := List.getElem?_eq_some_iff.mp e
  rw [List.take_succ_eq_append_getElem g1, g2, List.findSome?_append]
  cases hn : newA p x with
  | none => cases ((newsOf ps vals).take i).findSome? id <;> rfl
  | some z =>
    have : ((newsOf ps vals).take i).findSome? id = none := by
      cases hs : ((newsOf ps vals).take i).findSome? id with
      | none => rfl
      | some z' =>
        exfalso
        have hm := findSome_mem hs
        obtain ⟨k, hk⟩ := List.getElem?_of_mem hm
        have hki : k < i := by
          have := (List.getElem?_eq_some_iff.mp hk).1
          rw [List.length_take] at this; omega
        rw [List.getElem?_take_of_lt hki] at hk
        unfold newsOf at hk
        rw [List.getElem?_map] at hk
        obtain ⟨⟨p', x'⟩, hz, hnx⟩ := Option.map_eq_some_iff.mp hk
        rw [List.getElem?_zip_eq_some] at hz
        have hnx' : newA p' x' = some z' := hnx
        have := filter_two un hz.1 h1 (decide_eq_true (newA_kind hnx')) (decide_eq_true (newA_kind hn))
        omega
    rw [this]; rfl
/-! ### what reading answers to octets with a problem -/
theorem rdArgs_more {args : List Arg} {ys : List Int} (hs : ∀ g ∈ args, ArgSpec g.kind g.val true g.os) (hy : ys ≠ []) : rdArgs (bodyOf args ++ ys) (args.map Arg.kind) = .error .len := by
  have h : rdAll (bodyOf args ++ ys) (args.map Arg.kind) 0 = .ok (args.map Arg.val, 0 + (bodyOf args).length) := rdAll_at args 0 hs ⟨[], ys, rfl, rfl⟩ rfl
  unfold rdArgs
  rw [h]
  dsimp only
  rw [if_pos (by rw [List.length_append]; have := List.length_pos_iff.mpr hy; omega)]
theorem rdArgs_miss {k : Str} {ks : List Str} {r : List Int} (hk : k = Str.ofString "new" ∨ k = Str.ofString "object") : rdArgs ([0, 0, 0, 0] ++ r) (k :: ks) = .error .miss := by
  have h0 : rdNum ([0, 0, 0, 0] ++ r) 0 = .ok (0, 0 + 4) := rdNum_at (n := 0) ⟨[], r, by rw [show octs 0 4 = [0, 0, 0, 0] from by decide]; rfl, rfl⟩ (by omega) (by omega)
  have h1 : rdKind k ([0, 0, 0, 0] ++ r) 0 = .error .miss := by
    unfold rdKind
    rw [if_neg (by rcases hk with rfl | rfl <;> decide +kernel), if_neg (by rcases hk with rfl | rfl <;> decide +kernel), if_neg (by rcases hk with rfl | rfl <;> decide +kernel), if_pos (hk.symm)]
    unfold rdNamed
    rw [h0]
    rfl
  unfold rdArgs rdAll
  rw [h1]
/-- the program's own order and the law's: one new object at most -/
theorem new_any {rs : List ORow} {ps : List Str} {vals : List AV} (un : (ps.filter fun s => decide ((kinP s).1 = Str.ofString "new" ∨ (kinP s).1 = Str.ofString "bound")).length ≤ 1) :
    (match (newsOf ps vals).findSome? id with | none => (none : Option (Int × Str)) | some f => if mayGive rs f.1 = true then (none : Option (Int × Str)) else some ((6 : Int), ("number cannot be given" : Str))) = if (newsOf ps vals).any (badN rs) = true then some ((6 : Int), ("number cannot be given" : Str)) else (none : Option (Int × Str)) := by
  have key : ∀ f, (newsOf ps vals).findSome? id = some f → ∀ z ∈ newsOf ps vals, z = none ∨ z = some f := fun f hf z hz => by
    have hm := findSome_mem hf
    obtain ⟨i, hi⟩ := List.getElem?_of_mem hm
    obtain ⟨j, hj⟩ := List.getElem?_of_mem hz
    cases z with
    | none => exact .inl rfl
    | some g =>
      refine .inr ?_
      have hi0 := hi
      have hj0 := hj
      unfold newsOf at hi hj
      rw [List.getElem?_map] at hi hj
      obtain ⟨⟨p, x⟩, h1, h2⟩ := Option.map_eq_some_iff.mp hi
      obtain ⟨⟨p', x'⟩, h3, h4⟩ := Option.map_eq_some_iff.mp hj
      rw [List.getElem?_zip_eq_some] at h1 h3
      have a1 : newA p x = some f := h2
      have a2 : newA p' x' = some g := h4
      obtain rfl := filter_two un h1.1 h3.1 (decide_eq_true (newA_kind a1)) (decide_eq_true (newA_kind a2))
      exact hj0.symm.trans hi0 |> Option.some.inj
  cases hf : (newsOf ps vals).findSome? id with
  | none =>
    have : ∀ z ∈ newsOf ps vals, z = none := fun z hz => by
      have := List.findSome?_eq_none_iff.mp hf z hz
      exact this
    dsimp only
    rw [if_neg (by
      rw [Bool.not_eq_true]
      refine List.any_eq_false.mpr fun z hz => ?_
      rw [this z hz]; exact Bool.false_ne_true)]
  | some f =>
    dsimp only
    have hm := findSome_mem hf
    by_cases hg : mayGive rs f.1 = true
    · rw [if_pos hg, if_neg]
      rw [Bool.not_eq_true]
      refine List.any_eq_false.mpr fun z hz => ?_
      rcases key f hf z hz with rfl | rfl
      · exact Bool.false_ne_true
      · show ¬ (!mayGive rs f.1) = true; rw [hg]; exact Bool.false_ne_true
    · rw [if_neg hg, if_pos]
      exact List.any_eq_true.mpr ⟨_, hm, by show (!mayGive rs f.1) = true; rw [Bool.not_eq_true] at hg; rw [hg]; rfl⟩
/-! ### a comprehension whose list is outside the view -/
section
variable {α : Type} {Rl : Hp → V → α → Prop}
theorem lc_relD (mono : ∀ U U' v a, Same U U' → Rl U v a → Rl U' v a) {J : It} {n : Nat} {G : Hp → Prop} {Y : Nat → Hp → V → Hp → Prop} (wk : Walk J n G Y) {V0 H0 : Hp} {D : Addr} {g : TG} {tt : TT} {te : TE} {vs : List Nat} {σ : St} {Qd : Hp → Prop} (f : Nat → Option α) (σ0 : St) (hσ : wipe σ vs = σ0) (s0 : Same V0 H0) (hD : H0 D = none) (hn : n < 100000)
    (hG : ∀ H, Same H0 H → G H) (hY : ∀ i H x H', Y i H x H' → H' = H)
    (hs : ∀ i x V H, i < n → Ext V0 H0 V H → Y i H x H → ∀ (Qy : VK) (Qn : Hp → Prop), (∀ d y V' H', f i = some d → Ext V H V' H' → Rl V' y d → Qy y H') → (f i = none → ∀ V' H', Ext V H V' H' → Qn H') →
      g x σ0 H fun σ2 H2 => wipe σ2 vs = σ0 ∧ tt σ2 H2 fun b H3 => if b = true then te σ2 H3 Qy else Qn H3)
    (hd : ∀ (U H : Hp) (xs : List V), Ext V0 H0 U H → U D = none → H D = some (.lst xs) → AllR Rl U xs (fm f n) → Qd H) :
    ∃ W : Nat → Nat → Hp → Prop, (∃ m, W 0 m (upd H0 D (.lst []))) ∧ ∀ i m H, W i m H →
      (J.stop i H ∧ Qd H) ∨ (J.go i H ∧ ∃ Nx : Hp → Prop, (∀ H', Nx H' → ∃ m', m' < m ∧ W (i + 1) m' H') ∧ ∀ x H', J.yld i H x H' → g x (wipe σ vs) H' fun σ2 H2 => wipe σ2 vs = wipe σ vs ∧ tt σ2 H2 fun b H3 =>
        if b = true then te σ2 H3 fun y H4 => ∃ acc, H4 D = some (.lst acc) ∧ acc.length < sizeLine ∧ Nx (upd H4 D (.lst (acc ++ [y]))) else Nx H3) := by
  subst hσ
  refine lc_it wk (fun i H => LcR Rl V0 H0 D (fm f i) H) ⟨V0, [], Ext.skip s0 hD, s0.free hD, upd_same, trivial⟩ (fun i H _ p => ?_) (fun i x H H' hi p y => ?_) (fun H p => ?_)
  · obtain ⟨V, xs, x, _⟩ := p.ex
    exact hG H x.hh
  · obtain ⟨V, xs, x0, hv, hdd, dp⟩ := p.ex
    obtain rfl := hY i H x H' y
    refine hs i x V H' hi x0 y _ _ (fun d y' V' H4 e x2 dy => ?_) (fun e V' H4 x2 => ?_)
    · have hl : xs.length < 100000 := by
        rw [allr_len dp]; exact Nat.lt_of_le_of_lt (fm_len f i) (Nat.lt_trans hi hn)
      have hv' : V' D = none := x2.keepOut hv (by rw [hdd]; exact fun z => by cases z)
      refine ⟨xs, x2.hh _ _ hdd, lt_line hl, V', xs ++ [y'], (x0.trans x2).poke hD hv', hv', upd_same, ?_⟩
      rw [fm_succ, e]
      exact allr_app (allr_to mono x2.vv dp) ⟨dy, trivial⟩
    · have hv' : V' D = none := x2.keepOut hv (by rw [hdd]; exact fun z => by cases z)
      rw [fm_succ, e]
      show LcR Rl V0 H0 D (fm f i ++ []) H4
      rw [List.append_nil]
      exact ⟨V', xs, x0.trans x2, hv', x2.hh _ _ hdd, allr_to mono x2.vv dp⟩
  · obtain ⟨U, xs, x, hv, hdd, dp⟩ := p.ex
    exact hd U H xs x hv hdd dp
end
/-! ### requests with problems -/
theorem TabRq.atr {A : Adr} {w : World} {K : PySem.W.Frag} {t : TR} (h : TabRq A w K t) {ar : Addr} (kd : KDct K w A.a_REQUESTS t.1 (.ref ar)) (dp : ∀ H, Dp K H (.ref ar) (rqD t.2.1)) {j : Nat} {row : RqRow} (hj : t.2.1[j]? = some row) : RqAt A w K t.1 ar t.2.1 j row := by
  have hok : ∀ p ∈ row.2.1, okPart p = true := h.ok row (List.mem_of_getElem? hj)
  refine ⟨h.sr, kd, dp, by have := h.l1; omega, hj, fun k row' hk hr => ?_, by have := h.l2 row (List.mem_of_getElem? hj); omega, fun s hs => ?_, fun s hs => ?_⟩
  · intro e
    have n := h.d1
    have a1 : (t.2.1.map fun r => r.1)[k]? = some row'.1 := by rw [List.getElem?_map, hr]; rfl
    have a2 : (t.2.1.map fun r => r.1)[j]? = some row.1 := by rw [List.getElem?_map, hj]; rfl
    rw [e] at a1
    have := (List.getElem?_inj (List.getElem?_eq_some_iff.mp a1).1 n).mp (a1.trans a2.symm)
    omega
  · have := (okPart_ex (hok s hs)).1; omega
  · rcases (okPart_ex (hok s hs)).2 with ⟨k, _, e, _⟩ | ⟨k, x, _, e, _, hx⟩
    · rw [e]; show (0 : Nat) ≤ 2000; decide
    · rw [e]; show x.length ≤ 2000; omega
theorem rowsIn_eq {A : Adr} {w : World} {K : PySem.W.Frag} (TA : TabAll12 A w K) {t : TR} (ht : t ∈ tab) : rowsIn t.1 = t.2.1 := by
  unfold rowsIn
  rw [← List.head?_filter, tab_find TA ht]; rfl
theorem told_tab {A : Adr} {w : World} {K : PySem.W.Frag} (TA : TabAll12 A w K) {rs : List ORow} (W : WorldOk rs) (n : Int) (i : Str) (hi : find rs n = some i) : ∃ ar, (A.a_REQUESTS == sysModules) = false ∧ KDct K w A.a_REQUESTS i (.ref ar) ∧ (∀ H, Dp K H (.ref ar) (rqD (rowsIn i))) ∧ ∀ j row, (rowsIn i)[j]? = some row → RqAt A w K i ar (rowsIn i) j row := by
  obtain ⟨t, ht, e⟩ := names_of W (find_mem hi)
  have e' : t.1 = i := e
  subst e'
  rw [rowsIn_eq TA ht]
  have hT := TA.all t ht
  obtain ⟨ar, kd, dp⟩ := hT.rq
  exact ⟨ar, hT.sr, kd, dp, fun j row hj => hT.atr kd dp hj⟩
theorem find_no {rs : List ORow} (W : WorldOk rs) : find rs 987654 = none := by
  cases h : find rs 987654 with
  | none => rfl
  | some i => exact absurd rfl (W.no _ (find_mem h))
theorem look_over {A : Adr} {w : World} {K : PySem.W.Frag} (TA : TabAll12 A w K) {rs : List ORow} {t : TR} (ht : t ∈ tab) {n op : Int} {xs : List Int} (hf : find rs n = some t.1) (ho : (t.2.1.length : Int) ≤ op) : lookF rs rowsIn n op xs = some ((n, 4, "no such request") : Int × Int × Str) := by
  unfold lookF
  rw [hf]
  dsimp only
  rw [rowsIn_eq TA ht, List.getElem?_eq_none (by omega)]
theorem look_none {rs : List ORow} (W : WorldOk rs) {op : Int} {xs : List Int} : lookF rs rowsIn 987654 op xs = some ((1, 3, "no such object") : Int × Int × Str) := by
  unfold lookF
  rw [find_no W]
theorem src_nil {K : PySem.W.Frag} {H : Hp} {p : Addr} (e : H p = some (.lst [])) : Src K H p [] := ⟨SqL.of e, (fun x hx => by cases hx), by show (0 : Nat) < 100000; decide⟩
theorem allr_ints {U : Hp} : ∀ {us : List V} {rs : List Int}, AllR (fun (_ : Hp) v (r : Int) => v = V.int r) U us rs → us = rs.map V.int
  | [], [], _ => rfl
  | _ :: us, _ :: rs, h => by rw [List.map_cons, h.1, ← allr_ints h.2]
  | [], _ :: _, h => h.elim
  | _ :: _, [], h => h.elim
theorem look_body {A : Adr} {w : World} {K : PySem.W.Frag} (TA : TabAll12 A w K) {rs : List ORow} {t : TR} (ht : t ∈ tab) {n : Int} {j : Nat} {row : RqRow} {xs : List Int} {vals : List AV} (hf : find rs n = some t.1) (hr : t.2.1[j]? = some row) (un : (row.2.1.filter fun s => decide ((kinP s).1 = Str.ofString "new" ∨ (kinP s).1 = Str.ofString "bound")).length ≤ 1) (h : rdArgs xs (kindsOf row.2.1) = .ok vals) : lookF rs rowsIn n (j : Int) xs = (dueL rs row.2.1 vals).map fun f => (n, f.1, f.2) := by
  unfold lookF
  rw [hf]
  dsimp only
  rw [rowsIn_eq TA ht, Int.toNat_natCast, hr]
  dsimp only
  rw [h]
  dsimp only
  unfold dueL
  cases (nmsOf rs row.2.1 vals).findSome? id with
  | some f => rfl
  | none =>
    dsimp only
    rw [← new_any un]
    cases (newsOf row.2.1 vals).findSome? id with
    | none => rfl
    | some f =>
      dsimp only
      split <;> rfl
theorem look_err {A : Adr} {w : World} {K : PySem.W.Frag} (TA : TabAll12 A w K) {rs : List ORow} {t : TR} (ht : t ∈ tab) {n : Int} {j : Nat} {row : RqRow} {xs : List Int} {e : RErr} (hf : find rs n = some t.1) (hr : t.2.1[j]? = some row) (h : rdArgs xs (kindsOf row.2.1) = .error e) : lookF rs rowsIn n (j : Int) xs = some (n, 2, argWords e) := by
  unfold lookF
  rw [hf]
  dsimp only
  rw [rowsIn_eq TA ht, Int.toNat_natCast, hr]
  dsimp only
  rw [h]
theorem GoodV.enc {K : PySem.W.Frag} {rs : List ORow} {p : Str} {U : Hp} {v : V} (h : GoodV K rs p U v) (hv : v ≠ .non) : EncV K p U v := by
  rcases h with ⟨z, _⟩ | ⟨g, h1, h2⟩
  · exact absurd z hv
  · exact ⟨g, h1.enc, h2⟩
theorem GoodV.one {K : PySem.W.Frag} {rs : List ORow} {p : Str} {U : Hp} (h : GoodV K rs p U .non) (U' : Hp) : EncV K p U' (.int 1) := by
  rcases h with ⟨_, z⟩ | ⟨g, h1, h2⟩
  · simp only [List.mem_cons, List.not_mem_nil, or_false] at z
    rcases z with z | z
    · exact enc_num z NumKind.maybe (by omega)
    · exact enc_num z NumKind.object (by omega)
  · exfalso
    generalize g.val = x at h2
    cases x with
    | num _ => cases h2
    | txt _ => cases h2.1
    | oct _ => obtain ⟨_, h, _⟩ := h2; cases h
    | bnd _ _ => obtain ⟨_, h, _⟩ := h2; cases h
theorem body_four {b : List Int} : cutV ((b).map V.int) (some 4) none = (b.drop 4).map V.int := by
  unfold cutV
  rw [HT.sIx_none, ← List.map_drop]
  have h1 : HT.sIx (b.map V.int).length 0 (some 4) = min 4 b.length := by
    show HT.sIx _ 0 (some ((4 : Nat) : Int)) = _
    rw [HT.sIx_nat, List.length_map]
  rw [h1]
  by_cases c : 4 ≤ b.length
  · rw [show min 4 b.length = 4 from by omega, List.take_of_length_le (by simp only [List.length_map, List.length_drop]; omega)]
  · rw [show min 4 b.length = b.length from by omega, List.drop_of_length_le (by omega), List.drop_of_length_le (by omega), List.map_nil, List.take_nil]
theorem dueL_ok {rs : List ORow} {ps : List Str} {vals : List AV} {f : Int × Str} (h : dueL rs ps vals = some f) : PyData.strOk f.2 = true := by
  unfold dueL at h
  cases hn : (nmsOf rs ps vals).findSome? id with
  | some g =>
    rw [hn] at h
    obtain rfl : g = f := Option.some.inj h
    have hm := findSome_mem hn
    unfold nmsOf at hm
    obtain ⟨⟨p, x⟩, _, e⟩ := List.mem_map.mp hm
    have e' : nmA rs p x = some g := e
    unfold nmA at e'
    split at e'
    · split at e'
      · unfold nmFlt at e'
        split at e'
        · cases e'; decide +kernel
        · split at e'
          · cases e'
          · cases e'; decide +kernel
      · cases e'
    · cases e'
  | none =>
    rw [hn] at h
    dsimp only at h
    split at h
    · cases h; decide +kernel
    · cases h
theorem dpall_strs' {K : PySem.W.Frag} {H : Hp} : ∀ l : List Str, DpAll K H (l.map V.str) (l.map PyData.str)
  | [] => .nil
  | a :: l => .cons (.str a) (dpall_strs' l)
def fl3 (a c : Int) (wd : Str) : PyData := .tuple [.int a, .int c, .str wd]
theorem sh_fl3 {a c : Int} {wd : Str} (h : PyData.strOk wd = true) : Sh 1 (fl3 a c wd) := sh_tuple fun dd hdd => by
  simp only [List.mem_cons, List.not_mem_nil, or_false] at hdd
  rcases hdd with rfl | rfl | rfl
  · exact sh_int _
  · exact sh_int _
  · exact sh_str h
theorem dp_fl3 {K : PySem.W.Frag} {H : Hp} {p : Addr} {a c : Int} {wd : Str} (h : SqT K H p [.int a, .int c, .str wd]) : Dp K H (.ref p) (fl3 a c wd) := .tup h (.cons (.int _) (.cons (.int _) (.cons (.str _) .nil)))
theorem due_ne {A : Adr} {w : World} {K : PySem.W.Frag} {x1 x2 x3 x5 x6 x9 x10 x12 : Option V} {o d pa pw pb : Addr} {rs : List ORow} {nm n op : Int} {ps : List Str} {body : List Int} {H : Hp} {us : List V} {vals : List AV} {ks}
    (O : ObjAt A.CObjects H o d rs nm) (wln : rs.length < 512) (qa : SqL K H pa (ps.map V.str)) (epw : H pw = some (.lst us)) (va : ValsAt K H us vals) (eb : H pb = some (.lst (body.map V.int))) (hb : okOcts body) (hbl : body.length ≤ 20000) (hop : 0 ≤ op) (ht : (∀ i, find rs n = some i → ∃ ar, (A.a_REQUESTS == sysModules) = false ∧ KDct K w A.a_REQUESTS i (.ref ar) ∧ (∀ H, Dp K H (.ref ar) (rqD (rowsIn i))) ∧ ∀ j row, (rowsIn i)[j]? = some row → RqAt A w K i ar (rowsIn i) j row))
    (hvl : vals.length = ps.length) (hpl : ps.length ≤ 100) (hok : ∀ p ∈ ps, okPart p = true) (hfit : ∀ (i : Nat) (p : Str) (x : AV), ps[i]? = some p → vals[i]? = some x → FitA p x)
    (lb : lookF rs rowsIn n op body = (dueL rs ps vals).map fun f => (n, f.1, f.2)) (hk : ∀ H', Same H H' → ks.nx [some (.ref o), x1, x2, x3, some (.int n), x5, x6, some (.int op), some (.ref pa), x9, x10, some (.ref pw), x12, some (.ref pb)] H') :
    (tIfS (tTest (tOp (rNeD K) (tCall (sp__law_told A w K) [] E0 (tCons (tVar 0) (tCons (tTup (tCons (tVar 4) (tCons (tVar 7) (tCons (tVar 13) tNil)))) tNil))) (tCall (sp__law_due A K) [] E0 (tCons (tVar 0) (tCons (tVar 4) (tCons (tVar 8) (tCons (tVar 11) tNil))))))) (tRet (tC (V.bl false))) tNext)
      ks [some (.ref o), x1, x2, x3, some (.int n), x5, x6, some (.int op), some (.ref pa), x9, x10, some (.ref pw), x12, some (.ref pb)] H := by
  walk_at "gf"
  rename_i pm hpm
  have sm := same_upd (o := .tup [.int n, .int op, .ref pb]) hpm
  refine ⟨o, d, pm, pb, n, op, rs, nm, body, rfl, O.same sm, SqT.of upd_same, ⟨SqL.of (sm _ _ eb), hb, by omega⟩, wln, hop, ht, fun hn H14 s => ?_, fun a' c' wd' hq t' H14 s qt => ?_⟩
  · rw [lb] at hn
    have hn' := Option.map_eq_none_iff.mp hn
    have s2 := sm.trans s
    walk_at "gf"
    refine ⟨o, d, pa, pw, n, nm, rs, ps, us, vals, rfl, O.same s2, s2.seq qa, SqL.of (s2 _ _ epw), va.to s2, hvl, hpl, hok, hfit, fun hd H15 s' => ?_, fun c wd hd => ?_⟩
    · refine t_ne .non .non sh_none.shaped sh_none.shaped ⟨_, rfl, ne_self sh_none.shaped rfl ?_⟩
      exact hk _ (s2.trans s')
    · rw [hn'] at hd; cases hd
  · rw [lb] at hq
    obtain ⟨f, hf', eq⟩ := Option.map_eq_some_iff.mp hq
    have s2 := sm.trans s
    walk_at "gf"
    refine ⟨o, d, pa, pw, n, nm, rs, ps, us, vals, rfl, O.same s2, s2.seq qa, SqL.of (s2 _ _ epw), va.to s2, hvl, hpl, hok, hfit, fun hd H15 s' => ?_, fun c wd hd t2 H15 s' qt2 => ?_⟩
    · rw [hf'] at hd; cases hd
    · rw [hf'] at hd
      cases hd
      cases eq
      have sh : Sh 1 (fl3 n c wd) := sh_fl3 (dueL_ok (f := (c, wd)) hf')
      refine t_ne (dp_fl3 (s'.sqt qt)) (dp_fl3 qt2) sh.shaped sh.shaped ⟨_, rfl, ne_self sh.shaped rfl ?_⟩
      exact hk _ (s2.trans s')
theorem more_ne {A : Adr} {w : World} {K : PySem.W.Frag} {x1 x2 x3 x5 x6 x9 x10 x12 : Option V} {o d pa pw pb : Addr} {rs : List ORow} {nm n op : Int} {ps : List Str} {body : List Int} {H : Hp} {ks}
    (O : ObjAt A.CObjects H o d rs nm) (wln : rs.length < 512) (eb : H pb = some (.lst (body.map V.int))) (hb : okOcts body) (hbl : body.length ≤ 20000) (hop : 0 ≤ op) (ht : (∀ i, find rs n = some i → ∃ ar, (A.a_REQUESTS == sysModules) = false ∧ KDct K w A.a_REQUESTS i (.ref ar) ∧ (∀ H, Dp K H (.ref ar) (rqD (rowsIn i))) ∧ ∀ j row, (rowsIn i)[j]? = some row → RqAt A w K i ar (rowsIn i) j row))
    (le : lookF rs rowsIn n op (body ++ [0, 0, 0, 0]) = some ((n, 2, "bad length") : Int × Int × Str)) (hk : ∀ H', Same H H' → ks.nx [some (.ref o), x1, x2, x3, some (.int n), x5, x6, some (.int op), some (.ref pa), x9, x10, some (.ref pw), x12, some (.ref pb)] H') :
    (tIfS (tTest (tOp (rNeD K) (tCall (sp__law_told A w K) [] E0 (tCons (tVar 0) (tCons (tTup (tCons (tVar 4) (tCons (tVar 7) (tCons (tOp rCat (tVar 13) (tLst (tCons (tC (V.int 0)) (tCons (tC (V.int 0)) (tCons (tC (V.int 0)) (tCons (tC (V.int 0)) tNil)))))) tNil)))) tNil))) (tTup (tCons (tVar 4) (tCons (tC (V.int 2)) (tCons (tC (V.str (Str.ofString "bad length"))) tNil)))))) (tRet (tC (V.bl false))) tNext)
      ks [some (.ref o), x1, x2, x3, some (.int n), x5, x6, some (.int op), some (.ref pa), x9, x10, some (.ref pw), x12, some (.ref pb)] H := by
  walk_at "gf"
  rename_i p4 hp4
  have s4 := same_upd (o := .lst [.int 0, .int 0, .int 0, .int 0]) hp4
  refine ⟨pb, p4, _, _, rfl, rfl, s4 _ _ eb, upd_same, len_line (by rw [List.length_map]; show _ + 4 ≤ _; omega), fun pc hpc => ?_⟩
  have sc := s4.trans (same_upd (o := .lst (body.map V.int ++ [.int 0, .int 0, .int 0, .int 0])) hpc)
  have ec : (upd (upd H p4 (.lst [.int 0, .int 0, .int 0, .int 0])) pc (.lst (body.map V.int ++ [.int 0, .int 0, .int 0, .int 0]))) pc = some (.lst ((body ++ [0, 0, 0, 0]).map V.int)) := by rw [List.map_append]; exact upd_same
  generalize upd (upd H p4 (.lst [.int 0, .int 0, .int 0, .int 0])) pc (.lst (body.map V.int ++ [.int 0, .int 0, .int 0, .int 0])) = H1 at sc ec ⊢
  walk_at "gf"
  rename_i pm hpm
  have sm := same_upd (o := .tup [.int n, .int op, .ref pc]) hpm
  refine ⟨o, d, pm, pc, n, op, rs, nm, body ++ [0, 0, 0, 0], rfl, O.same (sc.trans sm), SqT.of upd_same, ⟨SqL.of (sm _ _ ec), ?_, by rw [List.length_append]; show _ + 4 < _; omega⟩, wln, hop, ht, fun hn => ?_, fun a' c' wd' hq t' H15 s qt => ?_⟩
  · intro x hx
    rcases List.mem_append.mp hx with hx | hx
    · exact hb x hx
    · simp only [List.mem_cons, List.not_mem_nil, or_false] at hx
      omega
  · rw [le] at hn; cases hn
  · rw [le] at hq
    cases hq
    walk_at "gf"
    rename_i pe hpe
    have sh : Sh 1 (fl3 n 2 "bad length") := sh_fl3 (by decide +kernel)
    refine t_ne (dp_fl3 ((same_upd hpe).sqt qt)) (dp_fl3 (SqT.of upd_same)) sh.shaped sh.shaped ⟨_, rfl, ne_self sh.shaped rfl ?_⟩
    exact hk _ (sc.trans (sm.trans (s.trans (same_upd hpe))))
theorem miss_ret {A : Adr} {w : World} {K : PySem.W.Frag} {x1 x2 x3 x5 x6 x9 x10 x12 : Option V} {o d pa pw pb : Addr} {rs : List ORow} {nm n op : Int} {ps : List Str} {body : List Int} {H : Hp} {Q : VK}
    (O : ObjAt A.CObjects H o d rs nm) (wln : rs.length < 512) (qa : SqL K H pa (ps.map V.str)) (eb : H pb = some (.lst (body.map V.int))) (hb : okOcts body) (hbl : body.length ≤ 20000) (hop : 0 ≤ op) (ht : (∀ i, find rs n = some i → ∃ ar, (A.a_REQUESTS == sysModules) = false ∧ KDct K w A.a_REQUESTS i (.ref ar) ∧ (∀ H, Dp K H (.ref ar) (rqD (rowsIn i))) ∧ ∀ j row, (rowsIn i)[j]? = some row → RqAt A w K i ar (rowsIn i) j row))
    (hok : ∀ p ∈ ps, okPart p = true) (hst : ∀ p ∈ ps, PyData.strOk p = true)
    (le : ∀ k ks, kindsOf ps = k :: ks → (k = Str.ofString "new" ∨ k = Str.ofString "object") → lookF rs rowsIn n op ([0, 0, 0, 0] ++ body.drop 4) = some ((n, 2, "object missing") : Int × Int × Str)) (q : ∀ H', Same H H' → Q (.bl true) H') :
    (tSeq (tIfS (tAnd (tTest (tOp (rNeD K) (tVar 8) (tLst tNil))) (tTest (tOp (rIn K false) (tOp (rIxL K) (tM1 (fun x xs H Q => ∃ a b, x = V.str a ∧ xs = [V.str b] ∧ (b.length == 0) = false ∧ a.length + 2 ≤ sizeLine ∧ rNewStrs (Txt.split a b) H Q) (tOp (rIxL K) (tVar 8) (tC (V.int 0))) (tC (V.str (Str.ofString " ")))) (tC (V.int 0))) (tTup (tCons (tC (V.str (Str.ofString "new"))) (tCons (tC (V.str (Str.ofString "object"))) tNil))))))
      (tRet (tOp (rEqD K) (tCall (sp__law_told A w K) [] E0 (tCons (tVar 0) (tCons (tTup (tCons (tVar 4) (tCons (tVar 7) (tCons (tOp rCat (tLst (tCons (tC (V.int 0)) (tCons (tC (V.int 0)) (tCons (tC (V.int 0)) (tCons (tC (V.int 0)) tNil))))) (tSl (rSlL K) (tVar 13) (tPart (tC (V.int 4))) tNoPart)) tNil)))) tNil))) (tTup (tCons (tVar 4) (tCons (tC (V.int 2)) (tCons (tC (V.str (Str.ofString "object missing"))) tNil))))))
      tNext) (tRet (tC (V.bl true)))) { nx := fun x H' => Q V.non H', rt := Q } [some (.ref o), x1, x2, x3, some (.int n), x5, x6, some (.int op), some (.ref pa), x9, x10, some (.ref pw), x12, some (.ref pb)] H := by
  walk_at "gf"
  rename_i p7 hp7
  have s7 := same_upd (o := .lst []) hp7
  have hsh : Sh 1 (.list (ps.map PyData.str)) := sh_list fun dd hdd => by
    obtain ⟨z, hz, rfl⟩ := List.mem_map.mp hdd
    exact sh_str (hst z hz)
  refine t_ne (.lst (s7.seq qa) (dpall_strs' _)) (.lst (ds := []) (SqL.of upd_same) .nil) hsh.shaped (sh_list (n := 0) (ds := []) fun _ h => by cases h).shaped ⟨_, rfl, ?_⟩
  generalize upd H p7 (.lst []) = H16 at s7 ⊢
  cases ps with
  | nil =>
    refine if_f (by simp [PyData.eqv, PyData.eqvAll]) ?_
    walk_at "gf"
    exact q _ s7
  | cons p0 ps =>
    refine if_t (by simp [PyData.eqv, PyData.eqvAll]) ?_
    have qa16 := s7.seq qa
    walk_at "gf"
    obtain ⟨lp, hc⟩ := okPart_ex (hok p0 List.mem_cons_self)
    obtain ⟨rest, e1⟩ : ∃ rest, spS 32 p0 = (kinP p0).1 :: rest := by
      rcases hc with ⟨k', e1, e2, _⟩ | ⟨k', x, e1, e2, _⟩
      · exact ⟨[], by rw [e1, e2]⟩
      · exact ⟨[x], by rw [e1, e2]⟩
    refine ⟨⟨p0, rfl⟩, p0, _, rfl, rfl, by decide +kernel, szl (by omega), fun p8 hp8 => ?_⟩
    rw [split32, e1]
    have s8 := s7.trans (same_upd (o := .lst (((kinP p0).1 :: rest).map V.str)) hp8)
    have e8 : (upd H16 p8 (.lst (((kinP p0).1 :: rest).map V.str))) p8 = some (.lst (V.str (kinP p0).1 :: rest.map V.str)) := upd_same
    generalize upd H16 p8 (.lst (((kinP p0).1 :: rest).map V.str)) = H17 at s8 e8 ⊢
    refine ⟨p8, _, _, .str (kinP p0).1, rfl, rfl, SqL.of e8, atI_nat (j := 0) rfl, ?_⟩
    have le' := le (kinP p0).1 (kindsOf ps) rfl
    generalize (kinP p0).1 = k0 at *
    clear e1 hc lp qa16 s7 hsh le
    walk_at "gf"
    rename_i pt hpt
    have st := s8.trans (same_upd (o := .tup [V.str (Str.ofString "new"), V.str (Str.ofString "object")]) hpt)
    generalize upd H17 pt (.tup [V.str (Str.ofString "new"), V.str (Str.ofString "object")]) = H18 at st ⊢
    refine if_b (fun hin => ?_) (fun _ => ?_)
    · have hin' : k0 = Str.ofString "new" ∨ k0 = Str.ofString "object" := by
        have h : inV (.str k0) ([Str.ofString "new", Str.ofString "object"].map V.str) = true := hin
        rw [inV_strs] at h
        simpa using of_decide_eq_true h
      have le2 := le' hin'
      have eb18 := st _ _ eb
      walk_at "gf"
      rename_i p4 hp4
      have s4 := same_upd (o := .lst [.int 0, .int 0, .int 0, .int 0]) hp4
      refine ⟨pb, _, rfl, SqL.of (s4 _ _ eb18), fun pz hpz => ?_⟩
      rw [body_four]
      have sz := same_upd (o := .lst ((body.drop 4).map V.int)) hpz
      refine ⟨p4, pz, _, _, rfl, rfl, sz _ _ upd_same, upd_same, len_line (by rw [List.length_map, List.length_drop]; show 4 + _ ≤ _; omega), fun pc hpc => ?_⟩
      have sc := st.trans (s4.trans (sz.trans (same_upd (o := .lst ([.int 0, .int 0, .int 0, .int 0] ++ (body.drop 4).map V.int)) hpc)))
      have ec : (upd (upd (upd H18 p4 (.lst [.int 0, .int 0, .int 0, .int 0])) pz (.lst ((body.drop 4).map V.int))) pc (.lst ([.int 0, .int 0, .int 0, .int 0] ++ (body.drop 4).map V.int))) pc = some (.lst (([0, 0, 0, 0] ++ body.drop 4).map V.int)) := by rw [List.map_append]; exact upd_same
      generalize upd (upd (upd H18 p4 (.lst [.int 0, .int 0, .int 0, .int 0])) pz (.lst ((body.drop 4).map V.int))) pc (.lst ([.int 0, .int 0, .int 0, .int 0] ++ (body.drop 4).map V.int)) = H1 at sc ec ⊢
      walk_at "gf"
      rename_i pm hpm
      have sm := same_upd (o := .tup [.int n, .int op, .ref pc]) hpm
      refine ⟨o, d, pm, pc, n, op, rs, nm, [0, 0, 0, 0] ++ body.drop 4, rfl, O.same (sc.trans sm), SqT.of upd_same, ⟨SqL.of (sm _ _ ec), ?_, by rw [List.length_append, List.length_drop]; show 4 + _ < _; omega⟩, wln, hop, ht, fun hn => ?_, fun a' c' wd' hq t' H15 s qt => ?_⟩
      · intro x hx
        rcases List.mem_append.mp hx with hx | hx
        · simp only [List.mem_cons, List.not_mem_nil, or_false] at hx
          omega
        · exact hb x (List.mem_of_mem_drop hx)
      · rw [le2] at hn; cases hn
      · rw [le2] at hq
        cases hq
        walk_at "gf"
        rename_i pe hpe
        have sh : Sh 1 (fl3 n 2 "object missing") := sh_fl3 (by decide +kernel)
        refine t_eq (dp_fl3 ((same_upd hpe).sqt qt)) (dp_fl3 (SqT.of upd_same)) sh.shaped sh.shaped ?_
        rw [sh.self]
        exact q _ (sc.trans (sm.trans (s.trans (same_upd hpe))))
    · walk_at "gf"
      exact q _ st
def sp__law_asked (A : Adr) (K : PySem.W.Frag) : Sp := fun vs H Q _ => ∃ (o d a : Addr) (rs : List ORow) (nm row : Int) (ns : List Int) (k : Nat), vs = [.ref o, .int row, .ref a, .int (k : Int)] ∧ ObjAt A.CObjects H o d rs nm ∧ WorldOk rs ∧ SqL K H a (ns.map V.int) ∧ ∀ H', Same H H' → Q (.bl true) H'
theorem sc__law_asked : FnScope ["objects", "row", "script", "k", "number", "requests", "r", "opcode", "arguments", "rows", "j", "values", "fields", "body"] ["objects", "row", "script", "k"] (defScope s__law_asked) := ⟨rfl, rfl, rfl, by decide +kernel, rfl, by decide +kernel, by decide +kernel⟩
set_option maxHeartbeats 8000000 in
theorem ok__law_asked (T : Txt0 P K mg A) (TA : TabAll12 A w K) : FnOk P w K mg base CX0 9 A.f_law_asked A.d_law_asked ["objects", "row", "script", "k"] (sp__law_asked A K) := by
  refine T.F_law_asked.ok sc__law_asked (fun vs H Q E h => ?_) (fun cdv Ar outer st H vs Q E hr h => ?_)
  · obtain ⟨_, _, _, _, _, _, _, _, rfl, _⟩ := h
    rfl
  · obtain ⟨o, d, a, rs, nm, row, ns, k, rfl, O, W, hS, q⟩ := h
    obtain ⟨dxo, eo⟩ := O.ob
    refine ⟨_, (pss_cons (ps_set (i := 4) sc__law_asked.nd rfl (Or.inr rfl) (pe_ix (r := rIxL K) ix_list (pe_meth0 (pv 0) T.clObjects T.mObjects_numbers (ok_Objects_numbers T) (hr.mono (by decide)) T.bObjects_numbers .nil pass0) (pe_op op_mod (pe_callTy call_int1 (by rfl) T.int (by decide +kernel) (pa_cons (pv 1) pa_nil)) (pe_callB call_len_seq (by rfl) T.len PySem.boot_len (pa_cons (pe_meth0 (pv 0) T.clObjects T.mObjects_numbers (ok_Objects_numbers T) (hr.mono (by decide)) T.bObjects_numbers .nil pass0) pa_nil))) (fun _ _ => rfl)))
      (C8.pss_cut (ps_set (i := 5) sc__law_asked.nd rfl (Or.inl rfl) (pe_ix (r := rIxL K) ix_list (pe_lc (own := [("r", 6)]) (g := (gName 6)) rfl sc__law_asked.nd (pi_list (pe_call0 (ok__law_table T) (hr.mono (by decide)) rfl T.g_law_table T.k_law_table T.b_law_table .nil pass0)) (blkOk_by (own := [("r", 6)]) (N := ["objects", "row", "script", "k", "number", "requests", "r", "opcode", "arguments", "rows", "j", "values", "fields", "body"]) (sc := defScope s__law_asked) (by decide +kernel)) (fun _ _ _ _ _ => (pg_name (i := 6) sc__law_asked.nd rfl (Or.inl rfl))) (fun _ _ _ _ _ => (pts_one (pt_cmpR (r := rEqD K) (op_eqD hr.units) (pe_ix (r := rIxT K) ix_tup (pv 6) pe_int (fun _ _ => rfl)) (pe_meth (pv 0) T.clObjects T.mObjects_interface_of (ok_Objects_interface_of T) (hr.mono (by decide)) T.bObjects_interface_of .nil pass0 (pa_cons (pv 4) pa_nil)) (nomark _)))) (fun _ _ _ _ _ => by exact (pe_ix (r := rIxT K) ix_tup (pv 6) pe_int (fun _ _ => rfl)))) pe_int (fun _ _ => rfl)))
      (C8.pss_cut (ps_if (pt_cmpR (op_neD hr.units) (pe_call (ok__law_told T) (hr.mono (by decide)) rfl T.g_law_told T.k_law_told T.b_law_told .nil pass0 (pa_cons (pv 0) (pa_cons (pe_tup (pa_cons (pv 4) (pa_cons (pe_op op_add (pe_callB call_len_seq (by rfl) T.len PySem.boot_len (pa_cons (pv 5) pa_nil)) (pe_op op_mod (pe_callTy call_int1 (by rfl) T.int (by decide +kernel) (pa_cons (pe_op op_fdiv (pv 1) pe_int) pa_nil)) pe_int)) (pa_cons (pe_lst pa_nil) pa_nil)))) pa_nil))) (pe_tup (pa_cons (pv 4) (pa_cons pe_int (pa_cons pe_str pa_nil)))) (nomark _))
      (pss_one (ps_ret pe_bl))
      pss_nil)
      (C8.pss_cut (ps_if (pt_cmpR (op_neD hr.units) (pe_call (ok__law_told T) (hr.mono (by decide)) rfl T.g_law_told T.k_law_told T.b_law_told .nil pass0 (pa_cons (pv 0) (pa_cons (pe_tup (pa_cons pe_int (pa_cons (pe_op op_mod (pe_callTy call_int1 (by rfl) T.int (by decide +kernel) (pa_cons (pv 1) pa_nil)) pe_int) (pa_cons (pe_lst pa_nil) pa_nil)))) pa_nil))) (pe_tup (pa_cons pe_int (pa_cons pe_int (pa_cons pe_str pa_nil)))) (nomark _))
      (pss_one (ps_ret pe_bl))
      pss_nil)
      (pss_cons (ps_if (pt_cmpR (op_eqD hr.units) (pv 5) (pe_lst pa_nil) (nomark _))
      (pss_one (ps_ret pe_bl))
      pss_nil)
      (pss_cons (ps_set (i := 7) sc__law_asked.nd rfl (Or.inl rfl) (pe_op op_mod (pe_callTy call_int1 (by rfl) T.int (by decide +kernel) (pa_cons (pe_op op_fdiv (pv 1) pe_int) pa_nil)) (pe_callB call_len_seq (by rfl) T.len PySem.boot_len (pa_cons (pv 5) pa_nil))))
      (pss_cons (ps_set (i := 8) sc__law_asked.nd rfl (Or.inr rfl) (pe_ix (r := rIxT K) ix_tup (pe_ix (r := rIxL K) ix_list (pv 5) (pv 7) (fun _ _ => rfl)) pe_int (fun _ _ => rfl)))
      (C8.pss_cut (ps_set (i := 9) sc__law_asked.nd rfl (Or.inr rfl) (pe_lc (own := [("j", 10)]) (g := (gName 10)) (tt := tYes) rfl sc__law_asked.nd (pi_range1 (by rfl) T.range (pa_cons (pe_callB call_len_seq (by rfl) T.len PySem.boot_len (pa_cons (pv 8) pa_nil)) pa_nil)) (blkOk_by (own := [("j", 10)]) (N := ["objects", "row", "script", "k", "number", "requests", "r", "opcode", "arguments", "rows", "j", "values", "fields", "body"]) (sc := defScope s__law_asked) (by decide +kernel)) (fun _ _ _ _ _ => (pg_name (i := 10) sc__law_asked.nd rfl (Or.inl rfl))) (fun _ _ _ _ _ => pts_nil) (fun _ _ _ _ _ => by exact (pe_call (ok__law_row T) (hr.mono (by decide)) rfl T.g_law_row T.k_law_row T.b_law_row .nil pass0 (pa_cons (pv 2) (pa_cons (pe_op op_add (pe_op op_add pe_int (pe_op op_mul pe_int (pv 3))) (pv 10)) pa_nil))))))
      (C8.pss_cut (ps_set (i := 11) sc__law_asked.nd rfl (Or.inr rfl) (pe_lc (own := [("j", 10)]) (g := (gName 10)) (tt := tYes) rfl sc__law_asked.nd (pi_range1 (by rfl) T.range (pa_cons (pe_callB call_len_seq (by rfl) T.len PySem.boot_len (pa_cons (pv 8) pa_nil)) pa_nil)) (blkOk_by (own := [("j", 10)]) (N := ["objects", "row", "script", "k", "number", "requests", "r", "opcode", "arguments", "rows", "j", "values", "fields", "body"]) (sc := defScope s__law_asked) (by decide +kernel)) (fun _ _ _ _ _ => (pg_name (i := 10) sc__law_asked.nd rfl (Or.inl rfl))) (fun _ _ _ _ _ => pts_nil) (fun _ _ _ _ _ => by exact (pe_call (ok__law_argument T) (hr.mono (by decide)) rfl T.g_law_argument T.k_law_argument T.b_law_argument .nil pass0 (pa_cons (pv 0) (pa_cons (pe_ix (r := rIxL K) ix_list (pv 8) (pv 10) (fun _ _ => rfl)) (pa_cons (pe_ix (r := rIxL K) ix_list (pv 9) (pv 10) (fun _ _ => rfl)) pa_nil)))))))
      (C8.pss_cut (ps_for PassesOwn.never rfl (pi_range1 (by rfl) T.range (pa_cons (pe_callB call_len_seq (by rfl) T.len PySem.boot_len (pa_cons (pv 11) pa_nil)) pa_nil)) (pg_name (i := 10) sc__law_asked.nd rfl (Or.inl rfl))
      (pss_one (ps_if (pt_cmpR op_isN (pe_ix (r := rIxL K) ix_list (pv 11) (pv 10) (fun _ _ => rfl)) pe_non (nomark _))
      (pss_one (ps_asg pe_int (pg_sub (pv 11) (pv 10) set_list)))
      pss_nil)))
      (C8.pss_cut (ps_set (i := 11) sc__law_asked.nd rfl (Or.inr rfl) (pe_lc (own := [("j", 10)]) (g := (gName 10)) (tt := tYes) rfl sc__law_asked.nd (pi_range1 (by rfl) T.range (pa_cons (pe_callB call_len_seq (by rfl) T.len PySem.boot_len (pa_cons (pv 8) pa_nil)) pa_nil)) (blkOk_by (own := [("j", 10)]) (N := ["objects", "row", "script", "k", "number", "requests", "r", "opcode", "arguments", "rows", "j", "values", "fields", "body"]) (sc := defScope s__law_asked) (by decide +kernel)) (fun _ _ _ _ _ => (pg_name (i := 10) sc__law_asked.nd rfl (Or.inl rfl))) (fun _ _ _ _ _ => pts_nil) (fun _ _ _ _ _ => by exact (pe_call (ok__law_bad T) (hr.mono (by decide)) rfl T.g_law_bad T.k_law_bad T.b_law_bad .nil pass0 (pa_cons (pv 0) (pa_cons (pe_ix (r := rIxL K) ix_list (pv 8) (pv 10) (fun _ _ => rfl)) (pa_cons (pe_ix (r := rIxL K) ix_list (pv 11) (pv 10) (fun _ _ => rfl)) (pa_cons (pe_op op_fdiv (pe_ix (r := rIxL K) ix_list (pv 9) (pv 10) (fun _ _ => rfl)) pe_int) pa_nil))))))))
      (C8.pss_cut (ps_setLc (i := 12) (own := [("j", 10)]) (g := (gName 10)) (tt := tYes) rfl sc__law_asked.nd rfl rfl (sw_true rfl rfl rfl (by decide +kernel)) (pi_range1 (by rfl) T.range (pa_cons (pe_callB call_len_seq (by rfl) T.len PySem.boot_len (pa_cons (pv 8) pa_nil)) pa_nil)) (blkOk_by (own := [("j", 10)]) (N := ["objects", "row", "script", "k", "number", "requests", "r", "opcode", "arguments", "rows", "j", "values", "fields", "body"]) (sc := defScope s__law_asked) (by decide +kernel)) (fun _ _ _ _ _ => (pg_name (i := 10) sc__law_asked.nd rfl (Or.inl rfl))) (fun _ _ _ _ _ => pts_nil) (fun _ _ _ _ _ => by exact (pe_tup (pa_cons (pe_ix (r := rIxL K) ix_list (pe_split (pe_ix (r := rIxL K) ix_list (pv 8) (pv 10) (fun _ _ => rfl)) pe_str) pe_int (fun _ _ => rfl)) (pa_cons (pe_ix (r := rIxL K) ix_list (pv 11) (pv 10) (fun _ _ => rfl)) pa_nil)))))
      (C8.pss_cut (ps_set (i := 13) sc__law_asked.nd rfl (Or.inl rfl) (pe_slice (r := rSlL K) sl_list (pe_call (ok_encode_message T) (hr.mono (by decide)) rfl T.gencode_message T.kencode_message T.bencode_message .nil passL (pa_cons (pv 4) (pa_cons (pv 7) (pa_cons (pv 12) pa_nil)))) (po_some pe_int) po_none))
      (C8.pss_cut (ps_if (pt_cmpR (op_neD hr.units) (pe_call (ok__law_told T) (hr.mono (by decide)) rfl T.g_law_told T.k_law_told T.b_law_told .nil pass0 (pa_cons (pv 0) (pa_cons (pe_tup (pa_cons (pv 4) (pa_cons (pv 7) (pa_cons (pv 13) pa_nil)))) pa_nil))) (pe_call (ok__law_due T) (hr.mono (by decide)) rfl T.g_law_due T.k_law_due T.b_law_due .nil pass0 (pa_cons (pv 0) (pa_cons (pv 4) (pa_cons (pv 8) (pa_cons (pv 11) pa_nil))))) (nomark _))
      (pss_one (ps_ret pe_bl))
      pss_nil)
      (C8.pss_cut (ps_if (pt_cmpR (op_neD hr.units) (pe_call (ok__law_told T) (hr.mono (by decide)) rfl T.g_law_told T.k_law_told T.b_law_told .nil pass0 (pa_cons (pv 0) (pa_cons (pe_tup (pa_cons (pv 4) (pa_cons (pv 7) (pa_cons (pe_op op_cat (pv 13) (pe_lst (pa_cons pe_int (pa_cons pe_int (pa_cons pe_int (pa_cons pe_int pa_nil)))))) pa_nil)))) pa_nil))) (pe_tup (pa_cons (pv 4) (pa_cons pe_int (pa_cons pe_str pa_nil)))) (nomark _))
      (pss_one (ps_ret pe_bl))
      pss_nil)
      (pss_cons (ps_if (PW.pt (pw_and (pt_cmpR (op_neD hr.units) (pv 8) (pe_lst pa_nil) (nomark _)) (pw_and1 (pt_cmpR op_in_seq (pe_ix (r := rIxL K) ix_list (pe_split (pe_ix (r := rIxL K) ix_list (pv 8) pe_int (fun _ _ => rfl)) pe_str) pe_int (fun _ _ => rfl)) (pe_tup (pa_cons pe_str (pa_cons pe_str pa_nil))) (by rfl)))))
      (pss_one (ps_ret (pe_cmpR (op_eqD hr.units) (pe_call (ok__law_told T) (hr.mono (by decide)) rfl T.g_law_told T.k_law_told T.b_law_told .nil pass0 (pa_cons (pv 0) (pa_cons (pe_tup (pa_cons (pv 4) (pa_cons (pv 7) (pa_cons (pe_op op_cat (pe_lst (pa_cons pe_int (pa_cons pe_int (pa_cons pe_int (pa_cons pe_int pa_nil))))) (pe_slice (r := rSlL K) sl_list (pv 13) (po_some pe_int) po_none)) pa_nil)))) pa_nil))) (pe_tup (pa_cons (pv 4) (pa_cons pe_int (pa_cons pe_str pa_nil)))) (nomark _))))
      pss_nil)
      (pss_one (ps_ret pe_bl)))))))))))))))))), ?_⟩
    walk_at "gf"
    refine ⟨o, d, rs, nm, rfl, O, fun p1 H1 n1 => ?_⟩
    have O1 := O.same n1.same
    obtain ⟨dxo1, eo1⟩ := O1.ob
    walk_at "gf"
    refine ⟨o, d, rs, nm, rfl, O1, fun p2 H2 n2 => ?_⟩
    have s2 := n1.same.trans n2.same
    have O2 := O.same s2
    obtain ⟨dxo2, eo2⟩ := O2.ob
    have e1 := n2.same _ _ n1.at_
    have e2 := n2.at_
    have lpos : 0 < rs.length := List.length_pos_iff.mpr W.ne
    have hlt : (row % (rs.length : Int)).toNat < rs.length := by
      have h1 := Int.emod_nonneg row (show (rs.length : Int) ≠ 0 by omega)
      have h2 := Int.emod_lt_of_pos row (show (0 : Int) < (rs.length : Int) by omega)
      omega
    have hr := List.getElem?_eq_getElem hlt
    have hrm := List.getElem_mem hlt
    generalize rs[(row % (rs.length : Int)).toNat] = r at hr hrm
    have hf := find_some W.nd hrm
    obtain ⟨t, ht, htn⟩ := names_of W hrm
    walk_at "gf"
    refine ⟨by show (0 : Int) < _; rw [List.length_map, List.length_map]; omega, p1, _, _, .int r.1, rfl, rfl, SqL.of e1, at_of (j := (row % (rs.length : Int)).toNat) ?_ (by rw [List.getElem?_map, List.getElem?_map, hr]; rfl), ?_⟩
    · rw [List.length_map, List.length_map]
      have h1 := Int.emod_nonneg row (show (rs.length : Int) ≠ 0 by omega)
      show row % _ = _
      omega
    refine ⟨fun σ' H' => ∃ (p5 : Addr), σ' = [some (.ref o), some (.int row), some (.ref a), some (.int (k : Int)), some (.int r.1), some (.ref p5), none, none, none, none, none, none, none, none] ∧ Same H H' ∧ Dp K H' (.ref p5) (.list (t.2.1.map splD)), ?_, ?_⟩
    · walk_at "gf"
      refine ⟨H2, rfl, Same.refl _, fun p U3 H3 x3 dt => ?_⟩
      obtain ⟨p', ts, e0, qt, dts⟩ := dp_list dt
      cases e0
      have lts : ts.length = tab.length := by rw [dpall_len dts, List.length_map]
      have ltab : tab.length = 23 := by unfold tab; rw [List.length_map]; decide +kernel
      refine ⟨p, rfl, ⟨_, x3.vh.seq qt⟩, fun D hD => ?_⟩
      refine lc_dp (walk_list (K := K) (a := p) (xs := ts)) (K := K) (V0 := U3) (H0 := H3) (fun i => (tab[i]?).bind fun s => if s.1 = t.1 then some (PyData.list (s.2.1.map splD)) else none) _ rfl x3.vh hD (by omega) (fun H' s => s.seq (x3.vh.seq qt)) (fun i x H H' y => y.1) ?_ ?_
      · rintro i v U H4 hi xx ⟨_, hv⟩ Qy Qn hy hno
        obtain ⟨dd, hdd, dv⟩ := dpall_get dts hv
        rw [List.getElem?_map] at hdd
        obtain ⟨s, hs, rfl⟩ := Option.map_eq_some_iff.mp hdd
        obtain ⟨pt, ws, rfl, qw, dw⟩ := dp_tuple dv
        cases dw with
        | cons w1 w2 => cases w2 with
          | cons w2 w3 =>
            obtain rfl := dp_str w1
            have qw4 := xx.hh.sqt (x3.vh.sqt qw)
            have O4 := (O2.same x3.hh).same xx.hh
            obtain ⟨dxo4, eo4⟩ := O4.ob
            refine ⟨rfl, _, rfl, pt, _, _, _, rfl, rfl, qw4, atI_nat (j := 0) rfl, ?_⟩
            walk_at "gf"
            refine ⟨o, d, rs, nm, r.1, rfl, O4, ?_⟩
            rw [hf]
            refine ⟨.str s.1, .str r.2, .str _, .str _, (sh_str (TA.so _ (List.mem_map_of_mem (List.mem_of_getElem? hs)))).shaped, (sh_str (by rw [← htn]; exact TA.so _ (List.mem_map_of_mem ht))).shaped, _, rfl, ?_⟩
            by_cases h : s.1 = t.1
            · refine if_t (by rw [h, htn]; simp [PyData.eqv]) ?_
              refine ⟨_, rfl, pt, _, _, _, rfl, rfl, qw4, atI_nat (j := 1) rfl, ?_⟩
              exact hy _ _ _ _ (by rw [hs]; exact if_pos h) (Ext.refl xx.vh) (w2.to xx.vv)
            · refine if_f (by rw [← htn]; simp [PyData.eqv, h]) ?_
              exact hno (by rw [hs]; exact if_neg h) _ _ (Ext.refl xx.vh)
      · rintro U H4 ys xx hDU dA dl
        rw [lts, fm_filterMap (fun s : TR => if s.1 = t.1 then some (PyData.list (s.2.1.map splD)) else none) tab _ rfl _ (fun i s h => by rw [h]; rfl), filterMap_if, tab_find TA ht] at dA
        cases dA with
        | cons y1 y2 =>
          cases y2
          obtain ⟨p5, ys5, e5, q5, d5⟩ := dp_list y1
          subst e5
          refine ⟨D, _, _, _, rfl, rfl, xx.vh.seq (SqL.of hDU), atI_nat (j := 0) rfl, ?_⟩
          exact ⟨p5, rfl, s2.trans (x3.hh.trans xx.hh), y1.to xx.vh⟩
    clear eo dxo eo1 dxo1 eo2 dxo2 e1 e2 O1 O2 n1 n2 s2 hlt lpos hr
    rintro σ' H3 ⟨p5, rfl, s3, d5⟩
    have hT := TA.all t ht
    rw [← htn] at hf
    have hl1 := hT.l1
    obtain ⟨p5', zs, e0, q5, d5s⟩ := dp_list d5
    cases e0
    have lz : zs.length = t.2.1.length := by rw [dpall_len d5s, List.length_map]
    have O3 := O.same s3
    refine ⟨fun σ' H' => σ' = [some (.ref o), some (.int row), some (.ref a), some (.int (k : Int)), some (.int r.1), some (.ref p5), none, none, none, none, none, none, none, none] ∧ Same H3 H', ?_, ?_⟩
    · walk_at "gf"
      rename_i pb hpb pm hpm
      have sb := same_upd (o := .lst []) hpb
      have sm := sb.trans (same_upd (o := .tup [.int r.1, .int ((zs.length : Int) + row / 9 % 3), .ref pb]) hpm)
      have eb := (same_upd (o := .tup [.int r.1, .int ((zs.length : Int) + row / 9 % 3), .ref pb]) hpm) pb _ (upd_same (o := .lst []))
      have hop : (t.2.1.length : Int) ≤ (zs.length : Int) + row / 9 % 3 := by omega
      refine ⟨o, d, pm, pb, r.1, (zs.length : Int) + row / 9 % 3, rs, nm, [], rfl, O3.same sm, SqT.of upd_same, src_nil eb, by have := W.ln; omega, by omega, told_tab TA W r.1, fun hn => ?_, fun a' c' wd' hq t' H' s qt => ?_⟩
      · rw [look_over TA ht hf hop] at hn; cases hn
      · rw [look_over TA ht hf hop] at hq
        cases hq
        walk_at "gf"
        rename_i pe hpe
        have sh : Sh 1 (fl3 r.1 4 "no such request") := sh_fl3 (by decide +kernel)
        refine t_ne (dp_fl3 ((same_upd hpe).sqt qt)) (dp_fl3 (SqT.of upd_same)) sh.shaped sh.shaped ⟨_, rfl, ne_self sh.shaped rfl ?_⟩
        exact ⟨rfl, sm.trans (s.trans (same_upd hpe))⟩
    rintro σ' H4 ⟨rfl, s4⟩
    have O4 := O3.same s4
    have q54 := s4.seq q5
    refine ⟨fun σ' H' => σ' = [some (.ref o), some (.int row), some (.ref a), some (.int (k : Int)), some (.int r.1), some (.ref p5), none, none, none, none, none, none, none, none] ∧ Same H4 H', ?_, ?_⟩
    · walk_at "gf"
      rename_i pb hpb pm hpm
      have sb := same_upd (o := .lst []) hpb
      have sm := sb.trans (same_upd (o := .tup [.int 987654, .int (row % 5), .ref pb]) hpm)
      have eb := (same_upd (o := .tup [.int 987654, .int (row % 5), .ref pb]) hpm) pb _ (upd_same (o := .lst []))
      refine ⟨o, d, pm, pb, 987654, row % 5, rs, nm, [], rfl, O4.same sm, SqT.of upd_same, src_nil eb, by have := W.ln; omega, by omega, told_tab TA W 987654, fun hn => ?_, fun a' c' wd' hq t' H' s qt => ?_⟩
      · rw [look_none W] at hn; cases hn
      · rw [look_none W] at hq
        cases hq
        walk_at "gf"
        rename_i pe hpe
        have sh : Sh 1 (fl3 1 3 "no such object") := sh_fl3 (by decide +kernel)
        refine t_ne (dp_fl3 ((same_upd hpe).sqt qt)) (dp_fl3 (SqT.of upd_same)) sh.shaped sh.shaped ⟨_, rfl, ne_self sh.shaped rfl ?_⟩
        exact ⟨rfl, sm.trans (s.trans (same_upd hpe))⟩
    rintro σ' H5 ⟨rfl, s5⟩
    have s35 := s4.trans s5
    have q55 := s35.seq q5
    have d55 := d5s.to s35
    walk_at "gf"
    rename_i p7 hp7
    have s7 := same_upd (o := .lst []) hp7
    have q7 := s7.seq q55
    have hsh : Sh 3 (.list (t.2.1.map splD)) := sh_list fun dd hdd => by
      obtain ⟨r0, hr0, rfl⟩ := List.mem_map.mp hdd
      exact sh_spl (hT.s0 r0 hr0) fun s hs => (hT.s1 r0 hr0 s hs).1
    refine t_eq (.lst q7 (d55.to s7)) (.lst (ds := []) (SqL.of upd_same) .nil) hsh.shaped (sh_list (n := 0) (ds := []) fun _ h => by cases h).shaped ⟨_, rfl, ?_⟩
    generalize upd H5 p7 (.lst []) = H6 at s7 q7 ⊢
    have s36 := s35.trans s7
    have s6 := s3.trans s36
    have O6 := O.same s6
    have hS6 := s6.seq hS
    by_cases hnil : t.2.1 = []
    · rw [hnil]
      refine if_t (by simp [PyData.eqv, PyData.eqvAll]) ?_
      exact q _ s6
    have hlen : 0 < t.2.1.length := List.length_pos_iff.mpr hnil
    refine if_f (by
      cases e : t.2.1 with
      | nil => exact absurd e hnil
      | cons x y => simp [PyData.eqv, PyData.eqvAll]) ?_
    obtain ⟨j, hj, ej⟩ : ∃ j : Nat, j < t.2.1.length ∧ row / 600 % (zs.length : Int) = (j : Int) := by
      have h1 := Int.emod_nonneg (row / 600) (show (zs.length : Int) ≠ 0 by omega)
      have h2 := Int.emod_lt_of_pos (row / 600) (show (0 : Int) < (zs.length : Int) by omega)
      exact ⟨(row / 600 % (zs.length : Int)).toNat, by omega, by omega⟩
    have hrow := List.getElem?_eq_getElem hj
    generalize t.2.1[j] = rw0 at hrow
    obtain ⟨z, hz, dz⟩ := dpall_get' (d5s.to s36) (i := j) (d := splD rw0) (by rw [List.getElem?_map, hrow]; rfl)
    obtain ⟨pz, ws, rfl, qz, dws⟩ := dp_tuple dz
    cases dws with
    | cons w1 w2 => cases w2 with
      | cons w2 w3 => cases w3 with
        | cons w3 w4 =>
          cases w4
          obtain rfl := dp_str w1
          obtain rfl := dp_bool w3
          obtain ⟨pa, as, rfl, qa, das⟩ := dp_list w2
          obtain rfl : as = rw0.2.1.map V.str := dpall_strs das
          obtain ⟨⟨ar, R⟩, hparts⟩ := hT.at_ ht hrow
          have hl2 := hT.l2 rw0 (List.mem_of_getElem? hrow)
          walk_at "gf"
          refine ⟨p5, _, _, .ref pz, rfl, rfl, q7, at_of (j := j) ej hz, ?_⟩
          refine ⟨pz, _, _, .ref pa, rfl, rfl, qz, atI_nat (j := 1) rfl, ?_⟩
          walk_at "gf"
          refine ⟨fun σ' H' => ∃ (pr : Addr) (ris : List Int), σ' = [some (.ref o), some (.int row), some (.ref a), some (.int (k : Int)), some (.int r.1), some (.ref p5), none, some (.int (row / 600 % (zs.length : Int))), some (.ref pa), some (.ref pr), none, none, none, none] ∧ Same H6 H' ∧ H' pr = some (.lst (ris.map V.int)) ∧ ris.length = rw0.2.1.length, ?_, ?_⟩
          · refine ⟨_, rfl, pa, _, rfl, .inl qa, ?_⟩
            refine ⟨_, rfl, by rw [List.length_map]; omega, by rw [List.length_map]; omega, fun D hD => ?_⟩
            refine lc_rel (Rl := fun (_ : Hp) v (r : Int) => v = V.int r) (fun _ _ _ _ _ h => h) (walk_range (lo := 0) (n := (((rw0.2.1.map V.str).length : Nat) : Int).toNat)) (V0 := H6) (H0 := H6) (fun i => some (lawRow ns (200 + 20 * k + i))) _ rfl (Same.refl _) hD (by rw [List.length_map]; omega) (fun _ _ => trivial) (fun i x H H' y => y.1) ?_ ?_
            · rintro i v U H7 hi xx ⟨_, rfl⟩ Qy Qn hy _
              refine ⟨rfl, _, rfl, ?_⟩
              walk_at "go"
              refine ⟨a, ns, 200 + 20 * k + i, by show [V.ref a, V.int (200 + 20 * (k : Int) + (0 + (i : Int)))] = [V.ref a, V.int ((200 + 20 * k + i : Nat) : Int)]; rw [Int.zero_add, Int.natCast_add, Int.natCast_add, Int.natCast_mul]; rfl, xx.hh.seq hS6, ?_⟩
              exact hy _ _ _ _ rfl (Ext.refl xx.vh) rfl
            · rintro U H7 us xx hDU al
              have lus : us.length = rw0.2.1.length := by
                rw [allr_len al, List.length_map, Int.toNat_natCast, fm_some, List.length_map, List.length_range]
              have eus := allr_ints al
              rw [eus] at hDU lus
              rw [List.length_map] at lus
              exact ⟨D, _, rfl, xx.hh, xx.vh _ _ hDU, lus⟩
          rintro σ' H7 ⟨pr, ris, rfl, s67, er, lr⟩
          clear hsh q7 s7 qz dz d5s d5 q54 q55 d55 hS hS6
          have O7 := O6.same s67
          have qa7 := s67.seq qa
          have s7 := s6.trans s67
          have un := hT.un rw0 (List.mem_of_getElem? hrow)
          clear O3 O4 O6 s3 s4 s5 s35 s36 s6 O qa
          refine ⟨fun σ' H' => ∃ (pv : Addr) (U : Hp) (us : List V), σ' = [some (.ref o), some (.int row), some (.ref a), some (.int (k : Int)), some (.int r.1), some (.ref p5), none, some (.int (row / 600 % (zs.length : Int))), some (.ref pa), some (.ref pr), none, some (.ref pv), none, none] ∧ Same H7 U ∧ Same U H' ∧ U pv = none ∧ H' pv = some (.lst us) ∧ us.length = rw0.2.1.length ∧ ∀ (i : Nat) (v : V) (p : Str), us[i]? = some v → rw0.2.1[i]? = some p → GoodV K rs p U v, ?_, ?_⟩
          · refine ⟨_, rfl, pa, _, rfl, .inl qa7, ?_⟩
            refine ⟨_, rfl, by rw [List.length_map]; omega, by rw [List.length_map]; omega, fun D hD => ?_⟩
            refine lc_relD (Rl := fun U v (i : Nat) => ∃ p, rw0.2.1[i]? = some p ∧ GoodV K rs p U v) (fun U U' v i s ⟨p, h1, h2⟩ => ⟨p, h1, h2.to s⟩) (walk_range (lo := 0) (n := (((rw0.2.1.map V.str).length : Nat) : Int).toNat)) (V0 := H7) (H0 := H7) (fun i => some i) _ rfl (Same.refl _) hD (by rw [List.length_map]; omega) (fun _ _ => trivial) (fun i x H H' y => y.1) ?_ ?_
            · rintro i v U H8 hi xx ⟨_, rfl⟩ Qy Qn hy _
              have hi' : i < rw0.2.1.length := by rw [List.length_map] at hi; omega
              have hp := List.getElem?_eq_getElem hi'
              generalize rw0.2.1[i] = p at hp
              have hir : i < ris.length := by omega
              have hri := List.getElem?_eq_getElem hir
              generalize ris[i] = ri at hri
              refine ⟨rfl, _, rfl, _, rfl, _, rfl, pa, _, _, _, rfl, rfl, xx.hh.seq qa7, at_of (j := i) (Int.zero_add _) (by rw [List.getElem?_map, hp]; rfl), ?_⟩
              refine ⟨_, rfl, _, rfl, pr, _, _, _, rfl, rfl, SqL.of (xx.hh _ _ er), at_of (j := i) (Int.zero_add _) (by rw [List.getElem?_map, hri]; rfl), ?_⟩
              refine ⟨o, d, rs, nm, ri, p, U, rfl, O7.same xx.hh, W, hparts p (List.mem_of_getElem? hp), xx.vh, fun v U' H9 x6 gv => ?_⟩
              exact hy i _ _ _ rfl x6 ⟨p, hp, gv⟩
            · rintro U H8 us xx uD hDU al
              have lus : us.length = rw0.2.1.length := by
                rw [allr_len al, List.length_map, Int.toNat_natCast, fm_some, List.length_map, List.length_range]
              refine ⟨D, U, us, rfl, xx.vv, xx.vh, uD, hDU, lus, fun i v p hv hp => ?_⟩
              obtain ⟨i', hi', p', hp', gv⟩ := allr_get al hv
              have : i' = i := by
                rw [fm_some, List.getElem?_map, List.getElem?_range (by have := (List.getElem?_eq_some_iff.mp hv).1; rw [List.length_map, Int.toNat_natCast]; omega)] at hi'
                exact (Option.some.inj hi').symm
              subst this
              cases hp.symm.trans hp'
              exact gv
          rintro σ' H8 ⟨pv, U, us, rfl, sU, sH, uv, ev, lus, hgv⟩
          refine ⟨fun σ' H' => ∃ (us : List V) (v10 : Option V), σ' = [some (.ref o), some (.int row), some (.ref a), some (.int (k : Int)), some (.int r.1), some (.ref p5), none, some (.int (row / 600 % (zs.length : Int))), some (.ref pa), some (.ref pr), v10, some (.ref pv), none, none] ∧ Same H7 H' ∧ H' pv = some (.lst us) ∧ us.length = rw0.2.1.length ∧ ∀ (i : Nat) (v : V) (p : Str), us[i]? = some v → rw0.2.1[i]? = some p → EncV K p H' v, ?_, ?_⟩
          · walk_at "gf"
            refine ⟨by omega, by omega, for_range (lo := 0) (fun i σ H' => ∃ (us : List V) (v10 : Option V), σ = [some (.ref o), some (.int row), some (.ref a), some (.int (k : Int)), some (.int r.1), some (.ref p5), none, some (.int (row / 600 % (zs.length : Int))), some (.ref pa), some (.ref pr), v10, some (.ref pv), none, none] ∧ Same U H' ∧ H' pv = some (.lst us) ∧ us.length = rw0.2.1.length ∧ ∀ (m : Nat) (v : V) (p : Str), us[m]? = some v → rw0.2.1[m]? = some p → (m < i → EncV K p U v) ∧ (i ≤ m → GoodV K rs p U v)) ⟨us, _, rfl, sH, ev, lus, fun m v p hv hp => ⟨fun z => absurd z (Nat.not_lt_zero _), fun _ => hgv m v p hv hp⟩⟩ ?_ ?_⟩
            · clear hgv ev sH H8
              rintro i σ H9 hi ⟨us, v10, rfl, sH, ev, lus2, hgv⟩
              have hi' : i < us.length := by omega
              have hv := List.getElem?_eq_getElem hi'
              generalize us[i] = v at hv
              have huv : us[i]? = some v := hv
              walk_at "gf"
              refine ⟨pv, _, _, v, rfl, rfl, SqL.of ev, at_of (j := i) (Int.zero_add _) hv, ?_⟩
              refine ⟨rfl, _, rfl, ?_⟩
              by_cases hno : v = .non
              · refine if_t (by rw [hno]; simp) ?_
                have hpu := List.getElem?_eq_getElem (l := rw0.2.1) (i := i) (by omega)
                walk_at "gf"
                refine ⟨pv, us, _, i, rfl, rfl, ev, by unfold ixN; rw [if_pos (by omega), if_pos (by omega)]; congr 1; omega, us.set i (.int 1), _, rfl, ?_, upd_same, by rw [List.length_set]; exact lus2, fun m v' p hv' hp => ⟨fun hm => ?_, fun hm => (hgv m v' p (by rw [List.getElem?_set_ne (by omega)] at hv'; exact hv') hp).2 (by omega)⟩⟩
                · exact fun b u e => by rw [upd_ne (fun z => by rw [z, uv] at e; cases e)]; exact sH b u e
                · by_cases c : m = i
                  · subst c
                    rw [List.getElem?_set_self hi'] at hv'
                    obtain rfl : V.int 1 = v' := Option.some.inj hv'
                    have h0 := (hgv m v p hv hp).2 (by omega)
                    rw [hno] at h0
                    exact h0.one U
                  · rw [List.getElem?_set_ne (by omega)] at hv'
                    exact (hgv m v' p hv' hp).1 (by omega)
              · refine if_f (by simp [hno]) ?_
                refine ⟨us, _, rfl, sH, ev, lus2, fun m v' p hv' hp => ⟨fun hm => ?_, fun hm => (hgv m v' p hv' hp).2 (by omega)⟩⟩
                by_cases c : m = i
                · subst c
                  obtain rfl : v' = v := Option.some.inj (hv'.symm.trans hv)
                  exact ((hgv m v' p hv' hp).2 (by omega)).enc hno
                · exact (hgv m v' p hv' hp).1 (by omega)
            · rintro σ H9 ⟨us, v10, rfl, sH, ev, lus2, hgv⟩
              exact ⟨us, _, rfl, sU.trans sH, ev, lus2, fun m v p hv hp => ((hgv m v p hv hp).1 (by have := (List.getElem?_eq_some_iff.mp hv).1; omega)).to sH⟩
          clear hgv ev lus us sH H8 uv sU
          rintro σ' H9 ⟨us, v10, rfl, s79, ev, lus, henc⟩
          have O9 := O7.same s79
          have qa9 := s79.seq qa7
          have s9 := s7.trans s79
          refine ⟨fun σ' H' => ∃ (pw : Addr) (us : List V), σ' = [some (.ref o), some (.int row), some (.ref a), some (.int (k : Int)), some (.int r.1), some (.ref p5), none, some (.int (row / 600 % (zs.length : Int))), some (.ref pa), some (.ref pr), v10, some (.ref pw), none, none] ∧ Same H9 H' ∧ H' pw = some (.lst us) ∧ us.length = rw0.2.1.length ∧ ∀ (i : Nat) (v : V) (p : Str), us[i]? = some v → rw0.2.1[i]? = some p → EncV K p H' v, ?_, ?_⟩
          · refine ⟨_, rfl, pa, _, rfl, .inl qa9, ?_⟩
            refine ⟨_, rfl, by rw [List.length_map]; omega, by rw [List.length_map]; omega, fun D hD => ?_⟩
            refine lc_rel (Rl := fun U v (i : Nat) => ∃ p, rw0.2.1[i]? = some p ∧ EncV K p U v) (fun U U' v i s ⟨p, h1, h2⟩ => ⟨p, h1, h2.to s⟩) (walk_range (lo := 0) (n := (((rw0.2.1.map V.str).length : Nat) : Int).toNat)) (V0 := H9) (H0 := H9) (fun i => some i) _ rfl (Same.refl _) hD (by rw [List.length_map]; omega) (fun _ _ => trivial) (fun i x H H' y => y.1) ?_ ?_
            · rintro i v U H10 hi xx ⟨_, rfl⟩ Qy Qn hy _
              have hi' : i < rw0.2.1.length := by rw [List.length_map] at hi; omega
              have hp := List.getElem?_eq_getElem hi'
              generalize rw0.2.1[i] = p at hp
              have hir : i < ris.length := by omega
              have hri := List.getElem?_eq_getElem hir
              generalize ris[i] = ri at hri
              have hiu : i < us.length := by omega
              have hv := List.getElem?_eq_getElem hiu
              generalize us[i] = v at hv
              have hev := henc i v p hv hp
              refine ⟨rfl, _, rfl, _, rfl, _, rfl, pa, _, _, _, rfl, rfl, xx.hh.seq qa9, at_of (j := i) (Int.zero_add _) (by rw [List.getElem?_map, hp]; rfl), ?_⟩
              refine ⟨_, rfl, _, rfl, pv, _, _, _, rfl, rfl, SqL.of (xx.hh _ _ ev), at_of (j := i) (Int.zero_add _) hv, ?_⟩
              refine ⟨_, rfl, _, rfl, pr, _, _, _, rfl, rfl, SqL.of (xx.hh _ _ (s79 _ _ er)), at_of (j := i) (Int.zero_add _) (by rw [List.getElem?_map, hri]; rfl), ?_⟩
              walk_at "go"
              refine ⟨o, d, rs, nm, ri / 11, p, v, rfl, O9.same xx.hh, W, hparts p (List.mem_of_getElem? hp), hev.to xx.hh, fun v' H11 s' hv' => ?_⟩
              exact hy i _ _ _ rfl ⟨Same.refl _, xx.vh.trans s', s', fun _ h => .inl h⟩ ⟨p, hp, hv'.elim (fun e => by rw [e]; exact hev.to xx.vv) (fun h => h _)⟩
            · rintro U H10 us xx hDU al
              have lus : us.length = rw0.2.1.length := by
                rw [allr_len al, List.length_map, Int.toNat_natCast, fm_some, List.length_map, List.length_range]
              refine ⟨D, us, rfl, xx.hh, xx.vh _ _ hDU, lus, fun i v p hv hp => ?_⟩
              obtain ⟨i', hi', p', hp', gv⟩ := allr_get al hv
              have : i' = i := by
                rw [fm_some, List.getElem?_map, List.getElem?_range (by have := (List.getElem?_eq_some_iff.mp hv).1; rw [List.length_map, Int.toNat_natCast]; omega)] at hi'
                exact (Option.some.inj hi').symm
              subst this
              cases hp.symm.trans hp'
              exact gv.to xx.vh
          clear henc ev lus us
          rintro σ' H11 ⟨pw, us, rfl, s911, epv, lus, henc⟩
          have O11 := O9.same s911
          have qa11 := s911.seq qa9
          have s11 := s9.trans s911
          clear O7 O9 qa7 qa9 s79 s67 s7 s9 er
          obtain ⟨gs, lgs, hgs⟩ := choose_list (vs := us) (R := fun i v (g : Arg) => ∃ p, rw0.2.1[i]? = some p ∧ EncArg p g ∧ ArgAt K H11 v g.val) fun i v hv => by
            have hi' : i < rw0.2.1.length := by have := (List.getElem?_eq_some_iff.mp hv).1; omega
            obtain ⟨g, h1, h2⟩ := henc i v _ hv (List.getElem?_eq_getElem hi')
            exact ⟨g, _, List.getElem?_eq_getElem hi', h1, h2⟩
          clear henc
          have lgr : gs.length = rw0.2.1.length := by rw [lgs, lus]
          have gat : ∀ (i : Nat) (p : Str) (g : Arg), rw0.2.1[i]? = some p → gs[i]? = some g → EncArg p g := fun i p g hp hg => by
            have hi' : i < us.length := by have := (List.getElem?_eq_some_iff.mp hg).1; omega
            obtain ⟨p', hp', h1, _⟩ := hgs i _ g (List.getElem?_eq_getElem hi') hg
            cases hp.symm.trans hp'
            exact h1
          have gex : ∀ g ∈ gs, ∃ p ∈ rw0.2.1, EncArg p g := fun g hg => by
            obtain ⟨i, hi⟩ := List.getElem?_of_mem hg
            have hi' : i < rw0.2.1.length := by have := (List.getElem?_eq_some_iff.mp hi).1; omega
            exact ⟨_, List.getElem_mem hi', gat i _ g (List.getElem?_eq_getElem hi') hi⟩
          refine ⟨fun σ' H' => ∃ (pf : Addr), σ' = [some (.ref o), some (.int row), some (.ref a), some (.int (k : Int)), some (.int r.1), some (.ref p5), none, some (.int (row / 600 % (zs.length : Int))), some (.ref pa), some (.ref pr), v10, some (.ref pw), some (.ref pf), none] ∧ Same H11 H' ∧ ArgsAt K H' pf gs, ?_, ?_⟩
          · refine ⟨_, rfl, pa, _, rfl, .inl qa11, ?_⟩
            refine ⟨_, rfl, by rw [List.length_map]; omega, by rw [List.length_map]; omega, fun D hD => ?_⟩
            refine lc_rel (Rl := fun U v (g : Arg) => ∃ t v', v = .ref t ∧ SqT K U t [.str g.kind, v'] ∧ ArgAt K U v' g.val) (fun U U' v g s ⟨t, v', h1, h2, h3⟩ => ⟨t, v', h1, s.sqt h2, h3.to s⟩) (walk_range (lo := 0) (n := (((rw0.2.1.map V.str).length : Nat) : Int).toNat)) (V0 := H11) (H0 := H11) (fun i => gs[i]?) _ rfl (Same.refl _) hD (by rw [List.length_map]; omega) (fun _ _ => trivial) (fun i x H H' y => y.1) ?_ ?_
            · rintro i v U H12 hi xx ⟨_, rfl⟩ Qy Qn hy _
              have hi' : i < rw0.2.1.length := by rw [List.length_map] at hi; omega
              have hp := List.getElem?_eq_getElem hi'
              generalize rw0.2.1[i] = p at hp
              have hiu : i < us.length := by omega
              have hv := List.getElem?_eq_getElem hiu
              generalize us[i] = v at hv
              have hig : i < gs.length := by omega
              have hg := List.getElem?_eq_getElem hig
              generalize gs[i] = g at hg
              obtain ⟨p', hp', hga, ag⟩ := hgs i v g hv hg
              cases hp.symm.trans hp'
              obtain ⟨lp, hc⟩ := okPart_ex (hparts p (List.mem_of_getElem? hp))
              obtain ⟨rest, e1⟩ : ∃ rest, spS 32 p = (kinP p).1 :: rest := by
                rcases hc with ⟨k', e1, e2, _⟩ | ⟨k', x, e1, e2, _⟩
                · exact ⟨[], by rw [e1, e2]⟩
                · exact ⟨[x], by rw [e1, e2]⟩
              refine ⟨rfl, _, rfl, _, rfl, pa, _, _, _, rfl, rfl, xx.hh.seq qa11, at_of (j := i) (Int.zero_add _) (by rw [List.getElem?_map, hp]; rfl), ⟨p, rfl⟩, p, _, rfl, rfl, by decide +kernel, szl (by omega), fun pz hpz => ?_⟩
              rw [split32, e1]
              have x1 := Ext.skip (o := .lst (((kinP p).1 :: rest).map V.str)) xx.vh hpz
              refine ⟨pz, _, _, .str (kinP p).1, rfl, rfl, SqL.of upd_same, atI_nat (j := 0) rfl, ?_⟩
              have epv6 := x1.hh _ _ (xx.hh _ _ epv)
              refine ⟨_, rfl, _, rfl, pw, _, _, v, rfl, rfl, SqL.of epv6, at_of (j := i) (Int.zero_add _) hv, len_line (by show 2 ≤ 100000; decide), fun pt hpt => ?_⟩
              have x2 := x1.trans (Ext.new (o := .tup [.str (kinP p).1, v]) x1.vh hpt)
              have x5 : Same H11 (upd U pt (.tup [.str (kinP p).1, v])) := xx.vv.trans x2.vv
              exact hy g _ _ _ hg x2 ⟨pt, v, rfl, by rw [hga.kd]; exact SqT.of upd_same, ag.to x5⟩
            · rintro U H12 ys xx hDU al
              have e6 : fm (fun i => gs[i]?) (((rw0.2.1.map V.str).length : Nat) : Int).toNat = gs := by
                rw [List.length_map, Int.toNat_natCast, ← lgr]
                have := fm_map (fun x : Arg => x) gs
                simpa using this
              rw [e6] at al
              refine ⟨D, rfl, xx.hh, ⟨⟨ys, xx.vh.seq (SqL.of hDU), allr_len al, fun i x hx => ?_⟩, fun g hg => ?_⟩⟩
              · obtain ⟨g, hg, t, v', h1, h2, h3⟩ := allr_get al hx
                exact ⟨g, t, v', hg, h1, xx.vh.sqt h2, h3.to xx.vh⟩
              · obtain ⟨p, _, h⟩ := gex g hg
                exact h.sp
          rintro σ' H12 ⟨pf, rfl, s12, af⟩
          have O12 := O11.same s12
          have lbody : (bodyOf gs).length ≤ 20000 := by
            have := body_len_le (c := 1000) fun g hg => by
              obtain ⟨p, _, h⟩ := gex g hg
              exact h.ln
            omega
          refine ⟨fun σ' H' => ∃ (pb : Addr), σ' = [some (.ref o), some (.int row), some (.ref a), some (.int (k : Int)), some (.int r.1), some (.ref p5), none, some (.int (row / 600 % (zs.length : Int))), some (.ref pa), some (.ref pr), v10, some (.ref pw), some (.ref pf), some (.ref pb)] ∧ Same H12 H' ∧ H' pb = some (.lst ((bodyOf gs).map V.int)), ?_, ?_⟩
          · walk_at "gf"
            refine ⟨r.1, row / 600 % (zs.length : Int), pf, gs, rfl, af, by omega, by omega, fun hb => ?_, fun _ hb => ?_, fun _ _ p8 H8 n8 => ?_⟩
            · exfalso
              unfold encBad at hb
              rw [ej] at hb
              have := W.rg r hrm
              omega
            · exfalso
              unfold encLong at hb
              omega
            walk_at "gf"
            refine ⟨p8, _, rfl, SqL.of n8.at_, fun pb hpb => ?_⟩
            have eb : (upd H8 pb (.lst (cutV ((msgOcts r.1 (row / 600 % (zs.length : Int)) (bodyOf gs)).map V.int) (some 8) none))) pb = some (.lst ((bodyOf gs).map V.int)) := by rw [body_cut]; exact upd_same
            have sb := same_upd (o := .lst (cutV ((msgOcts r.1 (row / 600 % (zs.length : Int)) (bodyOf gs)).map V.int) (some 8) none)) hpb
            exact ⟨pb, rfl, n8.same.trans sb, eb⟩
          rintro σ' H13 ⟨pb, rfl, s13, eb⟩
          have O13 := O12.same s13
          have s1113 := s12.trans s13
          have hkinds : kindsOf rw0.2.1 = gs.map Arg.kind := by
            refine List.ext_getElem (by unfold kindsOf; rw [List.length_map, List.length_map, lgr]) fun i h1 h2 => ?_
            unfold kindsOf at h1 ⊢
            rw [List.getElem_map, List.getElem_map]
            rw [List.length_map] at h1 h2
            exact (gat i _ _ (List.getElem?_eq_getElem h1) (List.getElem?_eq_getElem h2)).kd.symm
          have hsp : ∀ g ∈ gs, ArgSpec g.kind g.val true g.os := fun g hg => by
            obtain ⟨p, _, h⟩ := gex g hg
            exact h.sp
          have hrd : rdArgs (bodyOf gs) (kindsOf rw0.2.1) = .ok (gs.map Arg.val) := by rw [hkinds]; exact rdArgs_at hsp
          have hfit := rdArgs_fit hrd
          have va : ValsAt K H11 us (gs.map Arg.val) := ⟨by rw [List.length_map, lgs], fun i v hv => by
            have hi' : i < gs.length := by have := (List.getElem?_eq_some_iff.mp hv).1; omega
            obtain ⟨p, hp, _, ag⟩ := hgs i v _ hv (List.getElem?_eq_getElem hi')
            exact ⟨_, by rw [List.getElem?_map, List.getElem?_eq_getElem hi']; rfl, ag⟩⟩
          have lb := look_body TA ht hf hrow un hrd
          refine ⟨fun σ' H' => σ' = [some (.ref o), some (.int row), some (.ref a), some (.int (k : Int)), some (.int r.1), some (.ref p5), none, some (.int (row / 600 % (zs.length : Int))), some (.ref pa), some (.ref pr), v10, some (.ref pw), some (.ref pf), some (.ref pb)] ∧ Same H13 H', ?_, ?_⟩
          · have wln := W.ln
            exact due_ne O13 (by omega) (s1113.seq qa11) (s1113 _ _ epv) (va.to s1113) eb (body_ok hsp) lbody (by rw [ej]; omega) (told_tab TA W r.1) (by rw [List.length_map, lgr]) (by omega) hparts hfit.2 (by rw [ej]; exact lb) fun H' s => ⟨rfl, s⟩
          rintro σ' H14 ⟨rfl, s14⟩
          refine ⟨fun σ' H' => σ' = [some (.ref o), some (.int row), some (.ref a), some (.int (k : Int)), some (.int r.1), some (.ref p5), none, some (.int (row / 600 % (zs.length : Int))), some (.ref pa), some (.ref pr), v10, some (.ref pw), some (.ref pf), some (.ref pb)] ∧ Same H14 H', ?_, ?_⟩
          · have wln := W.ln
            exact more_ne (ps := []) (O13.same s14) (by omega) (s14 _ _ eb) (body_ok hsp) lbody (by rw [ej]; omega) (told_tab TA W r.1) (by rw [ej]; exact look_err TA ht hf hrow (by rw [hkinds]; exact rdArgs_more (ys := [0, 0, 0, 0]) hsp (by decide))) fun H' s => ⟨rfl, s⟩
          rintro σ' H15 ⟨rfl, s15⟩
          have wln := W.ln
          have s1315 := s14.trans s15
          refine miss_ret (O13.same s1315) (by omega) ((s1113.trans s1315).seq qa11) (s1315 _ _ eb) (body_ok hsp) lbody (by rw [ej]; omega) (told_tab TA W r.1) hparts (fun p hp => (hT.s1 rw0 (List.mem_of_getElem? hrow) p hp).1) (fun k0 ks hk0 hin => ?_) (fun H' s => q _ ((s11.trans s1113).trans (s1315.trans s)))
          rw [ej]
          exact look_err (n := r.1) (xs := [0, 0, 0, 0] ++ (bodyOf gs).drop 4) TA ht hf hrow (by rw [hk0]; exact rdArgs_miss hin)
/-! ### the law -/
theorem sc_law : FnScope ["script", "objects", "k"] ["script"] (defScope s_law) := ⟨rfl, rfl, rfl, by decide +kernel, rfl, by decide +kernel, by decide +kernel⟩
theorem ok_lawE (T : Txt0 P K mg A) (TA : TabAll12 A w K) : FnOk P w K mg base CX0 11 A.flaw A.dlaw ["script"] (sp_law K) := by
  refine T.Flaw.ok sc_law (fun vs H Q E h => ?_) (fun cdv Ar outer s H vs Q E hr h => ?_)
  · obtain ⟨a, ns, rfl, _⟩ := h
    rfl
  · obtain ⟨a, ns, rfl, hS, hlen, q⟩ := h
    have ok__law_asked := fun T : Txt0 P K mg A => ok__law_asked (P := P) (base := base) T TA
    refine ⟨_, (pss_cons (ps_set (i := 1) sc_law.nd rfl (Or.inl rfl) (pe_call (ok__law_world T) (hr.mono (by decide)) rfl T.g_law_world T.k_law_world T.b_law_world .nil pass0 (pa_cons (pv 0) (pa_cons pe_int pa_nil))))
      (pss_cons (ps_for PassesOwn.never rfl (pi_range1 (by rfl) T.range (pa_cons (pe_op op_add (pe_callB (call_min2 rfl) (by rfl) T.min (by decide +kernel) (pa_cons (pe_callB call_len_seq (by rfl) T.len PySem.boot_len (pa_cons (pv 0) pa_nil)) (pa_cons pe_int pa_nil))) pe_int) pa_nil)) (pg_name (i := 2) sc_law.nd rfl (Or.inl rfl))
      (pss_one (ps_if (pt_not (pt_val (pe_call (ok__law_asked T) (hr.mono (by decide)) rfl T.g_law_asked T.k_law_asked T.b_law_asked .nil pass0 (pa_cons (pv 1) (pa_cons (pe_call (ok__law_row T) (hr.mono (by decide)) rfl T.g_law_row T.k_law_row T.b_law_row .nil pass0 (pa_cons (pv 0) (pa_cons (pv 2) pa_nil))) (pa_cons (pv 0) (pa_cons (pv 2) pa_nil)))))))
      (pss_one (ps_ret pe_bl))
      pss_nil)))
      (pss_one (ps_ret pe_bl)))), ?_⟩
    walk_at "go"
    refine ⟨a, ns, 63, rfl, hS, fun o d rs nm H1 s1 O W => ?_⟩
    have hS1 := s1.seq hS
    walk_at "go"
    rw [List.length_map]
    refine ⟨by split <;> omega, by split <;> omega, ?_⟩
    refine for_range (lo := 0) (fun i σ H' => ∃ v2, σ = [some (.ref a), some (.ref o), v2] ∧ Same H1 H') ⟨_, rfl, Same.refl _⟩ ?_ ?_
    · rintro i σ H2 hi ⟨v2, rfl, s2⟩
      walk_at "go"
      refine ⟨a, ns, i, by rw [Int.zero_add]; rfl, s2.seq hS1, ?_⟩
      walk_at "go"
      refine ⟨o, d, a, rs, nm, lawRow ns i, ns, i, by rw [Int.zero_add]; rfl, O.same s2, W, s2.seq hS1, fun H3 s3 => ?_⟩
      walk_at "go"
      exact s2.trans s3
    · rintro σ H2 ⟨v2, rfl, s2⟩
      walk_at "go"
      exact q H2
/-! ### the facts of the table of requests -/
theorem KKeys.sys {K : PySem.W.Frag} {w : World} {a : Addr} {ks : List Str} (h : KKeys K w a ks) : (a == sysModules) = false := by
  obtain ⟨_, _, _, _, _, _, _, z⟩ := h
  exact z
theorem TabRq.of {A : Adr} {w : World} {K : PySem.W.Frag} {n : Str} {rr : List RqRow} {t : TR} (e : (t.1, t.2.1) = (n, rr)) (sr : (A.a_REQUESTS == sysModules) = false)
    (rq : ∃ ar, KDct K w A.a_REQUESTS n (.ref ar) ∧ ∀ H, Dp K H (.ref ar) (rqD rr)) (d1 : (rr.map fun r => r.1).Nodup) (l1 : rr.length ≤ 100) (l2 : ∀ r ∈ rr, r.2.1.length ≤ 20) (s0 : ∀ r ∈ rr, PyData.strOk r.1 = true)
    (ok : ∀ r ∈ rr, ∀ p ∈ r.2.1, okPart p = true) (s1 : ∀ r ∈ rr, ∀ s ∈ r.2.1, PyData.strOk s = true ∧ PyData.strOk (kinP s).2 = true)
    (un : ∀ r ∈ rr, (r.2.1.filter fun s => decide ((kinP s).1 = Str.ofString "new" ∨ (kinP s).1 = Str.ofString "bound")).length ≤ 1) : TabRq A w K t := by
  obtain ⟨n', r, v⟩ := t
  injection e with e1 e2
  subst e1
  subst e2
  exact ⟨sr, rq, d1, l1, l2, s0, ok, s1, un⟩
def rr0 : List RqRow := [("sync", ["new callback"], false), ("registry", ["new registry"], false)]
theorem tabRq0 (T : Txt0 P K mg A) (D : Dic w K A) (t : TR) (e : (t.1, t.2.1) = (("display" : Str), rr0)) : TabRq A w K t :=
  TabRq.of e D.kk_REQUESTS.sys ⟨_, D.d_REQUESTS_k0, fun H => .tup (T.w_REQUESTS_k0 H) (.cons (.tup (T.w_REQUESTS_k0_0 H) (.cons (.str _) (.cons (.tup (T.w_REQUESTS_k0_0_1 H) (.cons (.str _) .nil)) (.cons (.bl _) .nil)))) (.cons (.tup (T.w_REQUESTS_k0_1 H) (.cons (.str _) (.cons (.tup (T.w_REQUESTS_k0_1_1 H) (.cons (.str _) .nil)) (.cons (.bl _) .nil)))) .nil))⟩ (by decide +kernel) (by decide +kernel) (by decide +kernel) (by decide +kernel) (by decide +kernel) (by decide +kernel) (by decide +kernel)
def rr1 : List RqRow := []
theorem tabRq1 (T : Txt0 P K mg A) (D : Dic w K A) (t : TR) (e : (t.1, t.2.1) = (("callback" : Str), rr1)) : TabRq A w K t :=
  TabRq.of e D.kk_REQUESTS.sys ⟨_, D.d_REQUESTS_k1, fun H => .tup (T.w_REQUESTS_k1 H) .nil⟩ (by decide +kernel) (by decide +kernel) (by decide +kernel) (by decide +kernel) (by decide +kernel) (by decide +kernel) (by decide +kernel)
def rr2 : List RqRow := [("bind", ["uint", "bound"], false)]
theorem tabRq2 (T : Txt0 P K mg A) (D : Dic w K A) (t : TR) (e : (t.1, t.2.1) = (("registry" : Str), rr2)) : TabRq A w K t :=
  TabRq.of e D.kk_REQUESTS.sys ⟨_, D.d_REQUESTS_k2, fun H => .tup (T.w_REQUESTS_k2 H) (.cons (.tup (T.w_REQUESTS_k2_0 H) (.cons (.str _) (.cons (.tup (T.w_REQUESTS_k2_0_1 H) (.cons (.str _) (.cons (.str _) .nil))) (.cons (.bl _) .nil)))) .nil)⟩ (by decide +kernel) (by decide +kernel) (by decide +kernel) (by decide +kernel) (by decide +kernel) (by decide +kernel) (by decide +kernel)
def rr3 : List RqRow := [("buffer", ["new buffer", "uint", "uint"], false), ("destroy", [], true)]
theorem tabRq3 (T : Txt0 P K mg A) (D : Dic w K A) (t : TR) (e : (t.1, t.2.1) = (("memory" : Str), rr3)) : TabRq A w K t :=
  TabRq.of e D.kk_REQUESTS.sys ⟨_, D.d_REQUESTS_k3, fun H => .tup (T.w_REQUESTS_k3 H) (.cons (.tup (T.w_REQUESTS_k3_0 H) (.cons (.str _) (.cons (.tup (T.w_REQUESTS_k3_0_1 H) (.cons (.str _) (.cons (.str _) (.cons (.str _) .nil)))) (.cons (.bl _) .nil)))) (.cons (.tup (T.w_REQUESTS_k3_1 H) (.cons (.str _) (.cons (.tup (T.w_REQUESTS_k3_1_1 H) .nil) (.cons (.bl _) .nil)))) .nil))⟩ (by decide +kernel) (by decide +kernel) (by decide +kernel) (by decide +kernel) (by decide +kernel) (by decide +kernel) (by decide +kernel)
def rr4 : List RqRow := [("write", ["uint", "octets"], false), ("fill", ["int", "int", "uint", "uint", "uint"], false), ("destroy", [], true)]
theorem tabRq4 (T : Txt0 P K mg A) (D : Dic w K A) (t : TR) (e : (t.1, t.2.1) = (("buffer" : Str), rr4)) : TabRq A w K t :=
  TabRq.of e D.kk_REQUESTS.sys ⟨_, D.d_REQUESTS_k4, fun H => .tup (T.w_REQUESTS_k4 H) (.cons (.tup (T.w_REQUESTS_k4_0 H) (.cons (.str _) (.cons (.tup (T.w_REQUESTS_k4_0_1 H) (.cons (.str _) (.cons (.str _) .nil))) (.cons (.bl _) .nil)))) (.cons (.tup (T.w_REQUESTS_k4_1 H) (.cons (.str _) (.cons (.tup (T.w_REQUESTS_k4_1_1 H) (.cons (.str _) (.cons (.str _) (.cons (.str _) (.cons (.str _) (.cons (.str _) .nil)))))) (.cons (.bl _) .nil)))) (.cons (.tup (T.w_REQUESTS_k4_2 H) (.cons (.str _) (.cons (.tup (T.w_REQUESTS_k4_2_1 H) .nil) (.cons (.bl _) .nil)))) .nil)))⟩ (by decide +kernel) (by decide +kernel) (by decide +kernel) (by decide +kernel) (by decide +kernel) (by decide +kernel) (by decide +kernel)
def rr5 : List RqRow := [("surface", ["new surface"], false), ("region", ["new region"], false), ("destroy", [], true)]
theorem tabRq5 (T : Txt0 P K mg A) (D : Dic w K A) (t : TR) (e : (t.1, t.2.1) = (("compositor" : Str), rr5)) : TabRq A w K t :=
  TabRq.of e D.kk_REQUESTS.sys ⟨_, D.d_REQUESTS_k5, fun H => .tup (T.w_REQUESTS_k5 H) (.cons (.tup (T.w_REQUESTS_k5_0 H) (.cons (.str _) (.cons (.tup (T.w_REQUESTS_k5_0_1 H) (.cons (.str _) .nil)) (.cons (.bl _) .nil)))) (.cons (.tup (T.w_REQUESTS_k5_1 H) (.cons (.str _) (.cons (.tup (T.w_REQUESTS_k5_1_1 H) (.cons (.str _) .nil)) (.cons (.bl _) .nil)))) (.cons (.tup (T.w_REQUESTS_k5_2 H) (.cons (.str _) (.cons (.tup (T.w_REQUESTS_k5_2_1 H) .nil) (.cons (.bl _) .nil)))) .nil)))⟩ (by decide +kernel) (by decide +kernel) (by decide +kernel) (by decide +kernel) (by decide +kernel) (by decide +kernel) (by decide +kernel)
def rr6 : List RqRow := [("add", ["int", "int", "uint", "uint"], false), ("subtract", ["int", "int", "uint", "uint"], false), ("destroy", [], true)]
theorem tabRq6 (T : Txt0 P K mg A) (D : Dic w K A) (t : TR) (e : (t.1, t.2.1) = (("region" : Str), rr6)) : TabRq A w K t :=
  TabRq.of e D.kk_REQUESTS.sys ⟨_, D.d_REQUESTS_k6, fun H => .tup (T.w_REQUESTS_k6 H) (.cons (.tup (T.w_REQUESTS_k6_0 H) (.cons (.str _) (.cons (.tup (T.w_REQUESTS_k6_0_1 H) (.cons (.str _) (.cons (.str _) (.cons (.str _) (.cons (.str _) .nil))))) (.cons (.bl _) .nil)))) (.cons (.tup (T.w_REQUESTS_k6_1 H) (.cons (.str _) (.cons (.tup (T.w_REQUESTS_k6_1_1 H) (.cons (.str _) (.cons (.str _) (.cons (.str _) (.cons (.str _) .nil))))) (.cons (.bl _) .nil)))) (.cons (.tup (T.w_REQUESTS_k6_2 H) (.cons (.str _) (.cons (.tup (T.w_REQUESTS_k6_2_1 H) .nil) (.cons (.bl _) .nil)))) .nil)))⟩ (by decide +kernel) (by decide +kernel) (by decide +kernel) (by decide +kernel) (by decide +kernel) (by decide +kernel) (by decide +kernel)
def rr7 : List RqRow := [("attach", ["maybe buffer"], false), ("frame", ["new callback"], false), ("hears", ["maybe region"], false), ("commit", [], false), ("turn", ["uint"], false), ("scale", ["uint"], false), ("destroy", [], true)]
theorem tabRq7 (T : Txt0 P K mg A) (D : Dic w K A) (t : TR) (e : (t.1, t.2.1) = (("surface" : Str), rr7)) : TabRq A w K t :=
  TabRq.of e D.kk_REQUESTS.sys ⟨_, D.d_REQUESTS_k7, fun H => .tup (T.w_REQUESTS_k7 H) (.cons (.tup (T.w_REQUESTS_k7_0 H) (.cons (.str _) (.cons (.tup (T.w_REQUESTS_k7_0_1 H) (.cons (.str _) .nil)) (.cons (.bl _) .nil)))) (.cons (.tup (T.w_REQUESTS_k7_1 H) (.cons (.str _) (.cons (.tup (T.w_REQUESTS_k7_1_1 H) (.cons (.str _) .nil)) (.cons (.bl _) .nil)))) (.cons (.tup (T.w_REQUESTS_k7_2 H) (.cons (.str _) (.cons (.tup (T.w_REQUESTS_k7_2_1 H) (.cons (.str _) .nil)) (.cons (.bl _) .nil)))) (.cons (.tup (T.w_REQUESTS_k7_3 H) (.cons (.str _) (.cons (.tup (T.w_REQUESTS_k7_3_1 H) .nil) (.cons (.bl _) .nil)))) (.cons (.tup (T.w_REQUESTS_k7_4 H) (.cons (.str _) (.cons (.tup (T.w_REQUESTS_k7_4_1 H) (.cons (.str _) .nil)) (.cons (.bl _) .nil)))) (.cons (.tup (T.w_REQUESTS_k7_5 H) (.cons (.str _) (.cons (.tup (T.w_REQUESTS_k7_5_1 H) (.cons (.str _) .nil)) (.cons (.bl _) .nil)))) (.cons (.tup (T.w_REQUESTS_k7_6 H) (.cons (.str _) (.cons (.tup (T.w_REQUESTS_k7_6_1 H) .nil) (.cons (.bl _) .nil)))) .nil)))))))⟩ (by decide +kernel) (by decide +kernel) (by decide +kernel) (by decide +kernel) (by decide +kernel) (by decide +kernel) (by decide +kernel)
def rr8 : List RqRow := [("join", ["new sub", "object surface", "object surface"], false), ("destroy", [], true)]
theorem tabRq8 (T : Txt0 P K mg A) (D : Dic w K A) (t : TR) (e : (t.1, t.2.1) = (("joiner" : Str), rr8)) : TabRq A w K t :=
  TabRq.of e D.kk_REQUESTS.sys ⟨_, D.d_REQUESTS_k8, fun H => .tup (T.w_REQUESTS_k8 H) (.cons (.tup (T.w_REQUESTS_k8_0 H) (.cons (.str _) (.cons (.tup (T.w_REQUESTS_k8_0_1 H) (.cons (.str _) (.cons (.str _) (.cons (.str _) .nil)))) (.cons (.bl _) .nil)))) (.cons (.tup (T.w_REQUESTS_k8_1 H) (.cons (.str _) (.cons (.tup (T.w_REQUESTS_k8_1_1 H) .nil) (.cons (.bl _) .nil)))) .nil))⟩ (by decide +kernel) (by decide +kernel) (by decide +kernel) (by decide +kernel) (by decide +kernel) (by decide +kernel) (by decide +kernel)
def rr9 : List RqRow := [("place", ["int", "int"], false), ("above", ["object surface"], false), ("below", ["object surface"], false), ("sync", [], false), ("desync", [], false), ("destroy", [], true)]
theorem tabRq9 (T : Txt0 P K mg A) (D : Dic w K A) (t : TR) (e : (t.1, t.2.1) = (("sub" : Str), rr9)) : TabRq A w K t :=
  TabRq.of e D.kk_REQUESTS.sys ⟨_, D.d_REQUESTS_k9, fun H => .tup (T.w_REQUESTS_k9 H) (.cons (.tup (T.w_REQUESTS_k9_0 H) (.cons (.str _) (.cons (.tup (T.w_REQUESTS_k9_0_1 H) (.cons (.str _) (.cons (.str _) .nil))) (.cons (.bl _) .nil)))) (.cons (.tup (T.w_REQUESTS_k9_1 H) (.cons (.str _) (.cons (.tup (T.w_REQUESTS_k9_1_1 H) (.cons (.str _) .nil)) (.cons (.bl _) .nil)))) (.cons (.tup (T.w_REQUESTS_k9_2 H) (.cons (.str _) (.cons (.tup (T.w_REQUESTS_k9_2_1 H) (.cons (.str _) .nil)) (.cons (.bl _) .nil)))) (.cons (.tup (T.w_REQUESTS_k9_3 H) (.cons (.str _) (.cons (.tup (T.w_REQUESTS_k9_3_1 H) .nil) (.cons (.bl _) .nil)))) (.cons (.tup (T.w_REQUESTS_k9_4 H) (.cons (.str _) (.cons (.tup (T.w_REQUESTS_k9_4_1 H) .nil) (.cons (.bl _) .nil)))) (.cons (.tup (T.w_REQUESTS_k9_5 H) (.cons (.str _) (.cons (.tup (T.w_REQUESTS_k9_5_1 H) .nil) (.cons (.bl _) .nil)))) .nil))))))⟩ (by decide +kernel) (by decide +kernel) (by decide +kernel) (by decide +kernel) (by decide +kernel) (by decide +kernel) (by decide +kernel)
def rr10 : List RqRow := [("destroy", [], true)]
theorem tabRq10 (T : Txt0 P K mg A) (D : Dic w K A) (t : TR) (e : (t.1, t.2.1) = (("output" : Str), rr10)) : TabRq A w K t :=
  TabRq.of e D.kk_REQUESTS.sys ⟨_, D.d_REQUESTS_k10, fun H => .tup (T.w_REQUESTS_k10 H) (.cons (.tup (T.w_REQUESTS_k10_0 H) (.cons (.str _) (.cons (.tup (T.w_REQUESTS_k10_0_1 H) .nil) (.cons (.bl _) .nil)))) .nil)⟩ (by decide +kernel) (by decide +kernel) (by decide +kernel) (by decide +kernel) (by decide +kernel) (by decide +kernel) (by decide +kernel)
def rr11 : List RqRow := [("window", ["new window", "object surface"], false), ("popup", ["new popup", "object surface", "object window|popup", "int", "int", "int", "int", "int", "int", "int", "int", "uint", "uint", "int", "int", "uint", "uint"], false)]
theorem tabRq11 (T : Txt0 P K mg A) (D : Dic w K A) (t : TR) (e : (t.1, t.2.1) = (("windows" : Str), rr11)) : TabRq A w K t :=
  TabRq.of e D.kk_REQUESTS.sys ⟨_, D.d_REQUESTS_k11, fun H => .tup (T.w_REQUESTS_k11 H) (.cons (.tup (T.w_REQUESTS_k11_0 H) (.cons (.str _) (.cons (.tup (T.w_REQUESTS_k11_0_1 H) (.cons (.str _) (.cons (.str _) .nil))) (.cons (.bl _) .nil)))) (.cons (.tup (T.w_REQUESTS_k11_1 H) (.cons (.str _) (.cons (.tup (T.w_REQUESTS_k11_1_1 H) (.cons (.str _) (.cons (.str _) (.cons (.str _) (.cons (.str _) (.cons (.str _) (.cons (.str _) (.cons (.str _) (.cons (.str _) (.cons (.str _) (.cons (.str _) (.cons (.str _) (.cons (.str _) (.cons (.str _) (.cons (.str _) (.cons (.str _) (.cons (.str _) (.cons (.str _) .nil)))))))))))))))))) (.cons (.bl _) .nil)))) .nil))⟩ (by decide +kernel) (by decide +kernel) (by decide +kernel) (by decide +kernel) (by decide +kernel) (by decide +kernel) (by decide +kernel)
def rr12 : List RqRow := [("destroy", [], true), ("title", ["text"], false), ("name", ["text"], false), ("least", ["uint", "uint"], false), ("largest", ["uint", "uint"], false), ("ack", ["uint"], false), ("map_with", ["uint"], false), ("smaller", ["uint", "uint"], false), ("grow", ["uint", "uint", "uint"], false), ("raise", ["uint"], false), ("maximize", ["uint"], false), ("restore", [], false)]
theorem tabRq12 (T : Txt0 P K mg A) (D : Dic w K A) (t : TR) (e : (t.1, t.2.1) = (("window" : Str), rr12)) : TabRq A w K t :=
  TabRq.of e D.kk_REQUESTS.sys ⟨_, D.d_REQUESTS_k12, fun H => .tup (T.w_REQUESTS_k12 H) (.cons (.tup (T.w_REQUESTS_k12_0 H) (.cons (.str _) (.cons (.tup (T.w_REQUESTS_k12_0_1 H) .nil) (.cons (.bl _) .nil)))) (.cons (.tup (T.w_REQUESTS_k12_1 H) (.cons (.str _) (.cons (.tup (T.w_REQUESTS_k12_1_1 H) (.cons (.str _) .nil)) (.cons (.bl _) .nil)))) (.cons (.tup (T.w_REQUESTS_k12_2 H) (.cons (.str _) (.cons (.tup (T.w_REQUESTS_k12_2_1 H) (.cons (.str _) .nil)) (.cons (.bl _) .nil)))) (.cons (.tup (T.w_REQUESTS_k12_3 H) (.cons (.str _) (.cons (.tup (T.w_REQUESTS_k12_3_1 H) (.cons (.str _) (.cons (.str _) .nil))) (.cons (.bl _) .nil)))) (.cons (.tup (T.w_REQUESTS_k12_4 H) (.cons (.str _) (.cons (.tup (T.w_REQUESTS_k12_4_1 H) (.cons (.str _) (.cons (.str _) .nil))) (.cons (.bl _) .nil)))) (.cons (.tup (T.w_REQUESTS_k12_5 H) (.cons (.str _) (.cons (.tup (T.w_REQUESTS_k12_5_1 H) (.cons (.str _) .nil)) (.cons (.bl _) .nil)))) (.cons (.tup (T.w_REQUESTS_k12_6 H) (.cons (.str _) (.cons (.tup (T.w_REQUESTS_k12_6_1 H) (.cons (.str _) .nil)) (.cons (.bl _) .nil)))) (.cons (.tup (T.w_REQUESTS_k12_7 H) (.cons (.str _) (.cons (.tup (T.w_REQUESTS_k12_7_1 H) (.cons (.str _) (.cons (.str _) .nil))) (.cons (.bl _) .nil)))) (.cons (.tup (T.w_REQUESTS_k12_8 H) (.cons (.str _) (.cons (.tup (T.w_REQUESTS_k12_8_1 H) (.cons (.str _) (.cons (.str _) (.cons (.str _) .nil)))) (.cons (.bl _) .nil)))) (.cons (.tup (T.w_REQUESTS_k12_9 H) (.cons (.str _) (.cons (.tup (T.w_REQUESTS_k12_9_1 H) (.cons (.str _) .nil)) (.cons (.bl _) .nil)))) (.cons (.tup (T.w_REQUESTS_k12_10 H) (.cons (.str _) (.cons (.tup (T.w_REQUESTS_k12_10_1 H) (.cons (.str _) .nil)) (.cons (.bl _) .nil)))) (.cons (.tup (T.w_REQUESTS_k12_11 H) (.cons (.str _) (.cons (.tup (T.w_REQUESTS_k12_11_1 H) .nil) (.cons (.bl _) .nil)))) .nil))))))))))))⟩ (by decide +kernel) (by decide +kernel) (by decide +kernel) (by decide +kernel) (by decide +kernel) (by decide +kernel) (by decide +kernel)
def rr13 : List RqRow := [("destroy", [], true), ("place", ["int", "int", "int", "int", "int", "int", "int", "int", "uint", "uint", "int", "int", "uint"], false)]
theorem tabRq13 (T : Txt0 P K mg A) (D : Dic w K A) (t : TR) (e : (t.1, t.2.1) = (("popup" : Str), rr13)) : TabRq A w K t :=
  TabRq.of e D.kk_REQUESTS.sys ⟨_, D.d_REQUESTS_k13, fun H => .tup (T.w_REQUESTS_k13 H) (.cons (.tup (T.w_REQUESTS_k13_0 H) (.cons (.str _) (.cons (.tup (T.w_REQUESTS_k13_0_1 H) .nil) (.cons (.bl _) .nil)))) (.cons (.tup (T.w_REQUESTS_k13_1 H) (.cons (.str _) (.cons (.tup (T.w_REQUESTS_k13_1_1 H) (.cons (.str _) (.cons (.str _) (.cons (.str _) (.cons (.str _) (.cons (.str _) (.cons (.str _) (.cons (.str _) (.cons (.str _) (.cons (.str _) (.cons (.str _) (.cons (.str _) (.cons (.str _) (.cons (.str _) .nil)))))))))))))) (.cons (.bl _) .nil)))) .nil))⟩ (by decide +kernel) (by decide +kernel) (by decide +kernel) (by decide +kernel) (by decide +kernel) (by decide +kernel) (by decide +kernel)
def rr14 : List RqRow := [("pointer", ["new pointer"], false), ("keyboard", ["new keyboard"], false)]
theorem tabRq14 (T : Txt0 P K mg A) (D : Dic w K A) (t : TR) (e : (t.1, t.2.1) = (("seat" : Str), rr14)) : TabRq A w K t :=
  TabRq.of e D.kk_REQUESTS.sys ⟨_, D.d_REQUESTS_k14, fun H => .tup (T.w_REQUESTS_k14 H) (.cons (.tup (T.w_REQUESTS_k14_0 H) (.cons (.str _) (.cons (.tup (T.w_REQUESTS_k14_0_1 H) (.cons (.str _) .nil)) (.cons (.bl _) .nil)))) (.cons (.tup (T.w_REQUESTS_k14_1 H) (.cons (.str _) (.cons (.tup (T.w_REQUESTS_k14_1_1 H) (.cons (.str _) .nil)) (.cons (.bl _) .nil)))) .nil))⟩ (by decide +kernel) (by decide +kernel) (by decide +kernel) (by decide +kernel) (by decide +kernel) (by decide +kernel) (by decide +kernel)
def rr15 : List RqRow := [("destroy", [], true), ("cursor", ["uint"], false)]
theorem tabRq15 (T : Txt0 P K mg A) (D : Dic w K A) (t : TR) (e : (t.1, t.2.1) = (("pointer" : Str), rr15)) : TabRq A w K t :=
  TabRq.of e D.kk_REQUESTS.sys ⟨_, D.d_REQUESTS_k15, fun H => .tup (T.w_REQUESTS_k15 H) (.cons (.tup (T.w_REQUESTS_k15_0 H) (.cons (.str _) (.cons (.tup (T.w_REQUESTS_k15_0_1 H) .nil) (.cons (.bl _) .nil)))) (.cons (.tup (T.w_REQUESTS_k15_1 H) (.cons (.str _) (.cons (.tup (T.w_REQUESTS_k15_1_1 H) (.cons (.str _) .nil)) (.cons (.bl _) .nil)))) .nil))⟩ (by decide +kernel) (by decide +kernel) (by decide +kernel) (by decide +kernel) (by decide +kernel) (by decide +kernel) (by decide +kernel)
def rr16 : List RqRow := [("destroy", [], true)]
theorem tabRq16 (T : Txt0 P K mg A) (D : Dic w K A) (t : TR) (e : (t.1, t.2.1) = (("keyboard" : Str), rr16)) : TabRq A w K t :=
  TabRq.of e D.kk_REQUESTS.sys ⟨_, D.d_REQUESTS_k16, fun H => .tup (T.w_REQUESTS_k16 H) (.cons (.tup (T.w_REQUESTS_k16_0 H) (.cons (.str _) (.cons (.tup (T.w_REQUESTS_k16_0_1 H) .nil) (.cons (.bl _) .nil)))) .nil)⟩ (by decide +kernel) (by decide +kernel) (by decide +kernel) (by decide +kernel) (by decide +kernel) (by decide +kernel) (by decide +kernel)
def rr17 : List RqRow := [("source", ["new source"], false), ("give", ["object source", "uint", "uint"], false), ("drag", ["object source", "uint"], false), ("send", ["text", "octets"], false), ("unsend", ["text"], false), ("ask", ["new capture", "object output", "int", "int", "uint", "uint"], false), ("fetch", ["new fetch", "text"], false), ("watch", ["new watch", "text"], false), ("destroy", [], true)]
theorem tabRq17 (T : Txt0 P K mg A) (D : Dic w K A) (t : TR) (e : (t.1, t.2.1) = (("transfer" : Str), rr17)) : TabRq A w K t :=
  TabRq.of e D.kk_REQUESTS.sys ⟨_, D.d_REQUESTS_k17, fun H => .tup (T.w_REQUESTS_k17 H) (.cons (.tup (T.w_REQUESTS_k17_0 H) (.cons (.str _) (.cons (.tup (T.w_REQUESTS_k17_0_1 H) (.cons (.str _) .nil)) (.cons (.bl _) .nil)))) (.cons (.tup (T.w_REQUESTS_k17_1 H) (.cons (.str _) (.cons (.tup (T.w_REQUESTS_k17_1_1 H) (.cons (.str _) (.cons (.str _) (.cons (.str _) .nil)))) (.cons (.bl _) .nil)))) (.cons (.tup (T.w_REQUESTS_k17_2 H) (.cons (.str _) (.cons (.tup (T.w_REQUESTS_k17_2_1 H) (.cons (.str _) (.cons (.str _) .nil))) (.cons (.bl _) .nil)))) (.cons (.tup (T.w_REQUESTS_k17_3 H) (.cons (.str _) (.cons (.tup (T.w_REQUESTS_k17_3_1 H) (.cons (.str _) (.cons (.str _) .nil))) (.cons (.bl _) .nil)))) (.cons (.tup (T.w_REQUESTS_k17_4 H) (.cons (.str _) (.cons (.tup (T.w_REQUESTS_k17_4_1 H) (.cons (.str _) .nil)) (.cons (.bl _) .nil)))) (.cons (.tup (T.w_REQUESTS_k17_5 H) (.cons (.str _) (.cons (.tup (T.w_REQUESTS_k17_5_1 H) (.cons (.str _) (.cons (.str _) (.cons (.str _) (.cons (.str _) (.cons (.str _) (.cons (.str _) .nil))))))) (.cons (.bl _) .nil)))) (.cons (.tup (T.w_REQUESTS_k17_6 H) (.cons (.str _) (.cons (.tup (T.w_REQUESTS_k17_6_1 H) (.cons (.str _) (.cons (.str _) .nil))) (.cons (.bl _) .nil)))) (.cons (.tup (T.w_REQUESTS_k17_7 H) (.cons (.str _) (.cons (.tup (T.w_REQUESTS_k17_7_1 H) (.cons (.str _) (.cons (.str _) .nil))) (.cons (.bl _) .nil)))) (.cons (.tup (T.w_REQUESTS_k17_8 H) (.cons (.str _) (.cons (.tup (T.w_REQUESTS_k17_8_1 H) .nil) (.cons (.bl _) .nil)))) .nil)))))))))⟩ (by decide +kernel) (by decide +kernel) (by decide +kernel) (by decide +kernel) (by decide +kernel) (by decide +kernel) (by decide +kernel)
def rr18 : List RqRow := [("write", ["text", "octets"], false), ("destroy", [], true)]
theorem tabRq18 (T : Txt0 P K mg A) (D : Dic w K A) (t : TR) (e : (t.1, t.2.1) = (("source" : Str), rr18)) : TabRq A w K t :=
  TabRq.of e D.kk_REQUESTS.sys ⟨_, D.d_REQUESTS_k18, fun H => .tup (T.w_REQUESTS_k18 H) (.cons (.tup (T.w_REQUESTS_k18_0 H) (.cons (.str _) (.cons (.tup (T.w_REQUESTS_k18_0_1 H) (.cons (.str _) (.cons (.str _) .nil))) (.cons (.bl _) .nil)))) (.cons (.tup (T.w_REQUESTS_k18_1 H) (.cons (.str _) (.cons (.tup (T.w_REQUESTS_k18_1_1 H) .nil) (.cons (.bl _) .nil)))) .nil))⟩ (by decide +kernel) (by decide +kernel) (by decide +kernel) (by decide +kernel) (by decide +kernel) (by decide +kernel) (by decide +kernel)
def rr19 : List RqRow := [("read", ["text", "uint", "uint"], false), ("destroy", [], true)]
theorem tabRq19 (T : Txt0 P K mg A) (D : Dic w K A) (t : TR) (e : (t.1, t.2.1) = (("offer" : Str), rr19)) : TabRq A w K t :=
  TabRq.of e D.kk_REQUESTS.sys ⟨_, D.d_REQUESTS_k19, fun H => .tup (T.w_REQUESTS_k19 H) (.cons (.tup (T.w_REQUESTS_k19_0 H) (.cons (.str _) (.cons (.tup (T.w_REQUESTS_k19_0_1 H) (.cons (.str _) (.cons (.str _) (.cons (.str _) .nil)))) (.cons (.bl _) .nil)))) (.cons (.tup (T.w_REQUESTS_k19_1 H) (.cons (.str _) (.cons (.tup (T.w_REQUESTS_k19_1_1 H) .nil) (.cons (.bl _) .nil)))) .nil))⟩ (by decide +kernel) (by decide +kernel) (by decide +kernel) (by decide +kernel) (by decide +kernel) (by decide +kernel) (by decide +kernel)
def rr20 : List RqRow := [("read", ["uint", "uint"], false), ("destroy", [], true)]
theorem tabRq20 (T : Txt0 P K mg A) (D : Dic w K A) (t : TR) (e : (t.1, t.2.1) = (("capture" : Str), rr20)) : TabRq A w K t :=
  TabRq.of e D.kk_REQUESTS.sys ⟨_, D.d_REQUESTS_k20, fun H => .tup (T.w_REQUESTS_k20 H) (.cons (.tup (T.w_REQUESTS_k20_0 H) (.cons (.str _) (.cons (.tup (T.w_REQUESTS_k20_0_1 H) (.cons (.str _) (.cons (.str _) .nil))) (.cons (.bl _) .nil)))) (.cons (.tup (T.w_REQUESTS_k20_1 H) (.cons (.str _) (.cons (.tup (T.w_REQUESTS_k20_1_1 H) .nil) (.cons (.bl _) .nil)))) .nil))⟩ (by decide +kernel) (by decide +kernel) (by decide +kernel) (by decide +kernel) (by decide +kernel) (by decide +kernel) (by decide +kernel)
def rr21 : List RqRow := [("read", ["uint", "uint"], false), ("destroy", [], true)]
theorem tabRq21 (T : Txt0 P K mg A) (D : Dic w K A) (t : TR) (e : (t.1, t.2.1) = (("fetch" : Str), rr21)) : TabRq A w K t :=
  TabRq.of e D.kk_REQUESTS.sys ⟨_, D.d_REQUESTS_k21, fun H => .tup (T.w_REQUESTS_k21 H) (.cons (.tup (T.w_REQUESTS_k21_0 H) (.cons (.str _) (.cons (.tup (T.w_REQUESTS_k21_0_1 H) (.cons (.str _) (.cons (.str _) .nil))) (.cons (.bl _) .nil)))) (.cons (.tup (T.w_REQUESTS_k21_1 H) (.cons (.str _) (.cons (.tup (T.w_REQUESTS_k21_1_1 H) .nil) (.cons (.bl _) .nil)))) .nil))⟩ (by decide +kernel) (by decide +kernel) (by decide +kernel) (by decide +kernel) (by decide +kernel) (by decide +kernel) (by decide +kernel)
def rr22 : List RqRow := [("destroy", [], true)]
theorem tabRq22 (T : Txt0 P K mg A) (D : Dic w K A) (t : TR) (e : (t.1, t.2.1) = (("watch" : Str), rr22)) : TabRq A w K t :=
  TabRq.of e D.kk_REQUESTS.sys ⟨_, D.d_REQUESTS_k22, fun H => .tup (T.w_REQUESTS_k22 H) (.cons (.tup (T.w_REQUESTS_k22_0 H) (.cons (.str _) (.cons (.tup (T.w_REQUESTS_k22_0_1 H) .nil) (.cons (.bl _) .nil)))) .nil)⟩ (by decide +kernel) (by decide +kernel) (by decide +kernel) (by decide +kernel) (by decide +kernel) (by decide +kernel) (by decide +kernel)
def trs : List (Str × List RqRow) := [("display", rr0), ("callback", rr1), ("registry", rr2), ("memory", rr3), ("buffer", rr4), ("compositor", rr5), ("region", rr6), ("surface", rr7), ("joiner", rr8), ("sub", rr9), ("output", rr10), ("windows", rr11), ("window", rr12), ("popup", rr13), ("seat", rr14), ("pointer", rr15), ("keyboard", rr16), ("transfer", rr17), ("source", rr18), ("offer", rr19), ("capture", rr20), ("fetch", rr21), ("watch", rr22)]
set_option synthInstance.maxSize 2000 in
theorem tab_eq : tab.map (fun t => (t.1, t.2.1)) = trs := by decide +kernel
theorem tabAll (T : Txt0 P K mg A) (D : Dic w K A) : TabAll12 A w K := by
  have en : tab.map (fun t => t.1) = (["display", "callback", "registry", "memory", "buffer", "compositor", "region", "surface", "joiner", "sub", "output", "windows", "window", "popup", "seat", "pointer", "keyboard", "transfer", "source", "offer", "capture", "fetch", "watch"] : List Str) := by
    have := congrArg (List.map Prod.fst) tab_eq
    rw [List.map_map] at this
    exact this
  refine ⟨fun t ht => ?_, by rw [en]; decide +kernel, by rw [en]; decide +kernel⟩
  have h : ∀ s ∈ trs, ∀ t : TR, (t.1, t.2.1) = s → TabRq A w K t := (List.forall_mem_cons.mpr ⟨tabRq0 T D, (List.forall_mem_cons.mpr ⟨tabRq1 T D, (List.forall_mem_cons.mpr ⟨tabRq2 T D, (List.forall_mem_cons.mpr ⟨tabRq3 T D, (List.forall_mem_cons.mpr ⟨tabRq4 T D, (List.forall_mem_cons.mpr ⟨tabRq5 T D, (List.forall_mem_cons.mpr ⟨tabRq6 T D, (List.forall_mem_cons.mpr ⟨tabRq7 T D, (List.forall_mem_cons.mpr ⟨tabRq8 T D, (List.forall_mem_cons.mpr ⟨tabRq9 T D, (List.forall_mem_cons.mpr ⟨tabRq10 T D, (List.forall_mem_cons.mpr ⟨tabRq11 T D, (List.forall_mem_cons.mpr ⟨tabRq12 T D, (List.forall_mem_cons.mpr ⟨tabRq13 T D, (List.forall_mem_cons.mpr ⟨tabRq14 T D, (List.forall_mem_cons.mpr ⟨tabRq15 T D, (List.forall_mem_cons.mpr ⟨tabRq16 T D, (List.forall_mem_cons.mpr ⟨tabRq17 T D, (List.forall_mem_cons.mpr ⟨tabRq18 T D, (List.forall_mem_cons.mpr ⟨tabRq19 T D, (List.forall_mem_cons.mpr ⟨tabRq20 T D, (List.forall_mem_cons.mpr ⟨tabRq21 T D, (List.forall_mem_cons.mpr ⟨tabRq22 T D, (fun _ z => nomatch z)⟩)⟩)⟩)⟩)⟩)⟩)⟩)⟩)⟩)⟩)⟩)⟩)⟩)⟩)⟩)⟩)⟩)⟩)⟩)⟩)⟩)⟩)⟩)
  exact h _ (by rw [← tab_eq]; exact List.mem_map_of_mem ht) t rfl
theorem ok_law (T : Txt0 P K mg A) (D : Dic w K A) : FnOk P w K mg base CX0 11 A.flaw A.dlaw ["script"] (sp_law K) := ok_lawE T (tabAll T D)
end
theorem all_mk {P : Program} (hP : Prg P) {w : World} {K : PySem.W.Frag} {h : Heap} {mg : Str → Option Value} {fa : Addr} (X : K.In h) (G : h.Ns mainGlobals mg) (hfa : mg "law" = some (.ref fa))
    {fis_integer : Addr} {od1 an1 : Option Addr} {sl1 : Array (Option Value)} {oc1 kV1 dc1 pm1 cd1 ct1 : Value}
    {fis_text : Addr} {od2 an2 : Option Addr} {sl2 : Array (Option Value)} {oc2 kV2 dc2 pm2 cd2 ct2 : Value}
    {fnumber_octets : Addr} {od3 an3 : Option Addr} {sl3 : Array (Option Value)} {oc3 kV3 dc3 pm3 cd3 ct3 : Value}
    {fnumber_at : Addr} {od4 an4 : Option Addr} {sl4 : Array (Option Value)} {oc4 kV4 dc4 pm4 cd4 ct4 : Value}
    {ffield_octets : Addr} {od5 an5 : Option Addr} {sl5 : Array (Option Value)} {oc5 kV5 dc5 pm5 cd5 ct5 : Value}
    {fread_arguments : Addr} {od6 an6 : Option Addr} {sl6 : Array (Option Value)} {oc6 kV6 dc6 pm6 cd6 ct6 : Value}
    {f_is_code : Addr} {od7 an7 : Option Addr} {sl7 : Array (Option Value)} {oc7 kV7 dc7 pm7 cd7 ct7 : Value}
    {f_is_of : Addr} {od8 an8 : Option Addr} {sl8 : Array (Option Value)} {oc8 kV8 dc8 pm8 cd8 ct8 : Value}
    {f_are_octets : Addr} {od9 an9 : Option Addr} {sl9 : Array (Option Value)} {oc9 kV9 dc9 pm9 cd9 ct9 : Value}
    {f_is_bound : Addr} {od10 an10 : Option Addr} {sl10 : Array (Option Value)} {oc10 kV10 dc10 pm10 cd10 ct10 : Value}
    {f_text_octets : Addr} {od11 an11 : Option Addr} {sl11 : Array (Option Value)} {oc11 kV11 dc11 pm11 cd11 ct11 : Value}
    {f_padded : Addr} {od12 an12 : Option Addr} {sl12 : Array (Option Value)} {oc12 kV12 dc12 pm12 cd12 ct12 : Value}
    {f_read : Addr} {od13 an13 : Option Addr} {sl13 : Array (Option Value)} {oc13 kV13 dc13 pm13 cd13 ct13 : Value}
    {f_read_number : Addr} {od14 an14 : Option Addr} {sl14 : Array (Option Value)} {oc14 kV14 dc14 pm14 cd14 ct14 : Value}
    {f_read_named : Addr} {od15 an15 : Option Addr} {sl15 : Array (Option Value)} {oc15 kV15 dc15 pm15 cd15 ct15 : Value}
    {f_read_text : Addr} {od16 an16 : Option Addr} {sl16 : Array (Option Value)} {oc16 kV16 dc16 pm16 cd16 ct16 : Value}
    {f_read_octets : Addr} {od17 an17 : Option Addr} {sl17 : Array (Option Value)} {oc17 kV17 dc17 pm17 cd17 ct17 : Value}
    {f_demand : Addr} {od18 an18 : Option Addr} {sl18 : Array (Option Value)} {oc18 kV18 dc18 pm18 cd18 ct18 : Value}
    {f_behind_padding : Addr} {od19 an19 : Option Addr} {sl19 : Array (Option Value)} {oc19 kV19 dc19 pm19 cd19 ct19 : Value}
    {fencode_message : Addr} {od20 an20 : Option Addr} {sl20 : Array (Option Value)} {oc20 kV20 dc20 pm20 cd20 ct20 : Value}
    {frequest_row : Addr} {od21 an21 : Option Addr} {sl21 : Array (Option Value)} {oc21 kV21 dc21 pm21 cd21 ct21 : Value}
    {frequest_opcode : Addr} {od22 an22 : Option Addr} {sl22 : Array (Option Value)} {oc22 kV22 dc22 pm22 cd22 ct22 : Value}
    {f_row_at : Addr} {od23 an23 : Option Addr} {sl23 : Array (Option Value)} {oc23 kV23 dc23 pm23 cd23 ct23 : Value}
    {f_opcode_of : Addr} {od24 an24 : Option Addr} {sl24 : Array (Option Value)} {oc24 kV24 dc24 pm24 cd24 ct24 : Value}
    {flook_at : Addr} {od25 an25 : Option Addr} {sl25 : Array (Option Value)} {oc25 kV25 dc25 pm25 cd25 ct25 : Value}
    {fnew_object : Addr} {od26 an26 : Option Addr} {sl26 : Array (Option Value)} {oc26 kV26 dc26 pm26 cd26 ct26 : Value}
    {f_kind_and_interface : Addr} {od27 an27 : Option Addr} {sl27 : Array (Option Value)} {oc27 kV27 dc27 pm27 cd27 ct27 : Value}
    {f_arguments : Addr} {od28 an28 : Option Addr} {sl28 : Array (Option Value)} {oc28 kV28 dc28 pm28 cd28 ct28 : Value}
    {f_check_named : Addr} {od29 an29 : Option Addr} {sl29 : Array (Option Value)} {oc29 kV29 dc29 pm29 cd29 ct29 : Value}
    {f_check_new : Addr} {od30 an30 : Option Addr} {sl30 : Array (Option Value)} {oc30 kV30 dc30 pm30 cd30 ct30 : Value}
    {f_law_cell : Addr} {od31 an31 : Option Addr} {sl31 : Array (Option Value)} {oc31 kV31 dc31 pm31 cd31 ct31 : Value}
    {f_law_row : Addr} {od32 an32 : Option Addr} {sl32 : Array (Option Value)} {oc32 kV32 dc32 pm32 cd32 ct32 : Value}
    {f_law_rows : Addr} {od33 an33 : Option Addr} {sl33 : Array (Option Value)} {oc33 kV33 dc33 pm33 cd33 ct33 : Value}
    {f_law_list : Addr} {od34 an34 : Option Addr} {sl34 : Array (Option Value)} {oc34 kV34 dc34 pm34 cd34 ct34 : Value}
    {f_law_split : Addr} {od35 an35 : Option Addr} {sl35 : Array (Option Value)} {oc35 kV35 dc35 pm35 cd35 ct35 : Value}
    {f_law_table : Addr} {od36 an36 : Option Addr} {sl36 : Array (Option Value)} {oc36 kV36 dc36 pm36 cd36 ct36 : Value}
    {f_law_world : Addr} {od37 an37 : Option Addr} {sl37 : Array (Option Value)} {oc37 kV37 dc37 pm37 cd37 ct37 : Value}
    {f_law_pick : Addr} {od38 an38 : Option Addr} {sl38 : Array (Option Value)} {oc38 kV38 dc38 pm38 cd38 ct38 : Value}
    {f_law_free : Addr} {od39 an39 : Option Addr} {sl39 : Array (Option Value)} {oc39 kV39 dc39 pm39 cd39 ct39 : Value}
    {f_law_argument : Addr} {od40 an40 : Option Addr} {sl40 : Array (Option Value)} {oc40 kV40 dc40 pm40 cd40 ct40 : Value}
    {f_law_bad : Addr} {od41 an41 : Option Addr} {sl41 : Array (Option Value)} {oc41 kV41 dc41 pm41 cd41 ct41 : Value}
    {f_law_due : Addr} {od42 an42 : Option Addr} {sl42 : Array (Option Value)} {oc42 kV42 dc42 pm42 cd42 ct42 : Value}
    {f_law_told : Addr} {od43 an43 : Option Addr} {sl43 : Array (Option Value)} {oc43 kV43 dc43 pm43 cd43 ct43 : Value}
    {f_law_asked : Addr} {od44 an44 : Option Addr} {sl44 : Array (Option Value)} {oc44 kV44 dc44 pm44 cd44 ct44 : Value}
    {flaw : Addr} {od45 an45 : Option Addr} {sl45 : Array (Option Value)} {oc45 kV45 dc45 pm45 cd45 ct45 : Value}
    {fFault___init__ : Addr} {od46 an46 : Option Addr} {sl46 : Array (Option Value)} {oc46 kV46 dc46 pm46 ct46 : Value}
    {cc46 cda46 : Addr} {cl46 ccl46 : Value} {cld46 cdd46 : Option Addr} {csl46 ccs46 : Array (Option Value)} {fvs46 : Array Value} {tf46 : Tok} {cdD46 : ClassData}
    {fObjects___init__ : Addr} {od47 an47 : Option Addr} {sl47 : Array (Option Value)} {oc47 kV47 dc47 pm47 cd47 ct47 : Value}
    {fObjects_interface_of : Addr} {od48 an48 : Option Addr} {sl48 : Array (Option Value)} {oc48 kV48 dc48 pm48 cd48 ct48 : Value}
    {fObjects_numbers : Addr} {od49 an49 : Option Addr} {sl49 : Array (Option Value)} {oc49 kV49 dc49 pm49 cd49 ct49 : Value}
    {fObjects_may_give : Addr} {od50 an50 : Option Addr} {sl50 : Array (Option Value)} {oc50 kV50 dc50 pm50 cd50 ct50 : Value}
    {fObjects_is_full : Addr} {od51 an51 : Option Addr} {sl51 : Array (Option Value)} {oc51 kV51 dc51 pm51 cd51 ct51 : Value}
    {fObjects_give : Addr} {od52 an52 : Option Addr} {sl52 : Array (Option Value)} {oc52 kV52 dc52 pm52 cd52 ct52 : Value}
    {fObjects_make : Addr} {od53 an53 : Option Addr} {sl53 : Array (Option Value)} {oc53 kV53 dc53 pm53 cd53 ct53 : Value}
    {fRequest___init__ : Addr} {od54 an54 : Option Addr} {sl54 : Array (Option Value)} {oc54 kV54 dc54 pm54 cd54 ct54 : Value}
    {tDISPLAY : Tok}
    {tLEAST_GIVEN : Tok}
    {tGREATEST_GIVEN : Tok}
    {tMOST_OBJECTS : Tok}
    {tGREATEST_NUMBER : Tok}
    {tLEAST_INT : Tok}
    {tGREATEST_INT : Tok}
    {tLONGEST_TEXT : Tok}
    {tMOST_OCTETS : Tok}
    {t_FIRST_CODE : Tok}
    {t_LAST_CODE : Tok}
    {t_PERCENT_CODE : Tok}
    {t_CHARACTERS : Tok}
    {tHEADER_SIZE : Tok}
    {tGREATEST_SIZE : Tok}
    {tGREATEST_OPCODE : Tok}
    {tMOST_ARGUMENTS : Tok}
    {a_REQUESTS : Addr}
    {es_REQUESTS : Array DictEntry} {nn_REQUESTS : Nat}
    {tk_REQUESTS0 tk_REQUESTS1 tk_REQUESTS2 tk_REQUESTS3 tk_REQUESTS4 tk_REQUESTS5 tk_REQUESTS6 tk_REQUESTS7 tk_REQUESTS8 tk_REQUESTS9 tk_REQUESTS10 tk_REQUESTS11 tk_REQUESTS12 tk_REQUESTS13 tk_REQUESTS14 tk_REQUESTS15 tk_REQUESTS16 tk_REQUESTS17 tk_REQUESTS18 tk_REQUESTS19 tk_REQUESTS20 tk_REQUESTS21 tk_REQUESTS22 : Tok}
    {a_REQUESTS_k0 : Addr}
    {ow_REQUESTS_k0 : Option Addr} {nw_REQUESTS_k0 : Nat} {sw_REQUESTS_k0 : Array (Option Value)}
    {a_REQUESTS_k0_0 : Addr}
    {tk_REQUESTS_k0_0_0 : Tok}
    {ow_REQUESTS_k0_0 : Option Addr} {nw_REQUESTS_k0_0 : Nat} {sw_REQUESTS_k0_0 : Array (Option Value)}
    {a_REQUESTS_k0_0_1 : Addr}
    {tk_REQUESTS_k0_0_1_0 : Tok}
    {ow_REQUESTS_k0_0_1 : Option Addr} {nw_REQUESTS_k0_0_1 : Nat} {sw_REQUESTS_k0_0_1 : Array (Option Value)}
    {a_REQUESTS_k0_1 : Addr}
    {tk_REQUESTS_k0_1_0 : Tok}
    {ow_REQUESTS_k0_1 : Option Addr} {nw_REQUESTS_k0_1 : Nat} {sw_REQUESTS_k0_1 : Array (Option Value)}
    {a_REQUESTS_k0_1_1 : Addr}
    {tk_REQUESTS_k0_1_1_0 : Tok}
    {ow_REQUESTS_k0_1_1 : Option Addr} {nw_REQUESTS_k0_1_1 : Nat} {sw_REQUESTS_k0_1_1 : Array (Option Value)}
    {a_REQUESTS_k1 : Addr}
    {ow_REQUESTS_k1 : Option Addr} {nw_REQUESTS_k1 : Nat} {sw_REQUESTS_k1 : Array (Option Value)}
    {a_REQUESTS_k2 : Addr}
    {ow_REQUESTS_k2 : Option Addr} {nw_REQUESTS_k2 : Nat} {sw_REQUESTS_k2 : Array (Option Value)}
    {a_REQUESTS_k2_0 : Addr}
    {tk_REQUESTS_k2_0_0 : Tok}
    {ow_REQUESTS_k2_0 : Option Addr} {nw_REQUESTS_k2_0 : Nat} {sw_REQUESTS_k2_0 : Array (Option Value)}
    {a_REQUESTS_k2_0_1 : Addr}
    {tk_REQUESTS_k2_0_1_0 tk_REQUESTS_k2_0_1_1 : Tok}
    {ow_REQUESTS_k2_0_1 : Option Addr} {nw_REQUESTS_k2_0_1 : Nat} {sw_REQUESTS_k2_0_1 : Array (Option Value)}
    {a_REQUESTS_k3 : Addr}
    {ow_REQUESTS_k3 : Option Addr} {nw_REQUESTS_k3 : Nat} {sw_REQUESTS_k3 : Array (Option Value)}
    {a_REQUESTS_k3_0 : Addr}
    {tk_REQUESTS_k3_0_0 : Tok}
    {ow_REQUESTS_k3_0 : Option Addr} {nw_REQUESTS_k3_0 : Nat} {sw_REQUESTS_k3_0 : Array (Option Value)}
    {a_REQUESTS_k3_0_1 : Addr}
    {tk_REQUESTS_k3_0_1_0 tk_REQUESTS_k3_0_1_1 tk_REQUESTS_k3_0_1_2 : Tok}
    {ow_REQUESTS_k3_0_1 : Option Addr} {nw_REQUESTS_k3_0_1 : Nat} {sw_REQUESTS_k3_0_1 : Array (Option Value)}
    {a_REQUESTS_k3_1 : Addr}
    {tk_REQUESTS_k3_1_0 : Tok}
    {ow_REQUESTS_k3_1 : Option Addr} {nw_REQUESTS_k3_1 : Nat} {sw_REQUESTS_k3_1 : Array (Option Value)}
    {a_REQUESTS_k3_1_1 : Addr}
    {ow_REQUESTS_k3_1_1 : Option Addr} {nw_REQUESTS_k3_1_1 : Nat} {sw_REQUESTS_k3_1_1 : Array (Option Value)}
    {a_REQUESTS_k4 : Addr}
    {ow_REQUESTS_k4 : Option Addr} {nw_REQUESTS_k4 : Nat} {sw_REQUESTS_k4 : Array (Option Value)}
    {a_REQUESTS_k4_0 : Addr}
    {tk_REQUESTS_k4_0_0 : Tok}
    {ow_REQUESTS_k4_0 : Option Addr} {nw_REQUESTS_k4_0 : Nat} {sw_REQUESTS_k4_0 : Array (Option Value)}
    {a_REQUESTS_k4_0_1 : Addr}
    {tk_REQUESTS_k4_0_1_0 tk_REQUESTS_k4_0_1_1 : Tok}
    {ow_REQUESTS_k4_0_1 : Option Addr} {nw_REQUESTS_k4_0_1 : Nat} {sw_REQUESTS_k4_0_1 : Array (Option Value)}
    {a_REQUESTS_k4_1 : Addr}
    {tk_REQUESTS_k4_1_0 : Tok}
    {ow_REQUESTS_k4_1 : Option Addr} {nw_REQUESTS_k4_1 : Nat} {sw_REQUESTS_k4_1 : Array (Option Value)}
    {a_REQUESTS_k4_1_1 : Addr}
    {tk_REQUESTS_k4_1_1_0 tk_REQUESTS_k4_1_1_1 tk_REQUESTS_k4_1_1_2 tk_REQUESTS_k4_1_1_3 tk_REQUESTS_k4_1_1_4 : Tok}
    {ow_REQUESTS_k4_1_1 : Option Addr} {nw_REQUESTS_k4_1_1 : Nat} {sw_REQUESTS_k4_1_1 : Array (Option Value)}
    {a_REQUESTS_k4_2 : Addr}
    {tk_REQUESTS_k4_2_0 : Tok}
    {ow_REQUESTS_k4_2 : Option Addr} {nw_REQUESTS_k4_2 : Nat} {sw_REQUESTS_k4_2 : Array (Option Value)}
    {a_REQUESTS_k4_2_1 : Addr}
    {ow_REQUESTS_k4_2_1 : Option Addr} {nw_REQUESTS_k4_2_1 : Nat} {sw_REQUESTS_k4_2_1 : Array (Option Value)}
    {a_REQUESTS_k5 : Addr}
    {ow_REQUESTS_k5 : Option Addr} {nw_REQUESTS_k5 : Nat} {sw_REQUESTS_k5 : Array (Option Value)}
    {a_REQUESTS_k5_0 : Addr}
    {tk_REQUESTS_k5_0_0 : Tok}
    {ow_REQUESTS_k5_0 : Option Addr} {nw_REQUESTS_k5_0 : Nat} {sw_REQUESTS_k5_0 : Array (Option Value)}
    {a_REQUESTS_k5_0_1 : Addr}
    {tk_REQUESTS_k5_0_1_0 : Tok}
    {ow_REQUESTS_k5_0_1 : Option Addr} {nw_REQUESTS_k5_0_1 : Nat} {sw_REQUESTS_k5_0_1 : Array (Option Value)}
    {a_REQUESTS_k5_1 : Addr}
    {tk_REQUESTS_k5_1_0 : Tok}
    {ow_REQUESTS_k5_1 : Option Addr} {nw_REQUESTS_k5_1 : Nat} {sw_REQUESTS_k5_1 : Array (Option Value)}
    {a_REQUESTS_k5_1_1 : Addr}
    {tk_REQUESTS_k5_1_1_0 : Tok}
    {ow_REQUESTS_k5_1_1 : Option Addr} {nw_REQUESTS_k5_1_1 : Nat} {sw_REQUESTS_k5_1_1 : Array (Option Value)}
    {a_REQUESTS_k5_2 : Addr}
    {tk_REQUESTS_k5_2_0 : Tok}
    {ow_REQUESTS_k5_2 : Option Addr} {nw_REQUESTS_k5_2 : Nat} {sw_REQUESTS_k5_2 : Array (Option Value)}
    {a_REQUESTS_k5_2_1 : Addr}
    {ow_REQUESTS_k5_2_1 : Option Addr} {nw_REQUESTS_k5_2_1 : Nat} {sw_REQUESTS_k5_2_1 : Array (Option Value)}
    {a_REQUESTS_k6 : Addr}
    {ow_REQUESTS_k6 : Option Addr} {nw_REQUESTS_k6 : Nat} {sw_REQUESTS_k6 : Array (Option Value)}
    {a_REQUESTS_k6_0 : Addr}
    {tk_REQUESTS_k6_0_0 : Tok}
    {ow_REQUESTS_k6_0 : Option Addr} {nw_REQUESTS_k6_0 : Nat} {sw_REQUESTS_k6_0 : Array (Option Value)}
    {a_REQUESTS_k6_0_1 : Addr}
    {tk_REQUESTS_k6_0_1_0 tk_REQUESTS_k6_0_1_1 tk_REQUESTS_k6_0_1_2 tk_REQUESTS_k6_0_1_3 : Tok}
    {ow_REQUESTS_k6_0_1 : Option Addr} {nw_REQUESTS_k6_0_1 : Nat} {sw_REQUESTS_k6_0_1 : Array (Option Value)}
    {a_REQUESTS_k6_1 : Addr}
    {tk_REQUESTS_k6_1_0 : Tok}
    {ow_REQUESTS_k6_1 : Option Addr} {nw_REQUESTS_k6_1 : Nat} {sw_REQUESTS_k6_1 : Array (Option Value)}
    {a_REQUESTS_k6_1_1 : Addr}
    {tk_REQUESTS_k6_1_1_0 tk_REQUESTS_k6_1_1_1 tk_REQUESTS_k6_1_1_2 tk_REQUESTS_k6_1_1_3 : Tok}
    {ow_REQUESTS_k6_1_1 : Option Addr} {nw_REQUESTS_k6_1_1 : Nat} {sw_REQUESTS_k6_1_1 : Array (Option Value)}
    {a_REQUESTS_k6_2 : Addr}
    {tk_REQUESTS_k6_2_0 : Tok}
    {ow_REQUESTS_k6_2 : Option Addr} {nw_REQUESTS_k6_2 : Nat} {sw_REQUESTS_k6_2 : Array (Option Value)}
    {a_REQUESTS_k6_2_1 : Addr}
    {ow_REQUESTS_k6_2_1 : Option Addr} {nw_REQUESTS_k6_2_1 : Nat} {sw_REQUESTS_k6_2_1 : Array (Option Value)}
    {a_REQUESTS_k7 : Addr}
    {ow_REQUESTS_k7 : Option Addr} {nw_REQUESTS_k7 : Nat} {sw_REQUESTS_k7 : Array (Option Value)}
    {a_REQUESTS_k7_0 : Addr}
    {tk_REQUESTS_k7_0_0 : Tok}
    {ow_REQUESTS_k7_0 : Option Addr} {nw_REQUESTS_k7_0 : Nat} {sw_REQUESTS_k7_0 : Array (Option Value)}
    {a_REQUESTS_k7_0_1 : Addr}
    {tk_REQUESTS_k7_0_1_0 : Tok}
    {ow_REQUESTS_k7_0_1 : Option Addr} {nw_REQUESTS_k7_0_1 : Nat} {sw_REQUESTS_k7_0_1 : Array (Option Value)}
    {a_REQUESTS_k7_1 : Addr}
    {tk_REQUESTS_k7_1_0 : Tok}
    {ow_REQUESTS_k7_1 : Option Addr} {nw_REQUESTS_k7_1 : Nat} {sw_REQUESTS_k7_1 : Array (Option Value)}
    {a_REQUESTS_k7_1_1 : Addr}
    {tk_REQUESTS_k7_1_1_0 : Tok}
    {ow_REQUESTS_k7_1_1 : Option Addr} {nw_REQUESTS_k7_1_1 : Nat} {sw_REQUESTS_k7_1_1 : Array (Option Value)}
    {a_REQUESTS_k7_2 : Addr}
    {tk_REQUESTS_k7_2_0 : Tok}
    {ow_REQUESTS_k7_2 : Option Addr} {nw_REQUESTS_k7_2 : Nat} {sw_REQUESTS_k7_2 : Array (Option Value)}
    {a_REQUESTS_k7_2_1 : Addr}
    {tk_REQUESTS_k7_2_1_0 : Tok}
    {ow_REQUESTS_k7_2_1 : Option Addr} {nw_REQUESTS_k7_2_1 : Nat} {sw_REQUESTS_k7_2_1 : Array (Option Value)}
    {a_REQUESTS_k7_3 : Addr}
    {tk_REQUESTS_k7_3_0 : Tok}
    {ow_REQUESTS_k7_3 : Option Addr} {nw_REQUESTS_k7_3 : Nat} {sw_REQUESTS_k7_3 : Array (Option Value)}
    {a_REQUESTS_k7_3_1 : Addr}
    {ow_REQUESTS_k7_3_1 : Option Addr} {nw_REQUESTS_k7_3_1 : Nat} {sw_REQUESTS_k7_3_1 : Array (Option Value)}
    {a_REQUESTS_k7_4 : Addr}
    {tk_REQUESTS_k7_4_0 : Tok}
    {ow_REQUESTS_k7_4 : Option Addr} {nw_REQUESTS_k7_4 : Nat} {sw_REQUESTS_k7_4 : Array (Option Value)}
    {a_REQUESTS_k7_4_1 : Addr}
    {tk_REQUESTS_k7_4_1_0 : Tok}
    {ow_REQUESTS_k7_4_1 : Option Addr} {nw_REQUESTS_k7_4_1 : Nat} {sw_REQUESTS_k7_4_1 : Array (Option Value)}
    {a_REQUESTS_k7_5 : Addr}
    {tk_REQUESTS_k7_5_0 : Tok}
    {ow_REQUESTS_k7_5 : Option Addr} {nw_REQUESTS_k7_5 : Nat} {sw_REQUESTS_k7_5 : Array (Option Value)}
    {a_REQUESTS_k7_5_1 : Addr}
    {tk_REQUESTS_k7_5_1_0 : Tok}
    {ow_REQUESTS_k7_5_1 : Option Addr} {nw_REQUESTS_k7_5_1 : Nat} {sw_REQUESTS_k7_5_1 : Array (Option Value)}
    {a_REQUESTS_k7_6 : Addr}
    {tk_REQUESTS_k7_6_0 : Tok}
    {ow_REQUESTS_k7_6 : Option Addr} {nw_REQUESTS_k7_6 : Nat} {sw_REQUESTS_k7_6 : Array (Option Value)}
    {a_REQUESTS_k7_6_1 : Addr}
    {ow_REQUESTS_k7_6_1 : Option Addr} {nw_REQUESTS_k7_6_1 : Nat} {sw_REQUESTS_k7_6_1 : Array (Option Value)}
    {a_REQUESTS_k8 : Addr}
    {ow_REQUESTS_k8 : Option Addr} {nw_REQUESTS_k8 : Nat} {sw_REQUESTS_k8 : Array (Option Value)}
    {a_REQUESTS_k8_0 : Addr}
    {tk_REQUESTS_k8_0_0 : Tok}
    {ow_REQUESTS_k8_0 : Option Addr} {nw_REQUESTS_k8_0 : Nat} {sw_REQUESTS_k8_0 : Array (Option Value)}
    {a_REQUESTS_k8_0_1 : Addr}
    {tk_REQUESTS_k8_0_1_0 tk_REQUESTS_k8_0_1_1 tk_REQUESTS_k8_0_1_2 : Tok}
    {ow_REQUESTS_k8_0_1 : Option Addr} {nw_REQUESTS_k8_0_1 : Nat} {sw_REQUESTS_k8_0_1 : Array (Option Value)}
    {a_REQUESTS_k8_1 : Addr}
    {tk_REQUESTS_k8_1_0 : Tok}
    {ow_REQUESTS_k8_1 : Option Addr} {nw_REQUESTS_k8_1 : Nat} {sw_REQUESTS_k8_1 : Array (Option Value)}
    {a_REQUESTS_k8_1_1 : Addr}
    {ow_REQUESTS_k8_1_1 : Option Addr} {nw_REQUESTS_k8_1_1 : Nat} {sw_REQUESTS_k8_1_1 : Array (Option Value)}
    {a_REQUESTS_k9 : Addr}
    {ow_REQUESTS_k9 : Option Addr} {nw_REQUESTS_k9 : Nat} {sw_REQUESTS_k9 : Array (Option Value)}
    {a_REQUESTS_k9_0 : Addr}
    {tk_REQUESTS_k9_0_0 : Tok}
    {ow_REQUESTS_k9_0 : Option Addr} {nw_REQUESTS_k9_0 : Nat} {sw_REQUESTS_k9_0 : Array (Option Value)}
    {a_REQUESTS_k9_0_1 : Addr}
    {tk_REQUESTS_k9_0_1_0 tk_REQUESTS_k9_0_1_1 : Tok}
    {ow_REQUESTS_k9_0_1 : Option Addr} {nw_REQUESTS_k9_0_1 : Nat} {sw_REQUESTS_k9_0_1 : Array (Option Value)}
    {a_REQUESTS_k9_1 : Addr}
    {tk_REQUESTS_k9_1_0 : Tok}
    {ow_REQUESTS_k9_1 : Option Addr} {nw_REQUESTS_k9_1 : Nat} {sw_REQUESTS_k9_1 : Array (Option Value)}
    {a_REQUESTS_k9_1_1 : Addr}
    {tk_REQUESTS_k9_1_1_0 : Tok}
    {ow_REQUESTS_k9_1_1 : Option Addr} {nw_REQUESTS_k9_1_1 : Nat} {sw_REQUESTS_k9_1_1 : Array (Option Value)}
    {a_REQUESTS_k9_2 : Addr}
    {tk_REQUESTS_k9_2_0 : Tok}
    {ow_REQUESTS_k9_2 : Option Addr} {nw_REQUESTS_k9_2 : Nat} {sw_REQUESTS_k9_2 : Array (Option Value)}
    {a_REQUESTS_k9_2_1 : Addr}
    {tk_REQUESTS_k9_2_1_0 : Tok}
    {ow_REQUESTS_k9_2_1 : Option Addr} {nw_REQUESTS_k9_2_1 : Nat} {sw_REQUESTS_k9_2_1 : Array (Option Value)}
    {a_REQUESTS_k9_3 : Addr}
    {tk_REQUESTS_k9_3_0 : Tok}
    {ow_REQUESTS_k9_3 : Option Addr} {nw_REQUESTS_k9_3 : Nat} {sw_REQUESTS_k9_3 : Array (Option Value)}
    {a_REQUESTS_k9_3_1 : Addr}
    {ow_REQUESTS_k9_3_1 : Option Addr} {nw_REQUESTS_k9_3_1 : Nat} {sw_REQUESTS_k9_3_1 : Array (Option Value)}
    {a_REQUESTS_k9_4 : Addr}
    {tk_REQUESTS_k9_4_0 : Tok}
    {ow_REQUESTS_k9_4 : Option Addr} {nw_REQUESTS_k9_4 : Nat} {sw_REQUESTS_k9_4 : Array (Option Value)}
    {a_REQUESTS_k9_4_1 : Addr}
    {ow_REQUESTS_k9_4_1 : Option Addr} {nw_REQUESTS_k9_4_1 : Nat} {sw_REQUESTS_k9_4_1 : Array (Option Value)}
    {a_REQUESTS_k9_5 : Addr}
    {tk_REQUESTS_k9_5_0 : Tok}
    {ow_REQUESTS_k9_5 : Option Addr} {nw_REQUESTS_k9_5 : Nat} {sw_REQUESTS_k9_5 : Array (Option Value)}
    {a_REQUESTS_k9_5_1 : Addr}
    {ow_REQUESTS_k9_5_1 : Option Addr} {nw_REQUESTS_k9_5_1 : Nat} {sw_REQUESTS_k9_5_1 : Array (Option Value)}
    {a_REQUESTS_k10 : Addr}
    {ow_REQUESTS_k10 : Option Addr} {nw_REQUESTS_k10 : Nat} {sw_REQUESTS_k10 : Array (Option Value)}
    {a_REQUESTS_k10_0 : Addr}
    {tk_REQUESTS_k10_0_0 : Tok}
    {ow_REQUESTS_k10_0 : Option Addr} {nw_REQUESTS_k10_0 : Nat} {sw_REQUESTS_k10_0 : Array (Option Value)}
    {a_REQUESTS_k10_0_1 : Addr}
    {ow_REQUESTS_k10_0_1 : Option Addr} {nw_REQUESTS_k10_0_1 : Nat} {sw_REQUESTS_k10_0_1 : Array (Option Value)}
    {a_REQUESTS_k11 : Addr}
    {ow_REQUESTS_k11 : Option Addr} {nw_REQUESTS_k11 : Nat} {sw_REQUESTS_k11 : Array (Option Value)}
    {a_REQUESTS_k11_0 : Addr}
    {tk_REQUESTS_k11_0_0 : Tok}
    {ow_REQUESTS_k11_0 : Option Addr} {nw_REQUESTS_k11_0 : Nat} {sw_REQUESTS_k11_0 : Array (Option Value)}
    {a_REQUESTS_k11_0_1 : Addr}
    {tk_REQUESTS_k11_0_1_0 tk_REQUESTS_k11_0_1_1 : Tok}
    {ow_REQUESTS_k11_0_1 : Option Addr} {nw_REQUESTS_k11_0_1 : Nat} {sw_REQUESTS_k11_0_1 : Array (Option Value)}
    {a_REQUESTS_k11_1 : Addr}
    {tk_REQUESTS_k11_1_0 : Tok}
    {ow_REQUESTS_k11_1 : Option Addr} {nw_REQUESTS_k11_1 : Nat} {sw_REQUESTS_k11_1 : Array (Option Value)}
    {a_REQUESTS_k11_1_1 : Addr}
    {tk_REQUESTS_k11_1_1_0 tk_REQUESTS_k11_1_1_1 tk_REQUESTS_k11_1_1_2 tk_REQUESTS_k11_1_1_3 tk_REQUESTS_k11_1_1_4 tk_REQUESTS_k11_1_1_5 tk_REQUESTS_k11_1_1_6 tk_REQUESTS_k11_1_1_7 tk_REQUESTS_k11_1_1_8 tk_REQUESTS_k11_1_1_9 tk_REQUESTS_k11_1_1_10 tk_REQUESTS_k11_1_1_11 tk_REQUESTS_k11_1_1_12 tk_REQUESTS_k11_1_1_13 tk_REQUESTS_k11_1_1_14 tk_REQUESTS_k11_1_1_15 tk_REQUESTS_k11_1_1_16 : Tok}
    {ow_REQUESTS_k11_1_1 : Option Addr} {nw_REQUESTS_k11_1_1 : Nat} {sw_REQUESTS_k11_1_1 : Array (Option Value)}
    {a_REQUESTS_k12 : Addr}
    {ow_REQUESTS_k12 : Option Addr} {nw_REQUESTS_k12 : Nat} {sw_REQUESTS_k12 : Array (Option Value)}
    {a_REQUESTS_k12_0 : Addr}
    {tk_REQUESTS_k12_0_0 : Tok}
    {ow_REQUESTS_k12_0 : Option Addr} {nw_REQUESTS_k12_0 : Nat} {sw_REQUESTS_k12_0 : Array (Option Value)}
    {a_REQUESTS_k12_0_1 : Addr}
    {ow_REQUESTS_k12_0_1 : Option Addr} {nw_REQUESTS_k12_0_1 : Nat} {sw_REQUESTS_k12_0_1 : Array (Option Value)}
    {a_REQUESTS_k12_1 : Addr}
    {tk_REQUESTS_k12_1_0 : Tok}
    {ow_REQUESTS_k12_1 : Option Addr} {nw_REQUESTS_k12_1 : Nat} {sw_REQUESTS_k12_1 : Array (Option Value)}
    {a_REQUESTS_k12_1_1 : Addr}
    {tk_REQUESTS_k12_1_1_0 : Tok}
    {ow_REQUESTS_k12_1_1 : Option Addr} {nw_REQUESTS_k12_1_1 : Nat} {sw_REQUESTS_k12_1_1 : Array (Option Value)}
    {a_REQUESTS_k12_2 : Addr}
    {tk_REQUESTS_k12_2_0 : Tok}
    {ow_REQUESTS_k12_2 : Option Addr} {nw_REQUESTS_k12_2 : Nat} {sw_REQUESTS_k12_2 : Array (Option Value)}
    {a_REQUESTS_k12_2_1 : Addr}
    {tk_REQUESTS_k12_2_1_0 : Tok}
    {ow_REQUESTS_k12_2_1 : Option Addr} {nw_REQUESTS_k12_2_1 : Nat} {sw_REQUESTS_k12_2_1 : Array (Option Value)}
    {a_REQUESTS_k12_3 : Addr}
    {tk_REQUESTS_k12_3_0 : Tok}
    {ow_REQUESTS_k12_3 : Option Addr} {nw_REQUESTS_k12_3 : Nat} {sw_REQUESTS_k12_3 : Array (Option Value)}
    {a_REQUESTS_k12_3_1 : Addr}
    {tk_REQUESTS_k12_3_1_0 tk_REQUESTS_k12_3_1_1 : Tok}
    {ow_REQUESTS_k12_3_1 : Option Addr} {nw_REQUESTS_k12_3_1 : Nat} {sw_REQUESTS_k12_3_1 : Array (Option Value)}
    {a_REQUESTS_k12_4 : Addr}
    {tk_REQUESTS_k12_4_0 : Tok}
    {ow_REQUESTS_k12_4 : Option Addr} {nw_REQUESTS_k12_4 : Nat} {sw_REQUESTS_k12_4 : Array (Option Value)}
    {a_REQUESTS_k12_4_1 : Addr}
    {tk_REQUESTS_k12_4_1_0 tk_REQUESTS_k12_4_1_1 : Tok}
    {ow_REQUESTS_k12_4_1 : Option Addr} {nw_REQUESTS_k12_4_1 : Nat} {sw_REQUESTS_k12_4_1 : Array (Option Value)}
    {a_REQUESTS_k12_5 : Addr}
    {tk_REQUESTS_k12_5_0 : Tok}
    {ow_REQUESTS_k12_5 : Option Addr} {nw_REQUESTS_k12_5 : Nat} {sw_REQUESTS_k12_5 : Array (Option Value)}
    {a_REQUESTS_k12_5_1 : Addr}
    {tk_REQUESTS_k12_5_1_0 : Tok}
    {ow_REQUESTS_k12_5_1 : Option Addr} {nw_REQUESTS_k12_5_1 : Nat} {sw_REQUESTS_k12_5_1 : Array (Option Value)}
    {a_REQUESTS_k12_6 : Addr}
    {tk_REQUESTS_k12_6_0 : Tok}
    {ow_REQUESTS_k12_6 : Option Addr} {nw_REQUESTS_k12_6 : Nat} {sw_REQUESTS_k12_6 : Array (Option Value)}
    {a_REQUESTS_k12_6_1 : Addr}
    {tk_REQUESTS_k12_6_1_0 : Tok}
    {ow_REQUESTS_k12_6_1 : Option Addr} {nw_REQUESTS_k12_6_1 : Nat} {sw_REQUESTS_k12_6_1 : Array (Option Value)}
    {a_REQUESTS_k12_7 : Addr}
    {tk_REQUESTS_k12_7_0 : Tok}
    {ow_REQUESTS_k12_7 : Option Addr} {nw_REQUESTS_k12_7 : Nat} {sw_REQUESTS_k12_7 : Array (Option Value)}
    {a_REQUESTS_k12_7_1 : Addr}
    {tk_REQUESTS_k12_7_1_0 tk_REQUESTS_k12_7_1_1 : Tok}
    {ow_REQUESTS_k12_7_1 : Option Addr} {nw_REQUESTS_k12_7_1 : Nat} {sw_REQUESTS_k12_7_1 : Array (Option Value)}
    {a_REQUESTS_k12_8 : Addr}
    {tk_REQUESTS_k12_8_0 : Tok}
    {ow_REQUESTS_k12_8 : Option Addr} {nw_REQUESTS_k12_8 : Nat} {sw_REQUESTS_k12_8 : Array (Option Value)}
    {a_REQUESTS_k12_8_1 : Addr}
    {tk_REQUESTS_k12_8_1_0 tk_REQUESTS_k12_8_1_1 tk_REQUESTS_k12_8_1_2 : Tok}
    {ow_REQUESTS_k12_8_1 : Option Addr} {nw_REQUESTS_k12_8_1 : Nat} {sw_REQUESTS_k12_8_1 : Array (Option Value)}
    {a_REQUESTS_k12_9 : Addr}
    {tk_REQUESTS_k12_9_0 : Tok}
    {ow_REQUESTS_k12_9 : Option Addr} {nw_REQUESTS_k12_9 : Nat} {sw_REQUESTS_k12_9 : Array (Option Value)}
    {a_REQUESTS_k12_9_1 : Addr}
    {tk_REQUESTS_k12_9_1_0 : Tok}
    {ow_REQUESTS_k12_9_1 : Option Addr} {nw_REQUESTS_k12_9_1 : Nat} {sw_REQUESTS_k12_9_1 : Array (Option Value)}
    {a_REQUESTS_k12_10 : Addr}
    {tk_REQUESTS_k12_10_0 : Tok}
    {ow_REQUESTS_k12_10 : Option Addr} {nw_REQUESTS_k12_10 : Nat} {sw_REQUESTS_k12_10 : Array (Option Value)}
    {a_REQUESTS_k12_10_1 : Addr}
    {tk_REQUESTS_k12_10_1_0 : Tok}
    {ow_REQUESTS_k12_10_1 : Option Addr} {nw_REQUESTS_k12_10_1 : Nat} {sw_REQUESTS_k12_10_1 : Array (Option Value)}
    {a_REQUESTS_k12_11 : Addr}
    {tk_REQUESTS_k12_11_0 : Tok}
    {ow_REQUESTS_k12_11 : Option Addr} {nw_REQUESTS_k12_11 : Nat} {sw_REQUESTS_k12_11 : Array (Option Value)}
    {a_REQUESTS_k12_11_1 : Addr}
    {ow_REQUESTS_k12_11_1 : Option Addr} {nw_REQUESTS_k12_11_1 : Nat} {sw_REQUESTS_k12_11_1 : Array (Option Value)}
    {a_REQUESTS_k13 : Addr}
    {ow_REQUESTS_k13 : Option Addr} {nw_REQUESTS_k13 : Nat} {sw_REQUESTS_k13 : Array (Option Value)}
    {a_REQUESTS_k13_0 : Addr}
    {tk_REQUESTS_k13_0_0 : Tok}
    {ow_REQUESTS_k13_0 : Option Addr} {nw_REQUESTS_k13_0 : Nat} {sw_REQUESTS_k13_0 : Array (Option Value)}
    {a_REQUESTS_k13_0_1 : Addr}
    {ow_REQUESTS_k13_0_1 : Option Addr} {nw_REQUESTS_k13_0_1 : Nat} {sw_REQUESTS_k13_0_1 : Array (Option Value)}
    {a_REQUESTS_k13_1 : Addr}
    {tk_REQUESTS_k13_1_0 : Tok}
    {ow_REQUESTS_k13_1 : Option Addr} {nw_REQUESTS_k13_1 : Nat} {sw_REQUESTS_k13_1 : Array (Option Value)}
    {a_REQUESTS_k13_1_1 : Addr}
    {tk_REQUESTS_k13_1_1_0 tk_REQUESTS_k13_1_1_1 tk_REQUESTS_k13_1_1_2 tk_REQUESTS_k13_1_1_3 tk_REQUESTS_k13_1_1_4 tk_REQUESTS_k13_1_1_5 tk_REQUESTS_k13_1_1_6 tk_REQUESTS_k13_1_1_7 tk_REQUESTS_k13_1_1_8 tk_REQUESTS_k13_1_1_9 tk_REQUESTS_k13_1_1_10 tk_REQUESTS_k13_1_1_11 tk_REQUESTS_k13_1_1_12 : Tok}
    {ow_REQUESTS_k13_1_1 : Option Addr} {nw_REQUESTS_k13_1_1 : Nat} {sw_REQUESTS_k13_1_1 : Array (Option Value)}
    {a_REQUESTS_k14 : Addr}
    {ow_REQUESTS_k14 : Option Addr} {nw_REQUESTS_k14 : Nat} {sw_REQUESTS_k14 : Array (Option Value)}
    {a_REQUESTS_k14_0 : Addr}
    {tk_REQUESTS_k14_0_0 : Tok}
    {ow_REQUESTS_k14_0 : Option Addr} {nw_REQUESTS_k14_0 : Nat} {sw_REQUESTS_k14_0 : Array (Option Value)}
    {a_REQUESTS_k14_0_1 : Addr}
    {tk_REQUESTS_k14_0_1_0 : Tok}
    {ow_REQUESTS_k14_0_1 : Option Addr} {nw_REQUESTS_k14_0_1 : Nat} {sw_REQUESTS_k14_0_1 : Array (Option Value)}
    {a_REQUESTS_k14_1 : Addr}
    {tk_REQUESTS_k14_1_0 : Tok}
    {ow_REQUESTS_k14_1 : Option Addr} {nw_REQUESTS_k14_1 : Nat} {sw_REQUESTS_k14_1 : Array (Option Value)}
    {a_REQUESTS_k14_1_1 : Addr}
    {tk_REQUESTS_k14_1_1_0 : Tok}
    {ow_REQUESTS_k14_1_1 : Option Addr} {nw_REQUESTS_k14_1_1 : Nat} {sw_REQUESTS_k14_1_1 : Array (Option Value)}
    {a_REQUESTS_k15 : Addr}
    {ow_REQUESTS_k15 : Option Addr} {nw_REQUESTS_k15 : Nat} {sw_REQUESTS_k15 : Array (Option Value)}
    {a_REQUESTS_k15_0 : Addr}
    {tk_REQUESTS_k15_0_0 : Tok}
    {ow_REQUESTS_k15_0 : Option Addr} {nw_REQUESTS_k15_0 : Nat} {sw_REQUESTS_k15_0 : Array (Option Value)}
    {a_REQUESTS_k15_0_1 : Addr}
    {ow_REQUESTS_k15_0_1 : Option Addr} {nw_REQUESTS_k15_0_1 : Nat} {sw_REQUESTS_k15_0_1 : Array (Option Value)}
    {a_REQUESTS_k15_1 : Addr}
    {tk_REQUESTS_k15_1_0 : Tok}
    {ow_REQUESTS_k15_1 : Option Addr} {nw_REQUESTS_k15_1 : Nat} {sw_REQUESTS_k15_1 : Array (Option Value)}
    {a_REQUESTS_k15_1_1 : Addr}
    {tk_REQUESTS_k15_1_1_0 : Tok}
    {ow_REQUESTS_k15_1_1 : Option Addr} {nw_REQUESTS_k15_1_1 : Nat} {sw_REQUESTS_k15_1_1 : Array (Option Value)}
    {a_REQUESTS_k16 : Addr}
    {ow_REQUESTS_k16 : Option Addr} {nw_REQUESTS_k16 : Nat} {sw_REQUESTS_k16 : Array (Option Value)}
    {a_REQUESTS_k16_0 : Addr}
    {tk_REQUESTS_k16_0_0 : Tok}
    {ow_REQUESTS_k16_0 : Option Addr} {nw_REQUESTS_k16_0 : Nat} {sw_REQUESTS_k16_0 : Array (Option Value)}
    {a_REQUESTS_k16_0_1 : Addr}
    {ow_REQUESTS_k16_0_1 : Option Addr} {nw_REQUESTS_k16_0_1 : Nat} {sw_REQUESTS_k16_0_1 : Array (Option Value)}
    {a_REQUESTS_k17 : Addr}
    {ow_REQUESTS_k17 : Option Addr} {nw_REQUESTS_k17 : Nat} {sw_REQUESTS_k17 : Array (Option Value)}
    {a_REQUESTS_k17_0 : Addr}
    {tk_REQUESTS_k17_0_0 : Tok}
    {ow_REQUESTS_k17_0 : Option Addr} {nw_REQUESTS_k17_0 : Nat} {sw_REQUESTS_k17_0 : Array (Option Value)}
    {a_REQUESTS_k17_0_1 : Addr}
    {tk_REQUESTS_k17_0_1_0 : Tok}
    {ow_REQUESTS_k17_0_1 : Option Addr} {nw_REQUESTS_k17_0_1 : Nat} {sw_REQUESTS_k17_0_1 : Array (Option Value)}
    {a_REQUESTS_k17_1 : Addr}
    {tk_REQUESTS_k17_1_0 : Tok}
    {ow_REQUESTS_k17_1 : Option Addr} {nw_REQUESTS_k17_1 : Nat} {sw_REQUESTS_k17_1 : Array (Option Value)}
    {a_REQUESTS_k17_1_1 : Addr}
    {tk_REQUESTS_k17_1_1_0 tk_REQUESTS_k17_1_1_1 tk_REQUESTS_k17_1_1_2 : Tok}
    {ow_REQUESTS_k17_1_1 : Option Addr} {nw_REQUESTS_k17_1_1 : Nat} {sw_REQUESTS_k17_1_1 : Array (Option Value)}
    {a_REQUESTS_k17_2 : Addr}
    {tk_REQUESTS_k17_2_0 : Tok}
    {ow_REQUESTS_k17_2 : Option Addr} {nw_REQUESTS_k17_2 : Nat} {sw_REQUESTS_k17_2 : Array (Option Value)}
    {a_REQUESTS_k17_2_1 : Addr}
    {tk_REQUESTS_k17_2_1_0 tk_REQUESTS_k17_2_1_1 : Tok}
    {ow_REQUESTS_k17_2_1 : Option Addr} {nw_REQUESTS_k17_2_1 : Nat} {sw_REQUESTS_k17_2_1 : Array (Option Value)}
    {a_REQUESTS_k17_3 : Addr}
    {tk_REQUESTS_k17_3_0 : Tok}
    {ow_REQUESTS_k17_3 : Option Addr} {nw_REQUESTS_k17_3 : Nat} {sw_REQUESTS_k17_3 : Array (Option Value)}
    {a_REQUESTS_k17_3_1 : Addr}
    {tk_REQUESTS_k17_3_1_0 tk_REQUESTS_k17_3_1_1 : Tok}
    {ow_REQUESTS_k17_3_1 : Option Addr} {nw_REQUESTS_k17_3_1 : Nat} {sw_REQUESTS_k17_3_1 : Array (Option Value)}
    {a_REQUESTS_k17_4 : Addr}
    {tk_REQUESTS_k17_4_0 : Tok}
    {ow_REQUESTS_k17_4 : Option Addr} {nw_REQUESTS_k17_4 : Nat} {sw_REQUESTS_k17_4 : Array (Option Value)}
    {a_REQUESTS_k17_4_1 : Addr}
    {tk_REQUESTS_k17_4_1_0 : Tok}
    {ow_REQUESTS_k17_4_1 : Option Addr} {nw_REQUESTS_k17_4_1 : Nat} {sw_REQUESTS_k17_4_1 : Array (Option Value)}
    {a_REQUESTS_k17_5 : Addr}
    {tk_REQUESTS_k17_5_0 : Tok}
    {ow_REQUESTS_k17_5 : Option Addr} {nw_REQUESTS_k17_5 : Nat} {sw_REQUESTS_k17_5 : Array (Option Value)}
    {a_REQUESTS_k17_5_1 : Addr}
    {tk_REQUESTS_k17_5_1_0 tk_REQUESTS_k17_5_1_1 tk_REQUESTS_k17_5_1_2 tk_REQUESTS_k17_5_1_3 tk_REQUESTS_k17_5_1_4 tk_REQUESTS_k17_5_1_5 : Tok}
    {ow_REQUESTS_k17_5_1 : Option Addr} {nw_REQUESTS_k17_5_1 : Nat} {sw_REQUESTS_k17_5_1 : Array (Option Value)}
    {a_REQUESTS_k17_6 : Addr}
    {tk_REQUESTS_k17_6_0 : Tok}
    {ow_REQUESTS_k17_6 : Option Addr} {nw_REQUESTS_k17_6 : Nat} {sw_REQUESTS_k17_6 : Array (Option Value)}
    {a_REQUESTS_k17_6_1 : Addr}
    {tk_REQUESTS_k17_6_1_0 tk_REQUESTS_k17_6_1_1 : Tok}
    {ow_REQUESTS_k17_6_1 : Option Addr} {nw_REQUESTS_k17_6_1 : Nat} {sw_REQUESTS_k17_6_1 : Array (Option Value)}
    {a_REQUESTS_k17_7 : Addr}
    {tk_REQUESTS_k17_7_0 : Tok}
    {ow_REQUESTS_k17_7 : Option Addr} {nw_REQUESTS_k17_7 : Nat} {sw_REQUESTS_k17_7 : Array (Option Value)}
    {a_REQUESTS_k17_7_1 : Addr}
    {tk_REQUESTS_k17_7_1_0 tk_REQUESTS_k17_7_1_1 : Tok}
    {ow_REQUESTS_k17_7_1 : Option Addr} {nw_REQUESTS_k17_7_1 : Nat} {sw_REQUESTS_k17_7_1 : Array (Option Value)}
    {a_REQUESTS_k17_8 : Addr}
    {tk_REQUESTS_k17_8_0 : Tok}
    {ow_REQUESTS_k17_8 : Option Addr} {nw_REQUESTS_k17_8 : Nat} {sw_REQUESTS_k17_8 : Array (Option Value)}
    {a_REQUESTS_k17_8_1 : Addr}
    {ow_REQUESTS_k17_8_1 : Option Addr} {nw_REQUESTS_k17_8_1 : Nat} {sw_REQUESTS_k17_8_1 : Array (Option Value)}
    {a_REQUESTS_k18 : Addr}
    {ow_REQUESTS_k18 : Option Addr} {nw_REQUESTS_k18 : Nat} {sw_REQUESTS_k18 : Array (Option Value)}
    {a_REQUESTS_k18_0 : Addr}
    {tk_REQUESTS_k18_0_0 : Tok}
    {ow_REQUESTS_k18_0 : Option Addr} {nw_REQUESTS_k18_0 : Nat} {sw_REQUESTS_k18_0 : Array (Option Value)}
    {a_REQUESTS_k18_0_1 : Addr}
    {tk_REQUESTS_k18_0_1_0 tk_REQUESTS_k18_0_1_1 : Tok}
    {ow_REQUESTS_k18_0_1 : Option Addr} {nw_REQUESTS_k18_0_1 : Nat} {sw_REQUESTS_k18_0_1 : Array (Option Value)}
    {a_REQUESTS_k18_1 : Addr}
    {tk_REQUESTS_k18_1_0 : Tok}
    {ow_REQUESTS_k18_1 : Option Addr} {nw_REQUESTS_k18_1 : Nat} {sw_REQUESTS_k18_1 : Array (Option Value)}
    {a_REQUESTS_k18_1_1 : Addr}
    {ow_REQUESTS_k18_1_1 : Option Addr} {nw_REQUESTS_k18_1_1 : Nat} {sw_REQUESTS_k18_1_1 : Array (Option Value)}
    {a_REQUESTS_k19 : Addr}
    {ow_REQUESTS_k19 : Option Addr} {nw_REQUESTS_k19 : Nat} {sw_REQUESTS_k19 : Array (Option Value)}
    {a_REQUESTS_k19_0 : Addr}
    {tk_REQUESTS_k19_0_0 : Tok}
    {ow_REQUESTS_k19_0 : Option Addr} {nw_REQUESTS_k19_0 : Nat} {sw_REQUESTS_k19_0 : Array (Option Value)}
    {a_REQUESTS_k19_0_1 : Addr}
    {tk_REQUESTS_k19_0_1_0 tk_REQUESTS_k19_0_1_1 tk_REQUESTS_k19_0_1_2 : Tok}
    {ow_REQUESTS_k19_0_1 : Option Addr} {nw_REQUESTS_k19_0_1 : Nat} {sw_REQUESTS_k19_0_1 : Array (Option Value)}
    {a_REQUESTS_k19_1 : Addr}
    {tk_REQUESTS_k19_1_0 : Tok}
    {ow_REQUESTS_k19_1 : Option Addr} {nw_REQUESTS_k19_1 : Nat} {sw_REQUESTS_k19_1 : Array (Option Value)}
    {a_REQUESTS_k19_1_1 : Addr}
    {ow_REQUESTS_k19_1_1 : Option Addr} {nw_REQUESTS_k19_1_1 : Nat} {sw_REQUESTS_k19_1_1 : Array (Option Value)}
    {a_REQUESTS_k20 : Addr}
    {ow_REQUESTS_k20 : Option Addr} {nw_REQUESTS_k20 : Nat} {sw_REQUESTS_k20 : Array (Option Value)}
    {a_REQUESTS_k20_0 : Addr}
    {tk_REQUESTS_k20_0_0 : Tok}
    {ow_REQUESTS_k20_0 : Option Addr} {nw_REQUESTS_k20_0 : Nat} {sw_REQUESTS_k20_0 : Array (Option Value)}
    {a_REQUESTS_k20_0_1 : Addr}
    {tk_REQUESTS_k20_0_1_0 tk_REQUESTS_k20_0_1_1 : Tok}
    {ow_REQUESTS_k20_0_1 : Option Addr} {nw_REQUESTS_k20_0_1 : Nat} {sw_REQUESTS_k20_0_1 : Array (Option Value)}
    {a_REQUESTS_k20_1 : Addr}
    {tk_REQUESTS_k20_1_0 : Tok}
    {ow_REQUESTS_k20_1 : Option Addr} {nw_REQUESTS_k20_1 : Nat} {sw_REQUESTS_k20_1 : Array (Option Value)}
    {a_REQUESTS_k20_1_1 : Addr}
    {ow_REQUESTS_k20_1_1 : Option Addr} {nw_REQUESTS_k20_1_1 : Nat} {sw_REQUESTS_k20_1_1 : Array (Option Value)}
    {a_REQUESTS_k21 : Addr}
    {ow_REQUESTS_k21 : Option Addr} {nw_REQUESTS_k21 : Nat} {sw_REQUESTS_k21 : Array (Option Value)}
    {a_REQUESTS_k21_0 : Addr}
    {tk_REQUESTS_k21_0_0 : Tok}
    {ow_REQUESTS_k21_0 : Option Addr} {nw_REQUESTS_k21_0 : Nat} {sw_REQUESTS_k21_0 : Array (Option Value)}
    {a_REQUESTS_k21_0_1 : Addr}
    {tk_REQUESTS_k21_0_1_0 tk_REQUESTS_k21_0_1_1 : Tok}
    {ow_REQUESTS_k21_0_1 : Option Addr} {nw_REQUESTS_k21_0_1 : Nat} {sw_REQUESTS_k21_0_1 : Array (Option Value)}
    {a_REQUESTS_k21_1 : Addr}
    {tk_REQUESTS_k21_1_0 : Tok}
    {ow_REQUESTS_k21_1 : Option Addr} {nw_REQUESTS_k21_1 : Nat} {sw_REQUESTS_k21_1 : Array (Option Value)}
    {a_REQUESTS_k21_1_1 : Addr}
    {ow_REQUESTS_k21_1_1 : Option Addr} {nw_REQUESTS_k21_1_1 : Nat} {sw_REQUESTS_k21_1_1 : Array (Option Value)}
    {a_REQUESTS_k22 : Addr}
    {ow_REQUESTS_k22 : Option Addr} {nw_REQUESTS_k22 : Nat} {sw_REQUESTS_k22 : Array (Option Value)}
    {a_REQUESTS_k22_0 : Addr}
    {tk_REQUESTS_k22_0_0 : Tok}
    {ow_REQUESTS_k22_0 : Option Addr} {nw_REQUESTS_k22_0 : Nat} {sw_REQUESTS_k22_0 : Array (Option Value)}
    {a_REQUESTS_k22_0_1 : Addr}
    {ow_REQUESTS_k22_0_1 : Option Addr} {nw_REQUESTS_k22_0_1 : Nat} {sw_REQUESTS_k22_0_1 : Array (Option Value)}
    {CObjects : Addr}
    {CRequest : Addr}
    {CBadMessage : Addr}
    {CMessageTooLong : Addr}
    {CBadLength : Addr}
    {CBadText : Addr}
    {CBadPadding : Addr}
    {CObjectMissing : Addr}
    {CFault : Addr}
    {nmFault qnFault : Str} {NFault : Addr} {bsFault bmFault : List Value} {snFault : List Str} {sbFault : List Value} {abFault : Bool} {coFault : Option Bool} {ddFault : Option Addr} {k0Fault k1Fault k2Fault k3Fault k5Fault : Option Value}
    (a1 : PySem.W.nsIn K mainGlobals "is_integer" = some (some (.ref fis_integer)))
    (l1 : K.lookup fis_integer = some ⟨oc1, od1, .func (PySem.W.fnOf "is_integer" "is_integer" (defArgs s_is_integer) (defBody s_is_integer) (defScope s_is_integer) .none kV1 dc1 pm1 an1 cd1 ct1), sl1⟩) (c1 : PySem.W.codeIn K cd1 "is_integer" = true) (k1 : PySem.W.keepIn K (.ref fis_integer) = true)
    (a2 : PySem.W.nsIn K mainGlobals "is_text" = some (some (.ref fis_text)))
    (l2 : K.lookup fis_text = some ⟨oc2, od2, .func (PySem.W.fnOf "is_text" "is_text" (defArgs s_is_text) (defBody s_is_text) (defScope s_is_text) .none kV2 dc2 pm2 an2 cd2 ct2), sl2⟩) (c2 : PySem.W.codeIn K cd2 "is_text" = true) (k2 : PySem.W.keepIn K (.ref fis_text) = true)
    (a3 : PySem.W.nsIn K mainGlobals "number_octets" = some (some (.ref fnumber_octets)))
    (l3 : K.lookup fnumber_octets = some ⟨oc3, od3, .func (PySem.W.fnOf "number_octets" "number_octets" (defArgs s_number_octets) (defBody s_number_octets) (defScope s_number_octets) .none kV3 dc3 pm3 an3 cd3 ct3), sl3⟩) (c3 : PySem.W.codeIn K cd3 "number_octets" = true) (k3 : PySem.W.keepIn K (.ref fnumber_octets) = true)
    (a4 : PySem.W.nsIn K mainGlobals "number_at" = some (some (.ref fnumber_at)))
    (l4 : K.lookup fnumber_at = some ⟨oc4, od4, .func (PySem.W.fnOf "number_at" "number_at" (defArgs s_number_at) (defBody s_number_at) (defScope s_number_at) .none kV4 dc4 pm4 an4 cd4 ct4), sl4⟩) (c4 : PySem.W.codeIn K cd4 "number_at" = true) (k4 : PySem.W.keepIn K (.ref fnumber_at) = true)
    (a5 : PySem.W.nsIn K mainGlobals "field_octets" = some (some (.ref ffield_octets)))
    (l5 : K.lookup ffield_octets = some ⟨oc5, od5, .func (PySem.W.fnOf "field_octets" "field_octets" (defArgs s_field_octets) (defBody s_field_octets) (defScope s_field_octets) .none kV5 dc5 pm5 an5 cd5 ct5), sl5⟩) (c5 : PySem.W.codeIn K cd5 "field_octets" = true) (k5 : PySem.W.keepIn K (.ref ffield_octets) = true)
    (a6 : PySem.W.nsIn K mainGlobals "read_arguments" = some (some (.ref fread_arguments)))
    (l6 : K.lookup fread_arguments = some ⟨oc6, od6, .func (PySem.W.fnOf "read_arguments" "read_arguments" (defArgs s_read_arguments) (defBody s_read_arguments) (defScope s_read_arguments) .none kV6 dc6 pm6 an6 cd6 ct6), sl6⟩) (c6 : PySem.W.codeIn K cd6 "read_arguments" = true) (k6 : PySem.W.keepIn K (.ref fread_arguments) = true)
    (a7 : PySem.W.nsIn K mainGlobals "_is_code" = some (some (.ref f_is_code)))
    (l7 : K.lookup f_is_code = some ⟨oc7, od7, .func (PySem.W.fnOf "_is_code" "_is_code" (defArgs s__is_code) (defBody s__is_code) (defScope s__is_code) .none kV7 dc7 pm7 an7 cd7 ct7), sl7⟩) (c7 : PySem.W.codeIn K cd7 "_is_code" = true) (k7 : PySem.W.keepIn K (.ref f_is_code) = true)
    (a8 : PySem.W.nsIn K mainGlobals "_is_of" = some (some (.ref f_is_of)))
    (l8 : K.lookup f_is_of = some ⟨oc8, od8, .func (PySem.W.fnOf "_is_of" "_is_of" (defArgs s__is_of) (defBody s__is_of) (defScope s__is_of) .none kV8 dc8 pm8 an8 cd8 ct8), sl8⟩) (c8 : PySem.W.codeIn K cd8 "_is_of" = true) (k8 : PySem.W.keepIn K (.ref f_is_of) = true)
    (a9 : PySem.W.nsIn K mainGlobals "_are_octets" = some (some (.ref f_are_octets)))
    (l9 : K.lookup f_are_octets = some ⟨oc9, od9, .func (PySem.W.fnOf "_are_octets" "_are_octets" (defArgs s__are_octets) (defBody s__are_octets) (defScope s__are_octets) .none kV9 dc9 pm9 an9 cd9 ct9), sl9⟩) (c9 : PySem.W.codeIn K cd9 "_are_octets" = true) (k9 : PySem.W.keepIn K (.ref f_are_octets) = true)
    (a10 : PySem.W.nsIn K mainGlobals "_is_bound" = some (some (.ref f_is_bound)))
    (l10 : K.lookup f_is_bound = some ⟨oc10, od10, .func (PySem.W.fnOf "_is_bound" "_is_bound" (defArgs s__is_bound) (defBody s__is_bound) (defScope s__is_bound) .none kV10 dc10 pm10 an10 cd10 ct10), sl10⟩) (c10 : PySem.W.codeIn K cd10 "_is_bound" = true) (k10 : PySem.W.keepIn K (.ref f_is_bound) = true)
    (a11 : PySem.W.nsIn K mainGlobals "_text_octets" = some (some (.ref f_text_octets)))
    (l11 : K.lookup f_text_octets = some ⟨oc11, od11, .func (PySem.W.fnOf "_text_octets" "_text_octets" (defArgs s__text_octets) (defBody s__text_octets) (defScope s__text_octets) .none kV11 dc11 pm11 an11 cd11 ct11), sl11⟩) (c11 : PySem.W.codeIn K cd11 "_text_octets" = true) (k11 : PySem.W.keepIn K (.ref f_text_octets) = true)
    (a12 : PySem.W.nsIn K mainGlobals "_padded" = some (some (.ref f_padded)))
    (l12 : K.lookup f_padded = some ⟨oc12, od12, .func (PySem.W.fnOf "_padded" "_padded" (defArgs s__padded) (defBody s__padded) (defScope s__padded) .none kV12 dc12 pm12 an12 cd12 ct12), sl12⟩) (c12 : PySem.W.codeIn K cd12 "_padded" = true) (k12 : PySem.W.keepIn K (.ref f_padded) = true)
    (a13 : PySem.W.nsIn K mainGlobals "_read" = some (some (.ref f_read)))
    (l13 : K.lookup f_read = some ⟨oc13, od13, .func (PySem.W.fnOf "_read" "_read" (defArgs s__read) (defBody s__read) (defScope s__read) .none kV13 dc13 pm13 an13 cd13 ct13), sl13⟩) (c13 : PySem.W.codeIn K cd13 "_read" = true) (k13 : PySem.W.keepIn K (.ref f_read) = true)
    (a14 : PySem.W.nsIn K mainGlobals "_read_number" = some (some (.ref f_read_number)))
    (l14 : K.lookup f_read_number = some ⟨oc14, od14, .func (PySem.W.fnOf "_read_number" "_read_number" (defArgs s__read_number) (defBody s__read_number) (defScope s__read_number) .none kV14 dc14 pm14 an14 cd14 ct14), sl14⟩) (c14 : PySem.W.codeIn K cd14 "_read_number" = true) (k14 : PySem.W.keepIn K (.ref f_read_number) = true)
    (a15 : PySem.W.nsIn K mainGlobals "_read_named" = some (some (.ref f_read_named)))
    (l15 : K.lookup f_read_named = some ⟨oc15, od15, .func (PySem.W.fnOf "_read_named" "_read_named" (defArgs s__read_named) (defBody s__read_named) (defScope s__read_named) .none kV15 dc15 pm15 an15 cd15 ct15), sl15⟩) (c15 : PySem.W.codeIn K cd15 "_read_named" = true) (k15 : PySem.W.keepIn K (.ref f_read_named) = true)
    (a16 : PySem.W.nsIn K mainGlobals "_read_text" = some (some (.ref f_read_text)))
    (l16 : K.lookup f_read_text = some ⟨oc16, od16, .func (PySem.W.fnOf "_read_text" "_read_text" (defArgs s__read_text) (defBody s__read_text) (defScope s__read_text) .none kV16 dc16 pm16 an16 cd16 ct16), sl16⟩) (c16 : PySem.W.codeIn K cd16 "_read_text" = true) (k16 : PySem.W.keepIn K (.ref f_read_text) = true)
    (a17 : PySem.W.nsIn K mainGlobals "_read_octets" = some (some (.ref f_read_octets)))
    (l17 : K.lookup f_read_octets = some ⟨oc17, od17, .func (PySem.W.fnOf "_read_octets" "_read_octets" (defArgs s__read_octets) (defBody s__read_octets) (defScope s__read_octets) .none kV17 dc17 pm17 an17 cd17 ct17), sl17⟩) (c17 : PySem.W.codeIn K cd17 "_read_octets" = true) (k17 : PySem.W.keepIn K (.ref f_read_octets) = true)
    (a18 : PySem.W.nsIn K mainGlobals "_demand" = some (some (.ref f_demand)))
    (l18 : K.lookup f_demand = some ⟨oc18, od18, .func (PySem.W.fnOf "_demand" "_demand" (defArgs s__demand) (defBody s__demand) (defScope s__demand) .none kV18 dc18 pm18 an18 cd18 ct18), sl18⟩) (c18 : PySem.W.codeIn K cd18 "_demand" = true) (k18 : PySem.W.keepIn K (.ref f_demand) = true)
    (a19 : PySem.W.nsIn K mainGlobals "_behind_padding" = some (some (.ref f_behind_padding)))
    (l19 : K.lookup f_behind_padding = some ⟨oc19, od19, .func (PySem.W.fnOf "_behind_padding" "_behind_padding" (defArgs s__behind_padding) (defBody s__behind_padding) (defScope s__behind_padding) .none kV19 dc19 pm19 an19 cd19 ct19), sl19⟩) (c19 : PySem.W.codeIn K cd19 "_behind_padding" = true) (k19 : PySem.W.keepIn K (.ref f_behind_padding) = true)
    (a20 : PySem.W.nsIn K mainGlobals "encode_message" = some (some (.ref fencode_message)))
    (l20 : K.lookup fencode_message = some ⟨oc20, od20, .func (PySem.W.fnOf "encode_message" "encode_message" (defArgs s_encode_message) (defBody s_encode_message) (defScope s_encode_message) .none kV20 dc20 pm20 an20 cd20 ct20), sl20⟩) (c20 : PySem.W.codeIn K cd20 "encode_message" = true) (k20 : PySem.W.keepIn K (.ref fencode_message) = true)
    (a21 : PySem.W.nsIn K mainGlobals "request_row" = some (some (.ref frequest_row)))
    (l21 : K.lookup frequest_row = some ⟨oc21, od21, .func (PySem.W.fnOf "request_row" "request_row" (defArgs s_request_row) (defBody s_request_row) (defScope s_request_row) .none kV21 dc21 pm21 an21 cd21 ct21), sl21⟩) (c21 : PySem.W.codeIn K cd21 "request_row" = true) (k21 : PySem.W.keepIn K (.ref frequest_row) = true)
    (a22 : PySem.W.nsIn K mainGlobals "request_opcode" = some (some (.ref frequest_opcode)))
    (l22 : K.lookup frequest_opcode = some ⟨oc22, od22, .func (PySem.W.fnOf "request_opcode" "request_opcode" (defArgs s_request_opcode) (defBody s_request_opcode) (defScope s_request_opcode) .none kV22 dc22 pm22 an22 cd22 ct22), sl22⟩) (c22 : PySem.W.codeIn K cd22 "request_opcode" = true) (k22 : PySem.W.keepIn K (.ref frequest_opcode) = true)
    (a23 : PySem.W.nsIn K mainGlobals "_row_at" = some (some (.ref f_row_at)))
    (l23 : K.lookup f_row_at = some ⟨oc23, od23, .func (PySem.W.fnOf "_row_at" "_row_at" (defArgs s__row_at) (defBody s__row_at) (defScope s__row_at) .none kV23 dc23 pm23 an23 cd23 ct23), sl23⟩) (c23 : PySem.W.codeIn K cd23 "_row_at" = true) (k23 : PySem.W.keepIn K (.ref f_row_at) = true)
    (a24 : PySem.W.nsIn K mainGlobals "_opcode_of" = some (some (.ref f_opcode_of)))
    (l24 : K.lookup f_opcode_of = some ⟨oc24, od24, .func (PySem.W.fnOf "_opcode_of" "_opcode_of" (defArgs s__opcode_of) (defBody s__opcode_of) (defScope s__opcode_of) .none kV24 dc24 pm24 an24 cd24 ct24), sl24⟩) (c24 : PySem.W.codeIn K cd24 "_opcode_of" = true) (k24 : PySem.W.keepIn K (.ref f_opcode_of) = true)
    (a25 : PySem.W.nsIn K mainGlobals "look_at" = some (some (.ref flook_at)))
    (l25 : K.lookup flook_at = some ⟨oc25, od25, .func (PySem.W.fnOf "look_at" "look_at" (defArgs s_look_at) (defBody s_look_at) (defScope s_look_at) .none kV25 dc25 pm25 an25 cd25 ct25), sl25⟩) (c25 : PySem.W.codeIn K cd25 "look_at" = true) (k25 : PySem.W.keepIn K (.ref flook_at) = true)
    (a26 : PySem.W.nsIn K mainGlobals "new_object" = some (some (.ref fnew_object)))
    (l26 : K.lookup fnew_object = some ⟨oc26, od26, .func (PySem.W.fnOf "new_object" "new_object" (defArgs s_new_object) (defBody s_new_object) (defScope s_new_object) .none kV26 dc26 pm26 an26 cd26 ct26), sl26⟩) (c26 : PySem.W.codeIn K cd26 "new_object" = true) (k26 : PySem.W.keepIn K (.ref fnew_object) = true)
    (a27 : PySem.W.nsIn K mainGlobals "_kind_and_interface" = some (some (.ref f_kind_and_interface)))
    (l27 : K.lookup f_kind_and_interface = some ⟨oc27, od27, .func (PySem.W.fnOf "_kind_and_interface" "_kind_and_interface" (defArgs s__kind_and_interface) (defBody s__kind_and_interface) (defScope s__kind_and_interface) .none kV27 dc27 pm27 an27 cd27 ct27), sl27⟩) (c27 : PySem.W.codeIn K cd27 "_kind_and_interface" = true) (k27 : PySem.W.keepIn K (.ref f_kind_and_interface) = true)
    (a28 : PySem.W.nsIn K mainGlobals "_arguments" = some (some (.ref f_arguments)))
    (l28 : K.lookup f_arguments = some ⟨oc28, od28, .func (PySem.W.fnOf "_arguments" "_arguments" (defArgs s__arguments) (defBody s__arguments) (defScope s__arguments) .none kV28 dc28 pm28 an28 cd28 ct28), sl28⟩) (c28 : PySem.W.codeIn K cd28 "_arguments" = true) (k28 : PySem.W.keepIn K (.ref f_arguments) = true)
    (a29 : PySem.W.nsIn K mainGlobals "_check_named" = some (some (.ref f_check_named)))
    (l29 : K.lookup f_check_named = some ⟨oc29, od29, .func (PySem.W.fnOf "_check_named" "_check_named" (defArgs s__check_named) (defBody s__check_named) (defScope s__check_named) .none kV29 dc29 pm29 an29 cd29 ct29), sl29⟩) (c29 : PySem.W.codeIn K cd29 "_check_named" = true) (k29 : PySem.W.keepIn K (.ref f_check_named) = true)
    (a30 : PySem.W.nsIn K mainGlobals "_check_new" = some (some (.ref f_check_new)))
    (l30 : K.lookup f_check_new = some ⟨oc30, od30, .func (PySem.W.fnOf "_check_new" "_check_new" (defArgs s__check_new) (defBody s__check_new) (defScope s__check_new) .none kV30 dc30 pm30 an30 cd30 ct30), sl30⟩) (c30 : PySem.W.codeIn K cd30 "_check_new" = true) (k30 : PySem.W.keepIn K (.ref f_check_new) = true)
    (a31 : PySem.W.nsIn K mainGlobals "_law_cell" = some (some (.ref f_law_cell)))
    (l31 : K.lookup f_law_cell = some ⟨oc31, od31, .func (PySem.W.fnOf "_law_cell" "_law_cell" (defArgs s__law_cell) (defBody s__law_cell) (defScope s__law_cell) .none kV31 dc31 pm31 an31 cd31 ct31), sl31⟩) (c31 : PySem.W.codeIn K cd31 "_law_cell" = true) (k31 : PySem.W.keepIn K (.ref f_law_cell) = true)
    (a32 : PySem.W.nsIn K mainGlobals "_law_row" = some (some (.ref f_law_row)))
    (l32 : K.lookup f_law_row = some ⟨oc32, od32, .func (PySem.W.fnOf "_law_row" "_law_row" (defArgs s__law_row) (defBody s__law_row) (defScope s__law_row) .none kV32 dc32 pm32 an32 cd32 ct32), sl32⟩) (c32 : PySem.W.codeIn K cd32 "_law_row" = true) (k32 : PySem.W.keepIn K (.ref f_law_row) = true)
    (a33 : PySem.W.nsIn K mainGlobals "_law_rows" = some (some (.ref f_law_rows)))
    (l33 : K.lookup f_law_rows = some ⟨oc33, od33, .func (PySem.W.fnOf "_law_rows" "_law_rows" (defArgs s__law_rows) (defBody s__law_rows) (defScope s__law_rows) .none kV33 dc33 pm33 an33 cd33 ct33), sl33⟩) (c33 : PySem.W.codeIn K cd33 "_law_rows" = true) (k33 : PySem.W.keepIn K (.ref f_law_rows) = true)
    (a34 : PySem.W.nsIn K mainGlobals "_law_list" = some (some (.ref f_law_list)))
    (l34 : K.lookup f_law_list = some ⟨oc34, od34, .func (PySem.W.fnOf "_law_list" "_law_list" (defArgs s__law_list) (defBody s__law_list) (defScope s__law_list) .none kV34 dc34 pm34 an34 cd34 ct34), sl34⟩) (c34 : PySem.W.codeIn K cd34 "_law_list" = true) (k34 : PySem.W.keepIn K (.ref f_law_list) = true)
    (a35 : PySem.W.nsIn K mainGlobals "_law_split" = some (some (.ref f_law_split)))
    (l35 : K.lookup f_law_split = some ⟨oc35, od35, .func (PySem.W.fnOf "_law_split" "_law_split" (defArgs s__law_split) (defBody s__law_split) (defScope s__law_split) .none kV35 dc35 pm35 an35 cd35 ct35), sl35⟩) (c35 : PySem.W.codeIn K cd35 "_law_split" = true) (k35 : PySem.W.keepIn K (.ref f_law_split) = true)
    (a36 : PySem.W.nsIn K mainGlobals "_law_table" = some (some (.ref f_law_table)))
    (l36 : K.lookup f_law_table = some ⟨oc36, od36, .func (PySem.W.fnOf "_law_table" "_law_table" (defArgs s__law_table) (defBody s__law_table) (defScope s__law_table) .none kV36 dc36 pm36 an36 cd36 ct36), sl36⟩) (c36 : PySem.W.codeIn K cd36 "_law_table" = true) (k36 : PySem.W.keepIn K (.ref f_law_table) = true)
    (a37 : PySem.W.nsIn K mainGlobals "_law_world" = some (some (.ref f_law_world)))
    (l37 : K.lookup f_law_world = some ⟨oc37, od37, .func (PySem.W.fnOf "_law_world" "_law_world" (defArgs s__law_world) (defBody s__law_world) (defScope s__law_world) .none kV37 dc37 pm37 an37 cd37 ct37), sl37⟩) (c37 : PySem.W.codeIn K cd37 "_law_world" = true) (k37 : PySem.W.keepIn K (.ref f_law_world) = true)
    (a38 : PySem.W.nsIn K mainGlobals "_law_pick" = some (some (.ref f_law_pick)))
    (l38 : K.lookup f_law_pick = some ⟨oc38, od38, .func (PySem.W.fnOf "_law_pick" "_law_pick" (defArgs s__law_pick) (defBody s__law_pick) (defScope s__law_pick) .none kV38 dc38 pm38 an38 cd38 ct38), sl38⟩) (c38 : PySem.W.codeIn K cd38 "_law_pick" = true) (k38 : PySem.W.keepIn K (.ref f_law_pick) = true)
    (a39 : PySem.W.nsIn K mainGlobals "_law_free" = some (some (.ref f_law_free)))
    (l39 : K.lookup f_law_free = some ⟨oc39, od39, .func (PySem.W.fnOf "_law_free" "_law_free" (defArgs s__law_free) (defBody s__law_free) (defScope s__law_free) .none kV39 dc39 pm39 an39 cd39 ct39), sl39⟩) (c39 : PySem.W.codeIn K cd39 "_law_free" = true) (k39 : PySem.W.keepIn K (.ref f_law_free) = true)
    (a40 : PySem.W.nsIn K mainGlobals "_law_argument" = some (some (.ref f_law_argument)))
    (l40 : K.lookup f_law_argument = some ⟨oc40, od40, .func (PySem.W.fnOf "_law_argument" "_law_argument" (defArgs s__law_argument) (defBody s__law_argument) (defScope s__law_argument) .none kV40 dc40 pm40 an40 cd40 ct40), sl40⟩) (c40 : PySem.W.codeIn K cd40 "_law_argument" = true) (k40 : PySem.W.keepIn K (.ref f_law_argument) = true)
    (a41 : PySem.W.nsIn K mainGlobals "_law_bad" = some (some (.ref f_law_bad)))
    (l41 : K.lookup f_law_bad = some ⟨oc41, od41, .func (PySem.W.fnOf "_law_bad" "_law_bad" (defArgs s__law_bad) (defBody s__law_bad) (defScope s__law_bad) .none kV41 dc41 pm41 an41 cd41 ct41), sl41⟩) (c41 : PySem.W.codeIn K cd41 "_law_bad" = true) (k41 : PySem.W.keepIn K (.ref f_law_bad) = true)
    (a42 : PySem.W.nsIn K mainGlobals "_law_due" = some (some (.ref f_law_due)))
    (l42 : K.lookup f_law_due = some ⟨oc42, od42, .func (PySem.W.fnOf "_law_due" "_law_due" (defArgs s__law_due) (defBody s__law_due) (defScope s__law_due) .none kV42 dc42 pm42 an42 cd42 ct42), sl42⟩) (c42 : PySem.W.codeIn K cd42 "_law_due" = true) (k42 : PySem.W.keepIn K (.ref f_law_due) = true)
    (a43 : PySem.W.nsIn K mainGlobals "_law_told" = some (some (.ref f_law_told)))
    (l43 : K.lookup f_law_told = some ⟨oc43, od43, .func (PySem.W.fnOf "_law_told" "_law_told" (defArgs s__law_told) (defBody s__law_told) (defScope s__law_told) .none kV43 dc43 pm43 an43 cd43 ct43), sl43⟩) (c43 : PySem.W.codeIn K cd43 "_law_told" = true) (k43 : PySem.W.keepIn K (.ref f_law_told) = true)
    (a44 : PySem.W.nsIn K mainGlobals "_law_asked" = some (some (.ref f_law_asked)))
    (l44 : K.lookup f_law_asked = some ⟨oc44, od44, .func (PySem.W.fnOf "_law_asked" "_law_asked" (defArgs s__law_asked) (defBody s__law_asked) (defScope s__law_asked) .none kV44 dc44 pm44 an44 cd44 ct44), sl44⟩) (c44 : PySem.W.codeIn K cd44 "_law_asked" = true) (k44 : PySem.W.keepIn K (.ref f_law_asked) = true)
    (a45 : PySem.W.nsIn K mainGlobals "law" = some (some (.ref flaw)))
    (l45 : K.lookup flaw = some ⟨oc45, od45, .func (PySem.W.fnOf "law" "law" (defArgs s_law) (defBody s_law) (defScope s_law) .none kV45 dc45 pm45 an45 cd45 ct45), sl45⟩) (c45 : PySem.W.codeIn K cd45 "law" = true) (k45 : PySem.W.keepIn K (.ref flaw) = true)
    (a46 : PySem.W.findIn K (.ref CFault) "__init__" = some (some (.ref fFault___init__)))
    (i46 : PySem.W.isFn K (.ref fFault___init__) = true)
    (l46 : K.lookup fFault___init__ = some ⟨oc46, od46, .func (PySem.W.fnX "__init__" "Fault.__init__" (defArgs s_Fault___init__) (defBody s_Fault___init__) (defScope s_Fault___init__) [("__class__", cc46)] .none kV46 dc46 pm46 an46 (.ref cda46) ct46), sl46⟩) (c46 : PySem.W.codeIn K (.ref cda46) "Fault.__init__" = true) (k46 : PySem.W.keepIn K (.ref fFault___init__) = true)
    (lc46 : K.lookup cc46 = some ⟨cl46, cld46, .cell (some (.ref CFault)), csl46⟩) (ld46 : K.lookup cda46 = some ⟨ccl46, cdd46, .fields fvs46, ccs46⟩) (rv46 : fvs46[2]? = some (.str "/claim/cut.py" tf46)) (lD46 : PySem.W.clsIn K CFault = some cdD46) (ty46 : PySem.W.typeIn K (.ref fFault___init__) = some (.type "function"))
    (a47 : PySem.W.findIn K (.ref CObjects) "__init__" = some (some (.ref fObjects___init__)))
    (i47 : PySem.W.isFn K (.ref fObjects___init__) = true)
    (l47 : K.lookup fObjects___init__ = some ⟨oc47, od47, .func (PySem.W.fnOf "__init__" "Objects.__init__" (defArgs s_Objects___init__) (defBody s_Objects___init__) (defScope s_Objects___init__) .none kV47 dc47 pm47 an47 cd47 ct47), sl47⟩) (c47 : PySem.W.codeIn K cd47 "Objects.__init__" = true) (k47 : PySem.W.keepIn K (.ref fObjects___init__) = true)
    (a48 : PySem.W.findIn K (.ref CObjects) "interface_of" = some (some (.ref fObjects_interface_of)))
    (i48 : PySem.W.isFn K (.ref fObjects_interface_of) = true)
    (l48 : K.lookup fObjects_interface_of = some ⟨oc48, od48, .func (PySem.W.fnOf "interface_of" "Objects.interface_of" (defArgs s_Objects_interface_of) (defBody s_Objects_interface_of) (defScope s_Objects_interface_of) .none kV48 dc48 pm48 an48 cd48 ct48), sl48⟩) (c48 : PySem.W.codeIn K cd48 "Objects.interface_of" = true) (k48 : PySem.W.keepIn K (.ref fObjects_interface_of) = true)
    (a49 : PySem.W.findIn K (.ref CObjects) "numbers" = some (some (.ref fObjects_numbers)))
    (i49 : PySem.W.isFn K (.ref fObjects_numbers) = true)
    (l49 : K.lookup fObjects_numbers = some ⟨oc49, od49, .func (PySem.W.fnOf "numbers" "Objects.numbers" (defArgs s_Objects_numbers) (defBody s_Objects_numbers) (defScope s_Objects_numbers) .none kV49 dc49 pm49 an49 cd49 ct49), sl49⟩) (c49 : PySem.W.codeIn K cd49 "Objects.numbers" = true) (k49 : PySem.W.keepIn K (.ref fObjects_numbers) = true)
    (a50 : PySem.W.findIn K (.ref CObjects) "may_give" = some (some (.ref fObjects_may_give)))
    (i50 : PySem.W.isFn K (.ref fObjects_may_give) = true)
    (l50 : K.lookup fObjects_may_give = some ⟨oc50, od50, .func (PySem.W.fnOf "may_give" "Objects.may_give" (defArgs s_Objects_may_give) (defBody s_Objects_may_give) (defScope s_Objects_may_give) .none kV50 dc50 pm50 an50 cd50 ct50), sl50⟩) (c50 : PySem.W.codeIn K cd50 "Objects.may_give" = true) (k50 : PySem.W.keepIn K (.ref fObjects_may_give) = true)
    (a51 : PySem.W.findIn K (.ref CObjects) "is_full" = some (some (.ref fObjects_is_full)))
    (i51 : PySem.W.isFn K (.ref fObjects_is_full) = true)
    (l51 : K.lookup fObjects_is_full = some ⟨oc51, od51, .func (PySem.W.fnOf "is_full" "Objects.is_full" (defArgs s_Objects_is_full) (defBody s_Objects_is_full) (defScope s_Objects_is_full) .none kV51 dc51 pm51 an51 cd51 ct51), sl51⟩) (c51 : PySem.W.codeIn K cd51 "Objects.is_full" = true) (k51 : PySem.W.keepIn K (.ref fObjects_is_full) = true)
    (a52 : PySem.W.findIn K (.ref CObjects) "give" = some (some (.ref fObjects_give)))
    (i52 : PySem.W.isFn K (.ref fObjects_give) = true)
    (l52 : K.lookup fObjects_give = some ⟨oc52, od52, .func (PySem.W.fnOf "give" "Objects.give" (defArgs s_Objects_give) (defBody s_Objects_give) (defScope s_Objects_give) .none kV52 dc52 pm52 an52 cd52 ct52), sl52⟩) (c52 : PySem.W.codeIn K cd52 "Objects.give" = true) (k52 : PySem.W.keepIn K (.ref fObjects_give) = true)
    (a53 : PySem.W.findIn K (.ref CObjects) "make" = some (some (.ref fObjects_make)))
    (i53 : PySem.W.isFn K (.ref fObjects_make) = true)
    (l53 : K.lookup fObjects_make = some ⟨oc53, od53, .func (PySem.W.fnOf "make" "Objects.make" (defArgs s_Objects_make) (defBody s_Objects_make) (defScope s_Objects_make) .none kV53 dc53 pm53 an53 cd53 ct53), sl53⟩) (c53 : PySem.W.codeIn K cd53 "Objects.make" = true) (k53 : PySem.W.keepIn K (.ref fObjects_make) = true)
    (a54 : PySem.W.findIn K (.ref CRequest) "__init__" = some (some (.ref fRequest___init__)))
    (i54 : PySem.W.isFn K (.ref fRequest___init__) = true)
    (l54 : K.lookup fRequest___init__ = some ⟨oc54, od54, .func (PySem.W.fnOf "__init__" "Request.__init__" (defArgs s_Request___init__) (defBody s_Request___init__) (defScope s_Request___init__) .none kV54 dc54 pm54 an54 cd54 ct54), sl54⟩) (c54 : PySem.W.codeIn K cd54 "Request.__init__" = true) (k54 : PySem.W.keepIn K (.ref fRequest___init__) = true)
    (z_all : PySem.W.nsIn K mainGlobals "all" = some none)
    (z_any : PySem.W.nsIn K mainGlobals "any" = some none)
    (z_bool : PySem.W.nsIn K mainGlobals "bool" = some none)
    (z_int : PySem.W.nsIn K mainGlobals "int" = some none)
    (z_isinstance : PySem.W.nsIn K mainGlobals "isinstance" = some none)
    (z_len : PySem.W.nsIn K mainGlobals "len" = some none)
    (z_list : PySem.W.nsIn K mainGlobals "list" = some none)
    (z_min : PySem.W.nsIn K mainGlobals "min" = some none)
    (z_ord : PySem.W.nsIn K mainGlobals "ord" = some none)
    (z_range : PySem.W.nsIn K mainGlobals "range" = some none)
    (z_str : PySem.W.nsIn K mainGlobals "str" = some none)
    (z_sum : PySem.W.nsIn K mainGlobals "sum" = some none)
    (z_super : PySem.W.nsIn K mainGlobals "super" = some none)
    (z_tuple : PySem.W.nsIn K mainGlobals "tuple" = some none)
    (z_zip : PySem.W.nsIn K mainGlobals "zip" = some none)
    (q_DISPLAY : PySem.W.nsIn K mainGlobals "DISPLAY" = some (some (.int (1) tDISPLAY)))
    (q_LEAST_GIVEN : PySem.W.nsIn K mainGlobals "LEAST_GIVEN" = some (some (.int (2) tLEAST_GIVEN)))
    (q_GREATEST_GIVEN : PySem.W.nsIn K mainGlobals "GREATEST_GIVEN" = some (some (.int (4278190079) tGREATEST_GIVEN)))
    (q_MOST_OBJECTS : PySem.W.nsIn K mainGlobals "MOST_OBJECTS" = some (some (.int (512) tMOST_OBJECTS)))
    (q_GREATEST_NUMBER : PySem.W.nsIn K mainGlobals "GREATEST_NUMBER" = some (some (.int (4294967295) tGREATEST_NUMBER)))
    (q_LEAST_INT : PySem.W.nsIn K mainGlobals "LEAST_INT" = some (some (.int (-2147483648) tLEAST_INT)))
    (q_GREATEST_INT : PySem.W.nsIn K mainGlobals "GREATEST_INT" = some (some (.int (2147483647) tGREATEST_INT)))
    (q_LONGEST_TEXT : PySem.W.nsIn K mainGlobals "LONGEST_TEXT" = some (some (.int (1000) tLONGEST_TEXT)))
    (q_MOST_OCTETS : PySem.W.nsIn K mainGlobals "MOST_OCTETS" = some (some (.int (16384) tMOST_OCTETS)))
    (q__FIRST_CODE : PySem.W.nsIn K mainGlobals "_FIRST_CODE" = some (some (.int (32) t_FIRST_CODE)))
    (q__LAST_CODE : PySem.W.nsIn K mainGlobals "_LAST_CODE" = some (some (.int (126) t_LAST_CODE)))
    (q__PERCENT_CODE : PySem.W.nsIn K mainGlobals "_PERCENT_CODE" = some (some (.int (37) t_PERCENT_CODE)))
    (q__CHARACTERS : PySem.W.nsIn K mainGlobals "_CHARACTERS" = some (some (.str " !\"#$ &'()*+,-./0123456789:;<=>?@ABCDEFGHIJKLMNOPQRSTUVWXYZ[\\]^_`abcdefghijklmnopqrstuvwxyz{|}~" t_CHARACTERS)))
    (q_HEADER_SIZE : PySem.W.nsIn K mainGlobals "HEADER_SIZE" = some (some (.int (8) tHEADER_SIZE)))
    (q_GREATEST_SIZE : PySem.W.nsIn K mainGlobals "GREATEST_SIZE" = some (some (.int (20480) tGREATEST_SIZE)))
    (q_GREATEST_OPCODE : PySem.W.nsIn K mainGlobals "GREATEST_OPCODE" = some (some (.int (65535) tGREATEST_OPCODE)))
    (q_MOST_ARGUMENTS : PySem.W.nsIn K mainGlobals "MOST_ARGUMENTS" = some (some (.int (20) tMOST_ARGUMENTS)))
    (q__REQUESTS : PySem.W.nsIn K mainGlobals "_REQUESTS" = some (some (.ref a_REQUESTS)))
    (dl_REQUESTS : K.lookup a_REQUESTS = some ⟨.type "dict", none, .dict es_REQUESTS nn_REQUESTS, #[]⟩) (dk_REQUESTS : PySem.W.KeysLit w.params es_REQUESTS.toList)
    (dv_REQUESTS : es_REQUESTS.toList.map (fun e : DictEntry => e.key) = [.str "display" tk_REQUESTS0, .str "callback" tk_REQUESTS1, .str "registry" tk_REQUESTS2, .str "memory" tk_REQUESTS3, .str "buffer" tk_REQUESTS4, .str "compositor" tk_REQUESTS5, .str "region" tk_REQUESTS6, .str "surface" tk_REQUESTS7, .str "joiner" tk_REQUESTS8, .str "sub" tk_REQUESTS9, .str "output" tk_REQUESTS10, .str "windows" tk_REQUESTS11, .str "window" tk_REQUESTS12, .str "popup" tk_REQUESTS13, .str "seat" tk_REQUESTS14, .str "pointer" tk_REQUESTS15, .str "keyboard" tk_REQUESTS16, .str "transfer" tk_REQUESTS17, .str "source" tk_REQUESTS18, .str "offer" tk_REQUESTS19, .str "capture" tk_REQUESTS20, .str "fetch" tk_REQUESTS21, .str "watch" tk_REQUESTS22]) (dy_REQUESTS : (a_REQUESTS == sysModules) = false)
    (de_REQUESTS_k0 : PySem.W.nsIn K a_REQUESTS "display" = some (some (.ref a_REQUESTS_k0)))
    (de_REQUESTS_k1 : PySem.W.nsIn K a_REQUESTS "callback" = some (some (.ref a_REQUESTS_k1)))
    (de_REQUESTS_k2 : PySem.W.nsIn K a_REQUESTS "registry" = some (some (.ref a_REQUESTS_k2)))
    (de_REQUESTS_k3 : PySem.W.nsIn K a_REQUESTS "memory" = some (some (.ref a_REQUESTS_k3)))
    (de_REQUESTS_k4 : PySem.W.nsIn K a_REQUESTS "buffer" = some (some (.ref a_REQUESTS_k4)))
    (de_REQUESTS_k5 : PySem.W.nsIn K a_REQUESTS "compositor" = some (some (.ref a_REQUESTS_k5)))
    (de_REQUESTS_k6 : PySem.W.nsIn K a_REQUESTS "region" = some (some (.ref a_REQUESTS_k6)))
    (de_REQUESTS_k7 : PySem.W.nsIn K a_REQUESTS "surface" = some (some (.ref a_REQUESTS_k7)))
    (de_REQUESTS_k8 : PySem.W.nsIn K a_REQUESTS "joiner" = some (some (.ref a_REQUESTS_k8)))
    (de_REQUESTS_k9 : PySem.W.nsIn K a_REQUESTS "sub" = some (some (.ref a_REQUESTS_k9)))
    (de_REQUESTS_k10 : PySem.W.nsIn K a_REQUESTS "output" = some (some (.ref a_REQUESTS_k10)))
    (de_REQUESTS_k11 : PySem.W.nsIn K a_REQUESTS "windows" = some (some (.ref a_REQUESTS_k11)))
    (de_REQUESTS_k12 : PySem.W.nsIn K a_REQUESTS "window" = some (some (.ref a_REQUESTS_k12)))
    (de_REQUESTS_k13 : PySem.W.nsIn K a_REQUESTS "popup" = some (some (.ref a_REQUESTS_k13)))
    (de_REQUESTS_k14 : PySem.W.nsIn K a_REQUESTS "seat" = some (some (.ref a_REQUESTS_k14)))
    (de_REQUESTS_k15 : PySem.W.nsIn K a_REQUESTS "pointer" = some (some (.ref a_REQUESTS_k15)))
    (de_REQUESTS_k16 : PySem.W.nsIn K a_REQUESTS "keyboard" = some (some (.ref a_REQUESTS_k16)))
    (de_REQUESTS_k17 : PySem.W.nsIn K a_REQUESTS "transfer" = some (some (.ref a_REQUESTS_k17)))
    (de_REQUESTS_k18 : PySem.W.nsIn K a_REQUESTS "source" = some (some (.ref a_REQUESTS_k18)))
    (de_REQUESTS_k19 : PySem.W.nsIn K a_REQUESTS "offer" = some (some (.ref a_REQUESTS_k19)))
    (de_REQUESTS_k20 : PySem.W.nsIn K a_REQUESTS "capture" = some (some (.ref a_REQUESTS_k20)))
    (de_REQUESTS_k21 : PySem.W.nsIn K a_REQUESTS "fetch" = some (some (.ref a_REQUESTS_k21)))
    (de_REQUESTS_k22 : PySem.W.nsIn K a_REQUESTS "watch" = some (some (.ref a_REQUESTS_k22)))
    (w_REQUESTS_k0 : K.lookup a_REQUESTS_k0 = some ⟨.type "tuple", ow_REQUESTS_k0, .seq #[.ref a_REQUESTS_k0_0, .ref a_REQUESTS_k0_1] nw_REQUESTS_k0, sw_REQUESTS_k0⟩)
    (w_REQUESTS_k0_0 : K.lookup a_REQUESTS_k0_0 = some ⟨.type "tuple", ow_REQUESTS_k0_0, .seq #[.str "sync" tk_REQUESTS_k0_0_0, .ref a_REQUESTS_k0_0_1, .bool false] nw_REQUESTS_k0_0, sw_REQUESTS_k0_0⟩)
    (w_REQUESTS_k0_0_1 : K.lookup a_REQUESTS_k0_0_1 = some ⟨.type "tuple", ow_REQUESTS_k0_0_1, .seq #[.str "new callback" tk_REQUESTS_k0_0_1_0] nw_REQUESTS_k0_0_1, sw_REQUESTS_k0_0_1⟩)
    (w_REQUESTS_k0_1 : K.lookup a_REQUESTS_k0_1 = some ⟨.type "tuple", ow_REQUESTS_k0_1, .seq #[.str "registry" tk_REQUESTS_k0_1_0, .ref a_REQUESTS_k0_1_1, .bool false] nw_REQUESTS_k0_1, sw_REQUESTS_k0_1⟩)
    (w_REQUESTS_k0_1_1 : K.lookup a_REQUESTS_k0_1_1 = some ⟨.type "tuple", ow_REQUESTS_k0_1_1, .seq #[.str "new registry" tk_REQUESTS_k0_1_1_0] nw_REQUESTS_k0_1_1, sw_REQUESTS_k0_1_1⟩)
    (w_REQUESTS_k1 : K.lookup a_REQUESTS_k1 = some ⟨.type "tuple", ow_REQUESTS_k1, .seq #[] nw_REQUESTS_k1, sw_REQUESTS_k1⟩)
    (w_REQUESTS_k2 : K.lookup a_REQUESTS_k2 = some ⟨.type "tuple", ow_REQUESTS_k2, .seq #[.ref a_REQUESTS_k2_0] nw_REQUESTS_k2, sw_REQUESTS_k2⟩)
    (w_REQUESTS_k2_0 : K.lookup a_REQUESTS_k2_0 = some ⟨.type "tuple", ow_REQUESTS_k2_0, .seq #[.str "bind" tk_REQUESTS_k2_0_0, .ref a_REQUESTS_k2_0_1, .bool false] nw_REQUESTS_k2_0, sw_REQUESTS_k2_0⟩)
    (w_REQUESTS_k2_0_1 : K.lookup a_REQUESTS_k2_0_1 = some ⟨.type "tuple", ow_REQUESTS_k2_0_1, .seq #[.str "uint" tk_REQUESTS_k2_0_1_0, .str "bound" tk_REQUESTS_k2_0_1_1] nw_REQUESTS_k2_0_1, sw_REQUESTS_k2_0_1⟩)
    (w_REQUESTS_k3 : K.lookup a_REQUESTS_k3 = some ⟨.type "tuple", ow_REQUESTS_k3, .seq #[.ref a_REQUESTS_k3_0, .ref a_REQUESTS_k3_1] nw_REQUESTS_k3, sw_REQUESTS_k3⟩)
    (w_REQUESTS_k3_0 : K.lookup a_REQUESTS_k3_0 = some ⟨.type "tuple", ow_REQUESTS_k3_0, .seq #[.str "buffer" tk_REQUESTS_k3_0_0, .ref a_REQUESTS_k3_0_1, .bool false] nw_REQUESTS_k3_0, sw_REQUESTS_k3_0⟩)
    (w_REQUESTS_k3_0_1 : K.lookup a_REQUESTS_k3_0_1 = some ⟨.type "tuple", ow_REQUESTS_k3_0_1, .seq #[.str "new buffer" tk_REQUESTS_k3_0_1_0, .str "uint" tk_REQUESTS_k3_0_1_1, .str "uint" tk_REQUESTS_k3_0_1_2] nw_REQUESTS_k3_0_1, sw_REQUESTS_k3_0_1⟩)
    (w_REQUESTS_k3_1 : K.lookup a_REQUESTS_k3_1 = some ⟨.type "tuple", ow_REQUESTS_k3_1, .seq #[.str "destroy" tk_REQUESTS_k3_1_0, .ref a_REQUESTS_k3_1_1, .bool true] nw_REQUESTS_k3_1, sw_REQUESTS_k3_1⟩)
    (w_REQUESTS_k3_1_1 : K.lookup a_REQUESTS_k3_1_1 = some ⟨.type "tuple", ow_REQUESTS_k3_1_1, .seq #[] nw_REQUESTS_k3_1_1, sw_REQUESTS_k3_1_1⟩)
    (w_REQUESTS_k4 : K.lookup a_REQUESTS_k4 = some ⟨.type "tuple", ow_REQUESTS_k4, .seq #[.ref a_REQUESTS_k4_0, .ref a_REQUESTS_k4_1, .ref a_REQUESTS_k4_2] nw_REQUESTS_k4, sw_REQUESTS_k4⟩)
    (w_REQUESTS_k4_0 : K.lookup a_REQUESTS_k4_0 = some ⟨.type "tuple", ow_REQUESTS_k4_0, .seq #[.str "write" tk_REQUESTS_k4_0_0, .ref a_REQUESTS_k4_0_1, .bool false] nw_REQUESTS_k4_0, sw_REQUESTS_k4_0⟩)
    (w_REQUESTS_k4_0_1 : K.lookup a_REQUESTS_k4_0_1 = some ⟨.type "tuple", ow_REQUESTS_k4_0_1, .seq #[.str "uint" tk_REQUESTS_k4_0_1_0, .str "octets" tk_REQUESTS_k4_0_1_1] nw_REQUESTS_k4_0_1, sw_REQUESTS_k4_0_1⟩)
    (w_REQUESTS_k4_1 : K.lookup a_REQUESTS_k4_1 = some ⟨.type "tuple", ow_REQUESTS_k4_1, .seq #[.str "fill" tk_REQUESTS_k4_1_0, .ref a_REQUESTS_k4_1_1, .bool false] nw_REQUESTS_k4_1, sw_REQUESTS_k4_1⟩)
    (w_REQUESTS_k4_1_1 : K.lookup a_REQUESTS_k4_1_1 = some ⟨.type "tuple", ow_REQUESTS_k4_1_1, .seq #[.str "int" tk_REQUESTS_k4_1_1_0, .str "int" tk_REQUESTS_k4_1_1_1, .str "uint" tk_REQUESTS_k4_1_1_2, .str "uint" tk_REQUESTS_k4_1_1_3, .str "uint" tk_REQUESTS_k4_1_1_4] nw_REQUESTS_k4_1_1, sw_REQUESTS_k4_1_1⟩)
    (w_REQUESTS_k4_2 : K.lookup a_REQUESTS_k4_2 = some ⟨.type "tuple", ow_REQUESTS_k4_2, .seq #[.str "destroy" tk_REQUESTS_k4_2_0, .ref a_REQUESTS_k4_2_1, .bool true] nw_REQUESTS_k4_2, sw_REQUESTS_k4_2⟩)
    (w_REQUESTS_k4_2_1 : K.lookup a_REQUESTS_k4_2_1 = some ⟨.type "tuple", ow_REQUESTS_k4_2_1, .seq #[] nw_REQUESTS_k4_2_1, sw_REQUESTS_k4_2_1⟩)
    (w_REQUESTS_k5 : K.lookup a_REQUESTS_k5 = some ⟨.type "tuple", ow_REQUESTS_k5, .seq #[.ref a_REQUESTS_k5_0, .ref a_REQUESTS_k5_1, .ref a_REQUESTS_k5_2] nw_REQUESTS_k5, sw_REQUESTS_k5⟩)
    (w_REQUESTS_k5_0 : K.lookup a_REQUESTS_k5_0 = some ⟨.type "tuple", ow_REQUESTS_k5_0, .seq #[.str "surface" tk_REQUESTS_k5_0_0, .ref a_REQUESTS_k5_0_1, .bool false] nw_REQUESTS_k5_0, sw_REQUESTS_k5_0⟩)
    (w_REQUESTS_k5_0_1 : K.lookup a_REQUESTS_k5_0_1 = some ⟨.type "tuple", ow_REQUESTS_k5_0_1, .seq #[.str "new surface" tk_REQUESTS_k5_0_1_0] nw_REQUESTS_k5_0_1, sw_REQUESTS_k5_0_1⟩)
    (w_REQUESTS_k5_1 : K.lookup a_REQUESTS_k5_1 = some ⟨.type "tuple", ow_REQUESTS_k5_1, .seq #[.str "region" tk_REQUESTS_k5_1_0, .ref a_REQUESTS_k5_1_1, .bool false] nw_REQUESTS_k5_1, sw_REQUESTS_k5_1⟩)
    (w_REQUESTS_k5_1_1 : K.lookup a_REQUESTS_k5_1_1 = some ⟨.type "tuple", ow_REQUESTS_k5_1_1, .seq #[.str "new region" tk_REQUESTS_k5_1_1_0] nw_REQUESTS_k5_1_1, sw_REQUESTS_k5_1_1⟩)
    (w_REQUESTS_k5_2 : K.lookup a_REQUESTS_k5_2 = some ⟨.type "tuple", ow_REQUESTS_k5_2, .seq #[.str "destroy" tk_REQUESTS_k5_2_0, .ref a_REQUESTS_k5_2_1, .bool true] nw_REQUESTS_k5_2, sw_REQUESTS_k5_2⟩)
    (w_REQUESTS_k5_2_1 : K.lookup a_REQUESTS_k5_2_1 = some ⟨.type "tuple", ow_REQUESTS_k5_2_1, .seq #[] nw_REQUESTS_k5_2_1, sw_REQUESTS_k5_2_1⟩)
    (w_REQUESTS_k6 : K.lookup a_REQUESTS_k6 = some ⟨.type "tuple", ow_REQUESTS_k6, .seq #[.ref a_REQUESTS_k6_0, .ref a_REQUESTS_k6_1, .ref a_REQUESTS_k6_2] nw_REQUESTS_k6, sw_REQUESTS_k6⟩)
    (w_REQUESTS_k6_0 : K.lookup a_REQUESTS_k6_0 = some ⟨.type "tuple", ow_REQUESTS_k6_0, .seq #[.str "add" tk_REQUESTS_k6_0_0, .ref a_REQUESTS_k6_0_1, .bool false] nw_REQUESTS_k6_0, sw_REQUESTS_k6_0⟩)
    (w_REQUESTS_k6_0_1 : K.lookup a_REQUESTS_k6_0_1 = some ⟨.type "tuple", ow_REQUESTS_k6_0_1, .seq #[.str "int" tk_REQUESTS_k6_0_1_0, .str "int" tk_REQUESTS_k6_0_1_1, .str "uint" tk_REQUESTS_k6_0_1_2, .str "uint" tk_REQUESTS_k6_0_1_3] nw_REQUESTS_k6_0_1, sw_REQUESTS_k6_0_1⟩)
    (w_REQUESTS_k6_1 : K.lookup a_REQUESTS_k6_1 = some ⟨.type "tuple", ow_REQUESTS_k6_1, .seq #[.str "subtract" tk_REQUESTS_k6_1_0, .ref a_REQUESTS_k6_1_1, .bool false] nw_REQUESTS_k6_1, sw_REQUESTS_k6_1⟩)
    (w_REQUESTS_k6_1_1 : K.lookup a_REQUESTS_k6_1_1 = some ⟨.type "tuple", ow_REQUESTS_k6_1_1, .seq #[.str "int" tk_REQUESTS_k6_1_1_0, .str "int" tk_REQUESTS_k6_1_1_1, .str "uint" tk_REQUESTS_k6_1_1_2, .str "uint" tk_REQUESTS_k6_1_1_3] nw_REQUESTS_k6_1_1, sw_REQUESTS_k6_1_1⟩)
    (w_REQUESTS_k6_2 : K.lookup a_REQUESTS_k6_2 = some ⟨.type "tuple", ow_REQUESTS_k6_2, .seq #[.str "destroy" tk_REQUESTS_k6_2_0, .ref a_REQUESTS_k6_2_1, .bool true] nw_REQUESTS_k6_2, sw_REQUESTS_k6_2⟩)
    (w_REQUESTS_k6_2_1 : K.lookup a_REQUESTS_k6_2_1 = some ⟨.type "tuple", ow_REQUESTS_k6_2_1, .seq #[] nw_REQUESTS_k6_2_1, sw_REQUESTS_k6_2_1⟩)
    (w_REQUESTS_k7 : K.lookup a_REQUESTS_k7 = some ⟨.type "tuple", ow_REQUESTS_k7, .seq #[.ref a_REQUESTS_k7_0, .ref a_REQUESTS_k7_1, .ref a_REQUESTS_k7_2, .ref a_REQUESTS_k7_3, .ref a_REQUESTS_k7_4, .ref a_REQUESTS_k7_5, .ref a_REQUESTS_k7_6] nw_REQUESTS_k7, sw_REQUESTS_k7⟩)
    (w_REQUESTS_k7_0 : K.lookup a_REQUESTS_k7_0 = some ⟨.type "tuple", ow_REQUESTS_k7_0, .seq #[.str "attach" tk_REQUESTS_k7_0_0, .ref a_REQUESTS_k7_0_1, .bool false] nw_REQUESTS_k7_0, sw_REQUESTS_k7_0⟩)
    (w_REQUESTS_k7_0_1 : K.lookup a_REQUESTS_k7_0_1 = some ⟨.type "tuple", ow_REQUESTS_k7_0_1, .seq #[.str "maybe buffer" tk_REQUESTS_k7_0_1_0] nw_REQUESTS_k7_0_1, sw_REQUESTS_k7_0_1⟩)
    (w_REQUESTS_k7_1 : K.lookup a_REQUESTS_k7_1 = some ⟨.type "tuple", ow_REQUESTS_k7_1, .seq #[.str "frame" tk_REQUESTS_k7_1_0, .ref a_REQUESTS_k7_1_1, .bool false] nw_REQUESTS_k7_1, sw_REQUESTS_k7_1⟩)
    (w_REQUESTS_k7_1_1 : K.lookup a_REQUESTS_k7_1_1 = some ⟨.type "tuple", ow_REQUESTS_k7_1_1, .seq #[.str "new callback" tk_REQUESTS_k7_1_1_0] nw_REQUESTS_k7_1_1, sw_REQUESTS_k7_1_1⟩)
    (w_REQUESTS_k7_2 : K.lookup a_REQUESTS_k7_2 = some ⟨.type "tuple", ow_REQUESTS_k7_2, .seq #[.str "hears" tk_REQUESTS_k7_2_0, .ref a_REQUESTS_k7_2_1, .bool false] nw_REQUESTS_k7_2, sw_REQUESTS_k7_2⟩)
    (w_REQUESTS_k7_2_1 : K.lookup a_REQUESTS_k7_2_1 = some ⟨.type "tuple", ow_REQUESTS_k7_2_1, .seq #[.str "maybe region" tk_REQUESTS_k7_2_1_0] nw_REQUESTS_k7_2_1, sw_REQUESTS_k7_2_1⟩)
    (w_REQUESTS_k7_3 : K.lookup a_REQUESTS_k7_3 = some ⟨.type "tuple", ow_REQUESTS_k7_3, .seq #[.str "commit" tk_REQUESTS_k7_3_0, .ref a_REQUESTS_k7_3_1, .bool false] nw_REQUESTS_k7_3, sw_REQUESTS_k7_3⟩)
    (w_REQUESTS_k7_3_1 : K.lookup a_REQUESTS_k7_3_1 = some ⟨.type "tuple", ow_REQUESTS_k7_3_1, .seq #[] nw_REQUESTS_k7_3_1, sw_REQUESTS_k7_3_1⟩)
    (w_REQUESTS_k7_4 : K.lookup a_REQUESTS_k7_4 = some ⟨.type "tuple", ow_REQUESTS_k7_4, .seq #[.str "turn" tk_REQUESTS_k7_4_0, .ref a_REQUESTS_k7_4_1, .bool false] nw_REQUESTS_k7_4, sw_REQUESTS_k7_4⟩)
    (w_REQUESTS_k7_4_1 : K.lookup a_REQUESTS_k7_4_1 = some ⟨.type "tuple", ow_REQUESTS_k7_4_1, .seq #[.str "uint" tk_REQUESTS_k7_4_1_0] nw_REQUESTS_k7_4_1, sw_REQUESTS_k7_4_1⟩)
    (w_REQUESTS_k7_5 : K.lookup a_REQUESTS_k7_5 = some ⟨.type "tuple", ow_REQUESTS_k7_5, .seq #[.str "scale" tk_REQUESTS_k7_5_0, .ref a_REQUESTS_k7_5_1, .bool false] nw_REQUESTS_k7_5, sw_REQUESTS_k7_5⟩)
    (w_REQUESTS_k7_5_1 : K.lookup a_REQUESTS_k7_5_1 = some ⟨.type "tuple", ow_REQUESTS_k7_5_1, .seq #[.str "uint" tk_REQUESTS_k7_5_1_0] nw_REQUESTS_k7_5_1, sw_REQUESTS_k7_5_1⟩)
    (w_REQUESTS_k7_6 : K.lookup a_REQUESTS_k7_6 = some ⟨.type "tuple", ow_REQUESTS_k7_6, .seq #[.str "destroy" tk_REQUESTS_k7_6_0, .ref a_REQUESTS_k7_6_1, .bool true] nw_REQUESTS_k7_6, sw_REQUESTS_k7_6⟩)
    (w_REQUESTS_k7_6_1 : K.lookup a_REQUESTS_k7_6_1 = some ⟨.type "tuple", ow_REQUESTS_k7_6_1, .seq #[] nw_REQUESTS_k7_6_1, sw_REQUESTS_k7_6_1⟩)
    (w_REQUESTS_k8 : K.lookup a_REQUESTS_k8 = some ⟨.type "tuple", ow_REQUESTS_k8, .seq #[.ref a_REQUESTS_k8_0, .ref a_REQUESTS_k8_1] nw_REQUESTS_k8, sw_REQUESTS_k8⟩)
    (w_REQUESTS_k8_0 : K.lookup a_REQUESTS_k8_0 = some ⟨.type "tuple", ow_REQUESTS_k8_0, .seq #[.str "join" tk_REQUESTS_k8_0_0, .ref a_REQUESTS_k8_0_1, .bool false] nw_REQUESTS_k8_0, sw_REQUESTS_k8_0⟩)
    (w_REQUESTS_k8_0_1 : K.lookup a_REQUESTS_k8_0_1 = some ⟨.type "tuple", ow_REQUESTS_k8_0_1, .seq #[.str "new sub" tk_REQUESTS_k8_0_1_0, .str "object surface" tk_REQUESTS_k8_0_1_1, .str "object surface" tk_REQUESTS_k8_0_1_2] nw_REQUESTS_k8_0_1, sw_REQUESTS_k8_0_1⟩)
    (w_REQUESTS_k8_1 : K.lookup a_REQUESTS_k8_1 = some ⟨.type "tuple", ow_REQUESTS_k8_1, .seq #[.str "destroy" tk_REQUESTS_k8_1_0, .ref a_REQUESTS_k8_1_1, .bool true] nw_REQUESTS_k8_1, sw_REQUESTS_k8_1⟩)
    (w_REQUESTS_k8_1_1 : K.lookup a_REQUESTS_k8_1_1 = some ⟨.type "tuple", ow_REQUESTS_k8_1_1, .seq #[] nw_REQUESTS_k8_1_1, sw_REQUESTS_k8_1_1⟩)
    (w_REQUESTS_k9 : K.lookup a_REQUESTS_k9 = some ⟨.type "tuple", ow_REQUESTS_k9, .seq #[.ref a_REQUESTS_k9_0, .ref a_REQUESTS_k9_1, .ref a_REQUESTS_k9_2, .ref a_REQUESTS_k9_3, .ref a_REQUESTS_k9_4, .ref a_REQUESTS_k9_5] nw_REQUESTS_k9, sw_REQUESTS_k9⟩)
    (w_REQUESTS_k9_0 : K.lookup a_REQUESTS_k9_0 = some ⟨.type "tuple", ow_REQUESTS_k9_0, .seq #[.str "place" tk_REQUESTS_k9_0_0, .ref a_REQUESTS_k9_0_1, .bool false] nw_REQUESTS_k9_0, sw_REQUESTS_k9_0⟩)
    (w_REQUESTS_k9_0_1 : K.lookup a_REQUESTS_k9_0_1 = some ⟨.type "tuple", ow_REQUESTS_k9_0_1, .seq #[.str "int" tk_REQUESTS_k9_0_1_0, .str "int" tk_REQUESTS_k9_0_1_1] nw_REQUESTS_k9_0_1, sw_REQUESTS_k9_0_1⟩)
    (w_REQUESTS_k9_1 : K.lookup a_REQUESTS_k9_1 = some ⟨.type "tuple", ow_REQUESTS_k9_1, .seq #[.str "above" tk_REQUESTS_k9_1_0, .ref a_REQUESTS_k9_1_1, .bool false] nw_REQUESTS_k9_1, sw_REQUESTS_k9_1⟩)
    (w_REQUESTS_k9_1_1 : K.lookup a_REQUESTS_k9_1_1 = some ⟨.type "tuple", ow_REQUESTS_k9_1_1, .seq #[.str "object surface" tk_REQUESTS_k9_1_1_0] nw_REQUESTS_k9_1_1, sw_REQUESTS_k9_1_1⟩)
    (w_REQUESTS_k9_2 : K.lookup a_REQUESTS_k9_2 = some ⟨.type "tuple", ow_REQUESTS_k9_2, .seq #[.str "below" tk_REQUESTS_k9_2_0, .ref a_REQUESTS_k9_2_1, .bool false] nw_REQUESTS_k9_2, sw_REQUESTS_k9_2⟩)
    (w_REQUESTS_k9_2_1 : K.lookup a_REQUESTS_k9_2_1 = some ⟨.type "tuple", ow_REQUESTS_k9_2_1, .seq #[.str "object surface" tk_REQUESTS_k9_2_1_0] nw_REQUESTS_k9_2_1, sw_REQUESTS_k9_2_1⟩)
    (w_REQUESTS_k9_3 : K.lookup a_REQUESTS_k9_3 = some ⟨.type "tuple", ow_REQUESTS_k9_3, .seq #[.str "sync" tk_REQUESTS_k9_3_0, .ref a_REQUESTS_k9_3_1, .bool false] nw_REQUESTS_k9_3, sw_REQUESTS_k9_3⟩)
    (w_REQUESTS_k9_3_1 : K.lookup a_REQUESTS_k9_3_1 = some ⟨.type "tuple", ow_REQUESTS_k9_3_1, .seq #[] nw_REQUESTS_k9_3_1, sw_REQUESTS_k9_3_1⟩)
    (w_REQUESTS_k9_4 : K.lookup a_REQUESTS_k9_4 = some ⟨.type "tuple", ow_REQUESTS_k9_4, .seq #[.str "desync" tk_REQUESTS_k9_4_0, .ref a_REQUESTS_k9_4_1, .bool false] nw_REQUESTS_k9_4, sw_REQUESTS_k9_4⟩)
    (w_REQUESTS_k9_4_1 : K.lookup a_REQUESTS_k9_4_1 = some ⟨.type "tuple", ow_REQUESTS_k9_4_1, .seq #[] nw_REQUESTS_k9_4_1, sw_REQUESTS_k9_4_1⟩)
    (w_REQUESTS_k9_5 : K.lookup a_REQUESTS_k9_5 = some ⟨.type "tuple", ow_REQUESTS_k9_5, .seq #[.str "destroy" tk_REQUESTS_k9_5_0, .ref a_REQUESTS_k9_5_1, .bool true] nw_REQUESTS_k9_5, sw_REQUESTS_k9_5⟩)
    (w_REQUESTS_k9_5_1 : K.lookup a_REQUESTS_k9_5_1 = some ⟨.type "tuple", ow_REQUESTS_k9_5_1, .seq #[] nw_REQUESTS_k9_5_1, sw_REQUESTS_k9_5_1⟩)
    (w_REQUESTS_k10 : K.lookup a_REQUESTS_k10 = some ⟨.type "tuple", ow_REQUESTS_k10, .seq #[.ref a_REQUESTS_k10_0] nw_REQUESTS_k10, sw_REQUESTS_k10⟩)
    (w_REQUESTS_k10_0 : K.lookup a_REQUESTS_k10_0 = some ⟨.type "tuple", ow_REQUESTS_k10_0, .seq #[.str "destroy" tk_REQUESTS_k10_0_0, .ref a_REQUESTS_k10_0_1, .bool true] nw_REQUESTS_k10_0, sw_REQUESTS_k10_0⟩)
    (w_REQUESTS_k10_0_1 : K.lookup a_REQUESTS_k10_0_1 = some ⟨.type "tuple", ow_REQUESTS_k10_0_1, .seq #[] nw_REQUESTS_k10_0_1, sw_REQUESTS_k10_0_1⟩)
    (w_REQUESTS_k11 : K.lookup a_REQUESTS_k11 = some ⟨.type "tuple", ow_REQUESTS_k11, .seq #[.ref a_REQUESTS_k11_0, .ref a_REQUESTS_k11_1] nw_REQUESTS_k11, sw_REQUESTS_k11⟩)
    (w_REQUESTS_k11_0 : K.lookup a_REQUESTS_k11_0 = some ⟨.type "tuple", ow_REQUESTS_k11_0, .seq #[.str "window" tk_REQUESTS_k11_0_0, .ref a_REQUESTS_k11_0_1, .bool false] nw_REQUESTS_k11_0, sw_REQUESTS_k11_0⟩)
    (w_REQUESTS_k11_0_1 : K.lookup a_REQUESTS_k11_0_1 = some ⟨.type "tuple", ow_REQUESTS_k11_0_1, .seq #[.str "new window" tk_REQUESTS_k11_0_1_0, .str "object surface" tk_REQUESTS_k11_0_1_1] nw_REQUESTS_k11_0_1, sw_REQUESTS_k11_0_1⟩)
    (w_REQUESTS_k11_1 : K.lookup a_REQUESTS_k11_1 = some ⟨.type "tuple", ow_REQUESTS_k11_1, .seq #[.str "popup" tk_REQUESTS_k11_1_0, .ref a_REQUESTS_k11_1_1, .bool false] nw_REQUESTS_k11_1, sw_REQUESTS_k11_1⟩)
    (w_REQUESTS_k11_1_1 : K.lookup a_REQUESTS_k11_1_1 = some ⟨.type "tuple", ow_REQUESTS_k11_1_1, .seq #[.str "new popup" tk_REQUESTS_k11_1_1_0, .str "object surface" tk_REQUESTS_k11_1_1_1, .str "object window|popup" tk_REQUESTS_k11_1_1_2, .str "int" tk_REQUESTS_k11_1_1_3, .str "int" tk_REQUESTS_k11_1_1_4, .str "int" tk_REQUESTS_k11_1_1_5, .str "int" tk_REQUESTS_k11_1_1_6, .str "int" tk_REQUESTS_k11_1_1_7, .str "int" tk_REQUESTS_k11_1_1_8, .str "int" tk_REQUESTS_k11_1_1_9, .str "int" tk_REQUESTS_k11_1_1_10, .str "uint" tk_REQUESTS_k11_1_1_11, .str "uint" tk_REQUESTS_k11_1_1_12, .str "int" tk_REQUESTS_k11_1_1_13, .str "int" tk_REQUESTS_k11_1_1_14, .str "uint" tk_REQUESTS_k11_1_1_15, .str "uint" tk_REQUESTS_k11_1_1_16] nw_REQUESTS_k11_1_1, sw_REQUESTS_k11_1_1⟩)
    (w_REQUESTS_k12 : K.lookup a_REQUESTS_k12 = some ⟨.type "tuple", ow_REQUESTS_k12, .seq #[.ref a_REQUESTS_k12_0, .ref a_REQUESTS_k12_1, .ref a_REQUESTS_k12_2, .ref a_REQUESTS_k12_3, .ref a_REQUESTS_k12_4, .ref a_REQUESTS_k12_5, .ref a_REQUESTS_k12_6, .ref a_REQUESTS_k12_7, .ref a_REQUESTS_k12_8, .ref a_REQUESTS_k12_9, .ref a_REQUESTS_k12_10, .ref a_REQUESTS_k12_11] nw_REQUESTS_k12, sw_REQUESTS_k12⟩)
    (w_REQUESTS_k12_0 : K.lookup a_REQUESTS_k12_0 = some ⟨.type "tuple", ow_REQUESTS_k12_0, .seq #[.str "destroy" tk_REQUESTS_k12_0_0, .ref a_REQUESTS_k12_0_1, .bool true] nw_REQUESTS_k12_0, sw_REQUESTS_k12_0⟩)
    (w_REQUESTS_k12_0_1 : K.lookup a_REQUESTS_k12_0_1 = some ⟨.type "tuple", ow_REQUESTS_k12_0_1, .seq #[] nw_REQUESTS_k12_0_1, sw_REQUESTS_k12_0_1⟩)
    (w_REQUESTS_k12_1 : K.lookup a_REQUESTS_k12_1 = some ⟨.type "tuple", ow_REQUESTS_k12_1, .seq #[.str "title" tk_REQUESTS_k12_1_0, .ref a_REQUESTS_k12_1_1, .bool false] nw_REQUESTS_k12_1, sw_REQUESTS_k12_1⟩)
    (w_REQUESTS_k12_1_1 : K.lookup a_REQUESTS_k12_1_1 = some ⟨.type "tuple", ow_REQUESTS_k12_1_1, .seq #[.str "text" tk_REQUESTS_k12_1_1_0] nw_REQUESTS_k12_1_1, sw_REQUESTS_k12_1_1⟩)
    (w_REQUESTS_k12_2 : K.lookup a_REQUESTS_k12_2 = some ⟨.type "tuple", ow_REQUESTS_k12_2, .seq #[.str "name" tk_REQUESTS_k12_2_0, .ref a_REQUESTS_k12_2_1, .bool false] nw_REQUESTS_k12_2, sw_REQUESTS_k12_2⟩)
    (w_REQUESTS_k12_2_1 : K.lookup a_REQUESTS_k12_2_1 = some ⟨.type "tuple", ow_REQUESTS_k12_2_1, .seq #[.str "text" tk_REQUESTS_k12_2_1_0] nw_REQUESTS_k12_2_1, sw_REQUESTS_k12_2_1⟩)
    (w_REQUESTS_k12_3 : K.lookup a_REQUESTS_k12_3 = some ⟨.type "tuple", ow_REQUESTS_k12_3, .seq #[.str "least" tk_REQUESTS_k12_3_0, .ref a_REQUESTS_k12_3_1, .bool false] nw_REQUESTS_k12_3, sw_REQUESTS_k12_3⟩)
    (w_REQUESTS_k12_3_1 : K.lookup a_REQUESTS_k12_3_1 = some ⟨.type "tuple", ow_REQUESTS_k12_3_1, .seq #[.str "uint" tk_REQUESTS_k12_3_1_0, .str "uint" tk_REQUESTS_k12_3_1_1] nw_REQUESTS_k12_3_1, sw_REQUESTS_k12_3_1⟩)
    (w_REQUESTS_k12_4 : K.lookup a_REQUESTS_k12_4 = some ⟨.type "tuple", ow_REQUESTS_k12_4, .seq #[.str "largest" tk_REQUESTS_k12_4_0, .ref a_REQUESTS_k12_4_1, .bool false] nw_REQUESTS_k12_4, sw_REQUESTS_k12_4⟩)
    (w_REQUESTS_k12_4_1 : K.lookup a_REQUESTS_k12_4_1 = some ⟨.type "tuple", ow_REQUESTS_k12_4_1, .seq #[.str "uint" tk_REQUESTS_k12_4_1_0, .str "uint" tk_REQUESTS_k12_4_1_1] nw_REQUESTS_k12_4_1, sw_REQUESTS_k12_4_1⟩)
    (w_REQUESTS_k12_5 : K.lookup a_REQUESTS_k12_5 = some ⟨.type "tuple", ow_REQUESTS_k12_5, .seq #[.str "ack" tk_REQUESTS_k12_5_0, .ref a_REQUESTS_k12_5_1, .bool false] nw_REQUESTS_k12_5, sw_REQUESTS_k12_5⟩)
    (w_REQUESTS_k12_5_1 : K.lookup a_REQUESTS_k12_5_1 = some ⟨.type "tuple", ow_REQUESTS_k12_5_1, .seq #[.str "uint" tk_REQUESTS_k12_5_1_0] nw_REQUESTS_k12_5_1, sw_REQUESTS_k12_5_1⟩)
    (w_REQUESTS_k12_6 : K.lookup a_REQUESTS_k12_6 = some ⟨.type "tuple", ow_REQUESTS_k12_6, .seq #[.str "map_with" tk_REQUESTS_k12_6_0, .ref a_REQUESTS_k12_6_1, .bool false] nw_REQUESTS_k12_6, sw_REQUESTS_k12_6⟩)
    (w_REQUESTS_k12_6_1 : K.lookup a_REQUESTS_k12_6_1 = some ⟨.type "tuple", ow_REQUESTS_k12_6_1, .seq #[.str "uint" tk_REQUESTS_k12_6_1_0] nw_REQUESTS_k12_6_1, sw_REQUESTS_k12_6_1⟩)
    (w_REQUESTS_k12_7 : K.lookup a_REQUESTS_k12_7 = some ⟨.type "tuple", ow_REQUESTS_k12_7, .seq #[.str "smaller" tk_REQUESTS_k12_7_0, .ref a_REQUESTS_k12_7_1, .bool false] nw_REQUESTS_k12_7, sw_REQUESTS_k12_7⟩)
    (w_REQUESTS_k12_7_1 : K.lookup a_REQUESTS_k12_7_1 = some ⟨.type "tuple", ow_REQUESTS_k12_7_1, .seq #[.str "uint" tk_REQUESTS_k12_7_1_0, .str "uint" tk_REQUESTS_k12_7_1_1] nw_REQUESTS_k12_7_1, sw_REQUESTS_k12_7_1⟩)
    (w_REQUESTS_k12_8 : K.lookup a_REQUESTS_k12_8 = some ⟨.type "tuple", ow_REQUESTS_k12_8, .seq #[.str "grow" tk_REQUESTS_k12_8_0, .ref a_REQUESTS_k12_8_1, .bool false] nw_REQUESTS_k12_8, sw_REQUESTS_k12_8⟩)
    (w_REQUESTS_k12_8_1 : K.lookup a_REQUESTS_k12_8_1 = some ⟨.type "tuple", ow_REQUESTS_k12_8_1, .seq #[.str "uint" tk_REQUESTS_k12_8_1_0, .str "uint" tk_REQUESTS_k12_8_1_1, .str "uint" tk_REQUESTS_k12_8_1_2] nw_REQUESTS_k12_8_1, sw_REQUESTS_k12_8_1⟩)
    (w_REQUESTS_k12_9 : K.lookup a_REQUESTS_k12_9 = some ⟨.type "tuple", ow_REQUESTS_k12_9, .seq #[.str "raise" tk_REQUESTS_k12_9_0, .ref a_REQUESTS_k12_9_1, .bool false] nw_REQUESTS_k12_9, sw_REQUESTS_k12_9⟩)
    (w_REQUESTS_k12_9_1 : K.lookup a_REQUESTS_k12_9_1 = some ⟨.type "tuple", ow_REQUESTS_k12_9_1, .seq #[.str "uint" tk_REQUESTS_k12_9_1_0] nw_REQUESTS_k12_9_1, sw_REQUESTS_k12_9_1⟩)
    (w_REQUESTS_k12_10 : K.lookup a_REQUESTS_k12_10 = some ⟨.type "tuple", ow_REQUESTS_k12_10, .seq #[.str "maximize" tk_REQUESTS_k12_10_0, .ref a_REQUESTS_k12_10_1, .bool false] nw_REQUESTS_k12_10, sw_REQUESTS_k12_10⟩)
    (w_REQUESTS_k12_10_1 : K.lookup a_REQUESTS_k12_10_1 = some ⟨.type "tuple", ow_REQUESTS_k12_10_1, .seq #[.str "uint" tk_REQUESTS_k12_10_1_0] nw_REQUESTS_k12_10_1, sw_REQUESTS_k12_10_1⟩)
    (w_REQUESTS_k12_11 : K.lookup a_REQUESTS_k12_11 = some ⟨.type "tuple", ow_REQUESTS_k12_11, .seq #[.str "restore" tk_REQUESTS_k12_11_0, .ref a_REQUESTS_k12_11_1, .bool false] nw_REQUESTS_k12_11, sw_REQUESTS_k12_11⟩)
    (w_REQUESTS_k12_11_1 : K.lookup a_REQUESTS_k12_11_1 = some ⟨.type "tuple", ow_REQUESTS_k12_11_1, .seq #[] nw_REQUESTS_k12_11_1, sw_REQUESTS_k12_11_1⟩)
    (w_REQUESTS_k13 : K.lookup a_REQUESTS_k13 = some ⟨.type "tuple", ow_REQUESTS_k13, .seq #[.ref a_REQUESTS_k13_0, .ref a_REQUESTS_k13_1] nw_REQUESTS_k13, sw_REQUESTS_k13⟩)
    (w_REQUESTS_k13_0 : K.lookup a_REQUESTS_k13_0 = some ⟨.type "tuple", ow_REQUESTS_k13_0, .seq #[.str "destroy" tk_REQUESTS_k13_0_0, .ref a_REQUESTS_k13_0_1, .bool true] nw_REQUESTS_k13_0, sw_REQUESTS_k13_0⟩)
    (w_REQUESTS_k13_0_1 : K.lookup a_REQUESTS_k13_0_1 = some ⟨.type "tuple", ow_REQUESTS_k13_0_1, .seq #[] nw_REQUESTS_k13_0_1, sw_REQUESTS_k13_0_1⟩)
    (w_REQUESTS_k13_1 : K.lookup a_REQUESTS_k13_1 = some ⟨.type "tuple", ow_REQUESTS_k13_1, .seq #[.str "place" tk_REQUESTS_k13_1_0, .ref a_REQUESTS_k13_1_1, .bool false] nw_REQUESTS_k13_1, sw_REQUESTS_k13_1⟩)
    (w_REQUESTS_k13_1_1 : K.lookup a_REQUESTS_k13_1_1 = some ⟨.type "tuple", ow_REQUESTS_k13_1_1, .seq #[.str "int" tk_REQUESTS_k13_1_1_0, .str "int" tk_REQUESTS_k13_1_1_1, .str "int" tk_REQUESTS_k13_1_1_2, .str "int" tk_REQUESTS_k13_1_1_3, .str "int" tk_REQUESTS_k13_1_1_4, .str "int" tk_REQUESTS_k13_1_1_5, .str "int" tk_REQUESTS_k13_1_1_6, .str "int" tk_REQUESTS_k13_1_1_7, .str "uint" tk_REQUESTS_k13_1_1_8, .str "uint" tk_REQUESTS_k13_1_1_9, .str "int" tk_REQUESTS_k13_1_1_10, .str "int" tk_REQUESTS_k13_1_1_11, .str "uint" tk_REQUESTS_k13_1_1_12] nw_REQUESTS_k13_1_1, sw_REQUESTS_k13_1_1⟩)
    (w_REQUESTS_k14 : K.lookup a_REQUESTS_k14 = some ⟨.type "tuple", ow_REQUESTS_k14, .seq #[.ref a_REQUESTS_k14_0, .ref a_REQUESTS_k14_1] nw_REQUESTS_k14, sw_REQUESTS_k14⟩)
    (w_REQUESTS_k14_0 : K.lookup a_REQUESTS_k14_0 = some ⟨.type "tuple", ow_REQUESTS_k14_0, .seq #[.str "pointer" tk_REQUESTS_k14_0_0, .ref a_REQUESTS_k14_0_1, .bool false] nw_REQUESTS_k14_0, sw_REQUESTS_k14_0⟩)
    (w_REQUESTS_k14_0_1 : K.lookup a_REQUESTS_k14_0_1 = some ⟨.type "tuple", ow_REQUESTS_k14_0_1, .seq #[.str "new pointer" tk_REQUESTS_k14_0_1_0] nw_REQUESTS_k14_0_1, sw_REQUESTS_k14_0_1⟩)
    (w_REQUESTS_k14_1 : K.lookup a_REQUESTS_k14_1 = some ⟨.type "tuple", ow_REQUESTS_k14_1, .seq #[.str "keyboard" tk_REQUESTS_k14_1_0, .ref a_REQUESTS_k14_1_1, .bool false] nw_REQUESTS_k14_1, sw_REQUESTS_k14_1⟩)
    (w_REQUESTS_k14_1_1 : K.lookup a_REQUESTS_k14_1_1 = some ⟨.type "tuple", ow_REQUESTS_k14_1_1, .seq #[.str "new keyboard" tk_REQUESTS_k14_1_1_0] nw_REQUESTS_k14_1_1, sw_REQUESTS_k14_1_1⟩)
    (w_REQUESTS_k15 : K.lookup a_REQUESTS_k15 = some ⟨.type "tuple", ow_REQUESTS_k15, .seq #[.ref a_REQUESTS_k15_0, .ref a_REQUESTS_k15_1] nw_REQUESTS_k15, sw_REQUESTS_k15⟩)
    (w_REQUESTS_k15_0 : K.lookup a_REQUESTS_k15_0 = some ⟨.type "tuple", ow_REQUESTS_k15_0, .seq #[.str "destroy" tk_REQUESTS_k15_0_0, .ref a_REQUESTS_k15_0_1, .bool true] nw_REQUESTS_k15_0, sw_REQUESTS_k15_0⟩)
    (w_REQUESTS_k15_0_1 : K.lookup a_REQUESTS_k15_0_1 = some ⟨.type "tuple", ow_REQUESTS_k15_0_1, .seq #[] nw_REQUESTS_k15_0_1, sw_REQUESTS_k15_0_1⟩)
    (w_REQUESTS_k15_1 : K.lookup a_REQUESTS_k15_1 = some ⟨.type "tuple", ow_REQUESTS_k15_1, .seq #[.str "cursor" tk_REQUESTS_k15_1_0, .ref a_REQUESTS_k15_1_1, .bool false] nw_REQUESTS_k15_1, sw_REQUESTS_k15_1⟩)
    (w_REQUESTS_k15_1_1 : K.lookup a_REQUESTS_k15_1_1 = some ⟨.type "tuple", ow_REQUESTS_k15_1_1, .seq #[.str "uint" tk_REQUESTS_k15_1_1_0] nw_REQUESTS_k15_1_1, sw_REQUESTS_k15_1_1⟩)
    (w_REQUESTS_k16 : K.lookup a_REQUESTS_k16 = some ⟨.type "tuple", ow_REQUESTS_k16, .seq #[.ref a_REQUESTS_k16_0] nw_REQUESTS_k16, sw_REQUESTS_k16⟩)
    (w_REQUESTS_k16_0 : K.lookup a_REQUESTS_k16_0 = some ⟨.type "tuple", ow_REQUESTS_k16_0, .seq #[.str "destroy" tk_REQUESTS_k16_0_0, .ref a_REQUESTS_k16_0_1, .bool true] nw_REQUESTS_k16_0, sw_REQUESTS_k16_0⟩)
    (w_REQUESTS_k16_0_1 : K.lookup a_REQUESTS_k16_0_1 = some ⟨.type "tuple", ow_REQUESTS_k16_0_1, .seq #[] nw_REQUESTS_k16_0_1, sw_REQUESTS_k16_0_1⟩)
    (w_REQUESTS_k17 : K.lookup a_REQUESTS_k17 = some ⟨.type "tuple", ow_REQUESTS_k17, .seq #[.ref a_REQUESTS_k17_0, .ref a_REQUESTS_k17_1, .ref a_REQUESTS_k17_2, .ref a_REQUESTS_k17_3, .ref a_REQUESTS_k17_4, .ref a_REQUESTS_k17_5, .ref a_REQUESTS_k17_6, .ref a_REQUESTS_k17_7, .ref a_REQUESTS_k17_8] nw_REQUESTS_k17, sw_REQUESTS_k17⟩)
    (w_REQUESTS_k17_0 : K.lookup a_REQUESTS_k17_0 = some ⟨.type "tuple", ow_REQUESTS_k17_0, .seq #[.str "source" tk_REQUESTS_k17_0_0, .ref a_REQUESTS_k17_0_1, .bool false] nw_REQUESTS_k17_0, sw_REQUESTS_k17_0⟩)
    (w_REQUESTS_k17_0_1 : K.lookup a_REQUESTS_k17_0_1 = some ⟨.type "tuple", ow_REQUESTS_k17_0_1, .seq #[.str "new source" tk_REQUESTS_k17_0_1_0] nw_REQUESTS_k17_0_1, sw_REQUESTS_k17_0_1⟩)
    (w_REQUESTS_k17_1 : K.lookup a_REQUESTS_k17_1 = some ⟨.type "tuple", ow_REQUESTS_k17_1, .seq #[.str "give" tk_REQUESTS_k17_1_0, .ref a_REQUESTS_k17_1_1, .bool false] nw_REQUESTS_k17_1, sw_REQUESTS_k17_1⟩)
    (w_REQUESTS_k17_1_1 : K.lookup a_REQUESTS_k17_1_1 = some ⟨.type "tuple", ow_REQUESTS_k17_1_1, .seq #[.str "object source" tk_REQUESTS_k17_1_1_0, .str "uint" tk_REQUESTS_k17_1_1_1, .str "uint" tk_REQUESTS_k17_1_1_2] nw_REQUESTS_k17_1_1, sw_REQUESTS_k17_1_1⟩)
    (w_REQUESTS_k17_2 : K.lookup a_REQUESTS_k17_2 = some ⟨.type "tuple", ow_REQUESTS_k17_2, .seq #[.str "drag" tk_REQUESTS_k17_2_0, .ref a_REQUESTS_k17_2_1, .bool false] nw_REQUESTS_k17_2, sw_REQUESTS_k17_2⟩)
    (w_REQUESTS_k17_2_1 : K.lookup a_REQUESTS_k17_2_1 = some ⟨.type "tuple", ow_REQUESTS_k17_2_1, .seq #[.str "object source" tk_REQUESTS_k17_2_1_0, .str "uint" tk_REQUESTS_k17_2_1_1] nw_REQUESTS_k17_2_1, sw_REQUESTS_k17_2_1⟩)
    (w_REQUESTS_k17_3 : K.lookup a_REQUESTS_k17_3 = some ⟨.type "tuple", ow_REQUESTS_k17_3, .seq #[.str "send" tk_REQUESTS_k17_3_0, .ref a_REQUESTS_k17_3_1, .bool false] nw_REQUESTS_k17_3, sw_REQUESTS_k17_3⟩)
    (w_REQUESTS_k17_3_1 : K.lookup a_REQUESTS_k17_3_1 = some ⟨.type "tuple", ow_REQUESTS_k17_3_1, .seq #[.str "text" tk_REQUESTS_k17_3_1_0, .str "octets" tk_REQUESTS_k17_3_1_1] nw_REQUESTS_k17_3_1, sw_REQUESTS_k17_3_1⟩)
    (w_REQUESTS_k17_4 : K.lookup a_REQUESTS_k17_4 = some ⟨.type "tuple", ow_REQUESTS_k17_4, .seq #[.str "unsend" tk_REQUESTS_k17_4_0, .ref a_REQUESTS_k17_4_1, .bool false] nw_REQUESTS_k17_4, sw_REQUESTS_k17_4⟩)
    (w_REQUESTS_k17_4_1 : K.lookup a_REQUESTS_k17_4_1 = some ⟨.type "tuple", ow_REQUESTS_k17_4_1, .seq #[.str "text" tk_REQUESTS_k17_4_1_0] nw_REQUESTS_k17_4_1, sw_REQUESTS_k17_4_1⟩)
    (w_REQUESTS_k17_5 : K.lookup a_REQUESTS_k17_5 = some ⟨.type "tuple", ow_REQUESTS_k17_5, .seq #[.str "ask" tk_REQUESTS_k17_5_0, .ref a_REQUESTS_k17_5_1, .bool false] nw_REQUESTS_k17_5, sw_REQUESTS_k17_5⟩)
    (w_REQUESTS_k17_5_1 : K.lookup a_REQUESTS_k17_5_1 = some ⟨.type "tuple", ow_REQUESTS_k17_5_1, .seq #[.str "new capture" tk_REQUESTS_k17_5_1_0, .str "object output" tk_REQUESTS_k17_5_1_1, .str "int" tk_REQUESTS_k17_5_1_2, .str "int" tk_REQUESTS_k17_5_1_3, .str "uint" tk_REQUESTS_k17_5_1_4, .str "uint" tk_REQUESTS_k17_5_1_5] nw_REQUESTS_k17_5_1, sw_REQUESTS_k17_5_1⟩)
    (w_REQUESTS_k17_6 : K.lookup a_REQUESTS_k17_6 = some ⟨.type "tuple", ow_REQUESTS_k17_6, .seq #[.str "fetch" tk_REQUESTS_k17_6_0, .ref a_REQUESTS_k17_6_1, .bool false] nw_REQUESTS_k17_6, sw_REQUESTS_k17_6⟩)
    (w_REQUESTS_k17_6_1 : K.lookup a_REQUESTS_k17_6_1 = some ⟨.type "tuple", ow_REQUESTS_k17_6_1, .seq #[.str "new fetch" tk_REQUESTS_k17_6_1_0, .str "text" tk_REQUESTS_k17_6_1_1] nw_REQUESTS_k17_6_1, sw_REQUESTS_k17_6_1⟩)
    (w_REQUESTS_k17_7 : K.lookup a_REQUESTS_k17_7 = some ⟨.type "tuple", ow_REQUESTS_k17_7, .seq #[.str "watch" tk_REQUESTS_k17_7_0, .ref a_REQUESTS_k17_7_1, .bool false] nw_REQUESTS_k17_7, sw_REQUESTS_k17_7⟩)
    (w_REQUESTS_k17_7_1 : K.lookup a_REQUESTS_k17_7_1 = some ⟨.type "tuple", ow_REQUESTS_k17_7_1, .seq #[.str "new watch" tk_REQUESTS_k17_7_1_0, .str "text" tk_REQUESTS_k17_7_1_1] nw_REQUESTS_k17_7_1, sw_REQUESTS_k17_7_1⟩)
    (w_REQUESTS_k17_8 : K.lookup a_REQUESTS_k17_8 = some ⟨.type "tuple", ow_REQUESTS_k17_8, .seq #[.str "destroy" tk_REQUESTS_k17_8_0, .ref a_REQUESTS_k17_8_1, .bool true] nw_REQUESTS_k17_8, sw_REQUESTS_k17_8⟩)
    (w_REQUESTS_k17_8_1 : K.lookup a_REQUESTS_k17_8_1 = some ⟨.type "tuple", ow_REQUESTS_k17_8_1, .seq #[] nw_REQUESTS_k17_8_1, sw_REQUESTS_k17_8_1⟩)
    (w_REQUESTS_k18 : K.lookup a_REQUESTS_k18 = some ⟨.type "tuple", ow_REQUESTS_k18, .seq #[.ref a_REQUESTS_k18_0, .ref a_REQUESTS_k18_1] nw_REQUESTS_k18, sw_REQUESTS_k18⟩)
    (w_REQUESTS_k18_0 : K.lookup a_REQUESTS_k18_0 = some ⟨.type "tuple", ow_REQUESTS_k18_0, .seq #[.str "write" tk_REQUESTS_k18_0_0, .ref a_REQUESTS_k18_0_1, .bool false] nw_REQUESTS_k18_0, sw_REQUESTS_k18_0⟩)
    (w_REQUESTS_k18_0_1 : K.lookup a_REQUESTS_k18_0_1 = some ⟨.type "tuple", ow_REQUESTS_k18_0_1, .seq #[.str "text" tk_REQUESTS_k18_0_1_0, .str "octets" tk_REQUESTS_k18_0_1_1] nw_REQUESTS_k18_0_1, sw_REQUESTS_k18_0_1⟩)
    (w_REQUESTS_k18_1 : K.lookup a_REQUESTS_k18_1 = some ⟨.type "tuple", ow_REQUESTS_k18_1, .seq #[.str "destroy" tk_REQUESTS_k18_1_0, .ref a_REQUESTS_k18_1_1, .bool true] nw_REQUESTS_k18_1, sw_REQUESTS_k18_1⟩)
    (w_REQUESTS_k18_1_1 : K.lookup a_REQUESTS_k18_1_1 = some ⟨.type "tuple", ow_REQUESTS_k18_1_1, .seq #[] nw_REQUESTS_k18_1_1, sw_REQUESTS_k18_1_1⟩)
    (w_REQUESTS_k19 : K.lookup a_REQUESTS_k19 = some ⟨.type "tuple", ow_REQUESTS_k19, .seq #[.ref a_REQUESTS_k19_0, .ref a_REQUESTS_k19_1] nw_REQUESTS_k19, sw_REQUESTS_k19⟩)
    (w_REQUESTS_k19_0 : K.lookup a_REQUESTS_k19_0 = some ⟨.type "tuple", ow_REQUESTS_k19_0, .seq #[.str "read" tk_REQUESTS_k19_0_0, .ref a_REQUESTS_k19_0_1, .bool false] nw_REQUESTS_k19_0, sw_REQUESTS_k19_0⟩)
    (w_REQUESTS_k19_0_1 : K.lookup a_REQUESTS_k19_0_1 = some ⟨.type "tuple", ow_REQUESTS_k19_0_1, .seq #[.str "text" tk_REQUESTS_k19_0_1_0, .str "uint" tk_REQUESTS_k19_0_1_1, .str "uint" tk_REQUESTS_k19_0_1_2] nw_REQUESTS_k19_0_1, sw_REQUESTS_k19_0_1⟩)
    (w_REQUESTS_k19_1 : K.lookup a_REQUESTS_k19_1 = some ⟨.type "tuple", ow_REQUESTS_k19_1, .seq #[.str "destroy" tk_REQUESTS_k19_1_0, .ref a_REQUESTS_k19_1_1, .bool true] nw_REQUESTS_k19_1, sw_REQUESTS_k19_1⟩)
    (w_REQUESTS_k19_1_1 : K.lookup a_REQUESTS_k19_1_1 = some ⟨.type "tuple", ow_REQUESTS_k19_1_1, .seq #[] nw_REQUESTS_k19_1_1, sw_REQUESTS_k19_1_1⟩)
    (w_REQUESTS_k20 : K.lookup a_REQUESTS_k20 = some ⟨.type "tuple", ow_REQUESTS_k20, .seq #[.ref a_REQUESTS_k20_0, .ref a_REQUESTS_k20_1] nw_REQUESTS_k20, sw_REQUESTS_k20⟩)
    (w_REQUESTS_k20_0 : K.lookup a_REQUESTS_k20_0 = some ⟨.type "tuple", ow_REQUESTS_k20_0, .seq #[.str "read" tk_REQUESTS_k20_0_0, .ref a_REQUESTS_k20_0_1, .bool false] nw_REQUESTS_k20_0, sw_REQUESTS_k20_0⟩)
    (w_REQUESTS_k20_0_1 : K.lookup a_REQUESTS_k20_0_1 = some ⟨.type "tuple", ow_REQUESTS_k20_0_1, .seq #[.str "uint" tk_REQUESTS_k20_0_1_0, .str "uint" tk_REQUESTS_k20_0_1_1] nw_REQUESTS_k20_0_1, sw_REQUESTS_k20_0_1⟩)
    (w_REQUESTS_k20_1 : K.lookup a_REQUESTS_k20_1 = some ⟨.type "tuple", ow_REQUESTS_k20_1, .seq #[.str "destroy" tk_REQUESTS_k20_1_0, .ref a_REQUESTS_k20_1_1, .bool true] nw_REQUESTS_k20_1, sw_REQUESTS_k20_1⟩)
    (w_REQUESTS_k20_1_1 : K.lookup a_REQUESTS_k20_1_1 = some ⟨.type "tuple", ow_REQUESTS_k20_1_1, .seq #[] nw_REQUESTS_k20_1_1, sw_REQUESTS_k20_1_1⟩)
    (w_REQUESTS_k21 : K.lookup a_REQUESTS_k21 = some ⟨.type "tuple", ow_REQUESTS_k21, .seq #[.ref a_REQUESTS_k21_0, .ref a_REQUESTS_k21_1] nw_REQUESTS_k21, sw_REQUESTS_k21⟩)
    (w_REQUESTS_k21_0 : K.lookup a_REQUESTS_k21_0 = some ⟨.type "tuple", ow_REQUESTS_k21_0, .seq #[.str "read" tk_REQUESTS_k21_0_0, .ref a_REQUESTS_k21_0_1, .bool false] nw_REQUESTS_k21_0, sw_REQUESTS_k21_0⟩)
    (w_REQUESTS_k21_0_1 : K.lookup a_REQUESTS_k21_0_1 = some ⟨.type "tuple", ow_REQUESTS_k21_0_1, .seq #[.str "uint" tk_REQUESTS_k21_0_1_0, .str "uint" tk_REQUESTS_k21_0_1_1] nw_REQUESTS_k21_0_1, sw_REQUESTS_k21_0_1⟩)
    (w_REQUESTS_k21_1 : K.lookup a_REQUESTS_k21_1 = some ⟨.type "tuple", ow_REQUESTS_k21_1, .seq #[.str "destroy" tk_REQUESTS_k21_1_0, .ref a_REQUESTS_k21_1_1, .bool true] nw_REQUESTS_k21_1, sw_REQUESTS_k21_1⟩)
    (w_REQUESTS_k21_1_1 : K.lookup a_REQUESTS_k21_1_1 = some ⟨.type "tuple", ow_REQUESTS_k21_1_1, .seq #[] nw_REQUESTS_k21_1_1, sw_REQUESTS_k21_1_1⟩)
    (w_REQUESTS_k22 : K.lookup a_REQUESTS_k22 = some ⟨.type "tuple", ow_REQUESTS_k22, .seq #[.ref a_REQUESTS_k22_0] nw_REQUESTS_k22, sw_REQUESTS_k22⟩)
    (w_REQUESTS_k22_0 : K.lookup a_REQUESTS_k22_0 = some ⟨.type "tuple", ow_REQUESTS_k22_0, .seq #[.str "destroy" tk_REQUESTS_k22_0_0, .ref a_REQUESTS_k22_0_1, .bool true] nw_REQUESTS_k22_0, sw_REQUESTS_k22_0⟩)
    (w_REQUESTS_k22_0_1 : K.lookup a_REQUESTS_k22_0_1 = some ⟨.type "tuple", ow_REQUESTS_k22_0_1, .seq #[] nw_REQUESTS_k22_0_1, sw_REQUESTS_k22_0_1⟩)
    (uObjects : PySem.W.nsIn K mainGlobals "Objects" = some (some (.ref CObjects)))
    (pgObjects : PySem.W.plainGet K CObjects Str.empty = true) (hdObjects : PySem.W.hasDictIn K CObjects = true) (poObjects : PySem.W.plainOver K CObjects = true) (saObjects : PySem.W.findIn K (.ref CObjects) "__setattr__" = some (some (.builtin "object.__setattr__"))) (mkObjects : PySem.W.makesIn K CObjects = true) (kcObjects : PySem.W.keepIn K (.ref CObjects) = true)
    (nObjects__interfaces : PySem.W.findIn K (.ref CObjects) "_interfaces" = some none)
    (nObjects__next_made : PySem.W.findIn K (.ref CObjects) "_next_made" = some none)
    (uRequest : PySem.W.nsIn K mainGlobals "Request" = some (some (.ref CRequest)))
    (pgRequest : PySem.W.plainGet K CRequest Str.empty = true) (hdRequest : PySem.W.hasDictIn K CRequest = true) (poRequest : PySem.W.plainOver K CRequest = true) (saRequest : PySem.W.findIn K (.ref CRequest) "__setattr__" = some (some (.builtin "object.__setattr__"))) (mkRequest : PySem.W.makesIn K CRequest = true) (kcRequest : PySem.W.keepIn K (.ref CRequest) = true)
    (nRequest_number : PySem.W.findIn K (.ref CRequest) "number" = some none)
    (nRequest_interface : PySem.W.findIn K (.ref CRequest) "interface" = some none)
    (nRequest_name : PySem.W.findIn K (.ref CRequest) "name" = some none)
    (nRequest_arguments : PySem.W.findIn K (.ref CRequest) "arguments" = some none)
    (nRequest_ends : PySem.W.findIn K (.ref CRequest) "ends" = some none)
    (uBadMessage : PySem.W.nsIn K mainGlobals "BadMessage" = some (some (.ref CBadMessage))) (xBadMessage : PySem.W.excIn K CBadMessage [.type "ValueError", .type "Exception", .type "BaseException", .type "object"] "ValueError.__new__" = true) (keBadMessage : PySem.W.keepIn K (.ref CBadMessage) = true) (bxBadMessage : PySem.W.subIn K (.ref CBadMessage) (.type "BaseException") = some true) (txBadMessage : PySem.W.typeIn K (.ref CBadMessage) = some (.type "type")) (ixBadMessage : PySem.W.isClsIn K CBadMessage = true) (sxBadMessage : PySem.W.subIn K (.ref CBadMessage) (.ref CBadMessage) = some true)
    (uMessageTooLong : PySem.W.nsIn K mainGlobals "MessageTooLong" = some (some (.ref CMessageTooLong))) (xMessageTooLong : PySem.W.excIn K CMessageTooLong [.type "ValueError", .type "Exception", .type "BaseException", .type "object"] "ValueError.__new__" = true) (keMessageTooLong : PySem.W.keepIn K (.ref CMessageTooLong) = true) (bxMessageTooLong : PySem.W.subIn K (.ref CMessageTooLong) (.type "BaseException") = some true) (txMessageTooLong : PySem.W.typeIn K (.ref CMessageTooLong) = some (.type "type")) (ixMessageTooLong : PySem.W.isClsIn K CMessageTooLong = true) (sxMessageTooLong : PySem.W.subIn K (.ref CMessageTooLong) (.ref CMessageTooLong) = some true)
    (uBadLength : PySem.W.nsIn K mainGlobals "BadLength" = some (some (.ref CBadLength))) (xBadLength : PySem.W.excIn K CBadLength [.type "ValueError", .type "Exception", .type "BaseException", .type "object"] "ValueError.__new__" = true) (keBadLength : PySem.W.keepIn K (.ref CBadLength) = true) (bxBadLength : PySem.W.subIn K (.ref CBadLength) (.type "BaseException") = some true) (txBadLength : PySem.W.typeIn K (.ref CBadLength) = some (.type "type")) (ixBadLength : PySem.W.isClsIn K CBadLength = true) (sxBadLength : PySem.W.subIn K (.ref CBadLength) (.ref CBadLength) = some true)
    (uBadText : PySem.W.nsIn K mainGlobals "BadText" = some (some (.ref CBadText))) (xBadText : PySem.W.excIn K CBadText [.type "ValueError", .type "Exception", .type "BaseException", .type "object"] "ValueError.__new__" = true) (keBadText : PySem.W.keepIn K (.ref CBadText) = true) (bxBadText : PySem.W.subIn K (.ref CBadText) (.type "BaseException") = some true) (txBadText : PySem.W.typeIn K (.ref CBadText) = some (.type "type")) (ixBadText : PySem.W.isClsIn K CBadText = true) (sxBadText : PySem.W.subIn K (.ref CBadText) (.ref CBadText) = some true)
    (uBadPadding : PySem.W.nsIn K mainGlobals "BadPadding" = some (some (.ref CBadPadding))) (xBadPadding : PySem.W.excIn K CBadPadding [.type "ValueError", .type "Exception", .type "BaseException", .type "object"] "ValueError.__new__" = true) (keBadPadding : PySem.W.keepIn K (.ref CBadPadding) = true) (bxBadPadding : PySem.W.subIn K (.ref CBadPadding) (.type "BaseException") = some true) (txBadPadding : PySem.W.typeIn K (.ref CBadPadding) = some (.type "type")) (ixBadPadding : PySem.W.isClsIn K CBadPadding = true) (sxBadPadding : PySem.W.subIn K (.ref CBadPadding) (.ref CBadPadding) = some true)
    (uObjectMissing : PySem.W.nsIn K mainGlobals "ObjectMissing" = some (some (.ref CObjectMissing))) (xObjectMissing : PySem.W.excIn K CObjectMissing [.type "ValueError", .type "Exception", .type "BaseException", .type "object"] "ValueError.__new__" = true) (keObjectMissing : PySem.W.keepIn K (.ref CObjectMissing) = true) (bxObjectMissing : PySem.W.subIn K (.ref CObjectMissing) (.type "BaseException") = some true) (txObjectMissing : PySem.W.typeIn K (.ref CObjectMissing) = some (.type "type")) (ixObjectMissing : PySem.W.isClsIn K CObjectMissing = true) (sxObjectMissing : PySem.W.subIn K (.ref CObjectMissing) (.ref CObjectMissing) = some true)
    (uFault : PySem.W.nsIn K mainGlobals "Fault" = some (some (.ref CFault))) (loFault : K.lookup CFault = some (excClassObj nmFault qnFault CFault NFault bsFault bmFault true snFault sbFault abFault coFault ddFault k0Fault k1Fault k2Fault k3Fault k5Fault "ValueError.__new__")) (rmFault : PySem.HandSPX.refsVE bmFault = true) (keFault : PySem.W.keepIn K (.ref CFault) = true) (bxFault : PySem.W.subIn K (.ref CFault) (.type "BaseException") = some true) (txFault : PySem.W.typeIn K (.ref CFault) = some (.type "type")) (ixFault : PySem.W.isClsIn K CFault = true) (sxFault : PySem.W.subIn K (.ref CFault) (.ref CFault) = some true)
    (saFault : PySem.W.findIn K (.ref CFault) "__setattr__" = some (some (.builtin "object.__setattr__"))) (mrFault : PySem.W.mroIn K CFault (.ref CFault) = some true) (ksFault : PySem.W.ks_superIn K CFault CFault "__init__" = some (some (.builtin "ValueError.__init__"))) (veFault : PySem.W.subIn K (.ref CFault) (.type "ValueError") = some true) (tpFault : PySem.W.nsIn K PySem.cStatics "thirdparty.any" = some none)
    (gaFault : PySem.W.findIn K (.ref CFault) "__getattribute__" = some (some (.builtin "BaseException.__getattribute__"))) (gtFault : PySem.W.findIn K (.ref CFault) "__getattr__" = some none) (hxFault : PySem.W.hasDictIn K CFault = true) (fcFault : PySem.W.findIn K (.ref CFault) "__class__" = some (some (.builtin "object.__class__"))) (moFault : PySem.W.mroIn K CFault (.type "object") = some true) (sgFault : PySem.W.specialIn K (.builtin "object.__class__") "__get__" = some (some (.builtin "getset_descriptor.__get__"))) (tkFault : PySem.W.takesIn K (.builtin "object.__class__") = some true)
    (nFault_number : PySem.W.findIn K (.ref CFault) "number" = some none)
    (nFault_code : PySem.W.findIn K (.ref CFault) "code" = some none)
    (nFault_words : PySem.W.findIn K (.ref CFault) "words" = some none)
    (subBadMessage_MessageTooLong : PySem.W.subIn K (.ref CBadMessage) (.ref CMessageTooLong) = some false)
    (subBadMessage_BadLength : PySem.W.subIn K (.ref CBadMessage) (.ref CBadLength) = some false)
    (subBadMessage_BadText : PySem.W.subIn K (.ref CBadMessage) (.ref CBadText) = some false)
    (subBadMessage_BadPadding : PySem.W.subIn K (.ref CBadMessage) (.ref CBadPadding) = some false)
    (subBadMessage_ObjectMissing : PySem.W.subIn K (.ref CBadMessage) (.ref CObjectMissing) = some false)
    (subBadMessage_Fault : PySem.W.subIn K (.ref CBadMessage) (.ref CFault) = some false)
    (subMessageTooLong_BadMessage : PySem.W.subIn K (.ref CMessageTooLong) (.ref CBadMessage) = some false)
    (subMessageTooLong_BadLength : PySem.W.subIn K (.ref CMessageTooLong) (.ref CBadLength) = some false)
    (subMessageTooLong_BadText : PySem.W.subIn K (.ref CMessageTooLong) (.ref CBadText) = some false)
    (subMessageTooLong_BadPadding : PySem.W.subIn K (.ref CMessageTooLong) (.ref CBadPadding) = some false)
    (subMessageTooLong_ObjectMissing : PySem.W.subIn K (.ref CMessageTooLong) (.ref CObjectMissing) = some false)
    (subMessageTooLong_Fault : PySem.W.subIn K (.ref CMessageTooLong) (.ref CFault) = some false)
    (subBadLength_BadMessage : PySem.W.subIn K (.ref CBadLength) (.ref CBadMessage) = some false)
    (subBadLength_MessageTooLong : PySem.W.subIn K (.ref CBadLength) (.ref CMessageTooLong) = some false)
    (subBadLength_BadText : PySem.W.subIn K (.ref CBadLength) (.ref CBadText) = some false)
    (subBadLength_BadPadding : PySem.W.subIn K (.ref CBadLength) (.ref CBadPadding) = some false)
    (subBadLength_ObjectMissing : PySem.W.subIn K (.ref CBadLength) (.ref CObjectMissing) = some false)
    (subBadLength_Fault : PySem.W.subIn K (.ref CBadLength) (.ref CFault) = some false)
    (subBadText_BadMessage : PySem.W.subIn K (.ref CBadText) (.ref CBadMessage) = some false)
    (subBadText_MessageTooLong : PySem.W.subIn K (.ref CBadText) (.ref CMessageTooLong) = some false)
    (subBadText_BadLength : PySem.W.subIn K (.ref CBadText) (.ref CBadLength) = some false)
    (subBadText_BadPadding : PySem.W.subIn K (.ref CBadText) (.ref CBadPadding) = some false)
    (subBadText_ObjectMissing : PySem.W.subIn K (.ref CBadText) (.ref CObjectMissing) = some false)
    (subBadText_Fault : PySem.W.subIn K (.ref CBadText) (.ref CFault) = some false)
    (subBadPadding_BadMessage : PySem.W.subIn K (.ref CBadPadding) (.ref CBadMessage) = some false)
    (subBadPadding_MessageTooLong : PySem.W.subIn K (.ref CBadPadding) (.ref CMessageTooLong) = some false)
    (subBadPadding_BadLength : PySem.W.subIn K (.ref CBadPadding) (.ref CBadLength) = some false)
    (subBadPadding_BadText : PySem.W.subIn K (.ref CBadPadding) (.ref CBadText) = some false)
    (subBadPadding_ObjectMissing : PySem.W.subIn K (.ref CBadPadding) (.ref CObjectMissing) = some false)
    (subBadPadding_Fault : PySem.W.subIn K (.ref CBadPadding) (.ref CFault) = some false)
    (subObjectMissing_BadMessage : PySem.W.subIn K (.ref CObjectMissing) (.ref CBadMessage) = some false)
    (subObjectMissing_MessageTooLong : PySem.W.subIn K (.ref CObjectMissing) (.ref CMessageTooLong) = some false)
    (subObjectMissing_BadLength : PySem.W.subIn K (.ref CObjectMissing) (.ref CBadLength) = some false)
    (subObjectMissing_BadText : PySem.W.subIn K (.ref CObjectMissing) (.ref CBadText) = some false)
    (subObjectMissing_BadPadding : PySem.W.subIn K (.ref CObjectMissing) (.ref CBadPadding) = some false)
    (subObjectMissing_Fault : PySem.W.subIn K (.ref CObjectMissing) (.ref CFault) = some false)
    (subFault_BadMessage : PySem.W.subIn K (.ref CFault) (.ref CBadMessage) = some false)
    (subFault_MessageTooLong : PySem.W.subIn K (.ref CFault) (.ref CMessageTooLong) = some false)
    (subFault_BadLength : PySem.W.subIn K (.ref CFault) (.ref CBadLength) = some false)
    (subFault_BadText : PySem.W.subIn K (.ref CFault) (.ref CBadText) = some false)
    (subFault_BadPadding : PySem.W.subIn K (.ref CFault) (.ref CBadPadding) = some false)
    (subFault_ObjectMissing : PySem.W.subIn K (.ref CFault) (.ref CObjectMissing) = some false)
    : ∃ A : Adr, A.flaw = fa ∧ Txt0 P K mg A ∧ Dic w K A ∧ (∀ (s : Shared) (v : Value), BindsTo s A.dlaw ⟨[v], []⟩ [("script", v)]) := by
  have e := hfa.symm.trans (PySem.W.mg_of X G a45)
  cases e
  have F1 := fun_mk (st := s_is_integer) l1 c1 k1
  have b1 := F1.binds (ps := ["value", "least", "greatest"]) fun _ _ _ _ _ _ us hl => match us, hl with | [_, _, _], _ => rfl
  have F2 := fun_mk (st := s_is_text) l2 c2 k2
  have b2 := F2.binds (ps := ["value"]) fun _ _ _ _ _ _ us hl => match us, hl with | [_], _ => rfl
  have F3 := fun_mk (st := s_number_octets) l3 c3 k3
  have b3 := F3.binds (ps := ["number", "count"]) fun _ _ _ _ _ _ us hl => match us, hl with | [_, _], _ => rfl
  have F4 := fun_mk (st := s_number_at) l4 c4 k4
  have b4 := F4.binds (ps := ["octets", "at", "count"]) fun _ _ _ _ _ _ us hl => match us, hl with | [_, _, _], _ => rfl
  have F5 := fun_mk (st := s_field_octets) l5 c5 k5
  have b5 := F5.binds (ps := ["kind", "value"]) fun _ _ _ _ _ _ us hl => match us, hl with | [_, _], _ => rfl
  have F6 := fun_mk (st := s_read_arguments) l6 c6 k6
  have b6 := F6.binds (ps := ["kinds", "octets"]) fun _ _ _ _ _ _ us hl => match us, hl with | [_, _], _ => rfl
  have F7 := fun_mk (st := s__is_code) l7 c7 k7
  have b7 := F7.binds (ps := ["code"]) fun _ _ _ _ _ _ us hl => match us, hl with | [_], _ => rfl
  have F8 := fun_mk (st := s__is_of) l8 c8 k8
  have b8 := F8.binds (ps := ["kind", "value"]) fun _ _ _ _ _ _ us hl => match us, hl with | [_, _], _ => rfl
  have F9 := fun_mk (st := s__are_octets) l9 c9 k9
  have b9 := F9.binds (ps := ["value"]) fun _ _ _ _ _ _ us hl => match us, hl with | [_], _ => rfl
  have F10 := fun_mk (st := s__is_bound) l10 c10 k10
  have b10 := F10.binds (ps := ["value"]) fun _ _ _ _ _ _ us hl => match us, hl with | [_], _ => rfl
  have F11 := fun_mk (st := s__text_octets) l11 c11 k11
  have b11 := F11.binds (ps := ["text"]) fun _ _ _ _ _ _ us hl => match us, hl with | [_], _ => rfl
  have F12 := fun_mk (st := s__padded) l12 c12 k12
  have b12 := F12.binds (ps := ["octets"]) fun _ _ _ _ _ _ us hl => match us, hl with | [_], _ => rfl
  have F13 := fun_mk (st := s__read) l13 c13 k13
  have b13 := F13.binds (ps := ["kind", "octets", "at"]) fun _ _ _ _ _ _ us hl => match us, hl with | [_, _, _], _ => rfl
  have F14 := fun_mk (st := s__read_number) l14 c14 k14
  have b14 := F14.binds (ps := ["octets", "at"]) fun _ _ _ _ _ _ us hl => match us, hl with | [_, _], _ => rfl
  have F15 := fun_mk (st := s__read_named) l15 c15 k15
  have b15 := F15.binds (ps := ["octets", "at"]) fun _ _ _ _ _ _ us hl => match us, hl with | [_, _], _ => rfl
  have F16 := fun_mk (st := s__read_text) l16 c16 k16
  have b16 := F16.binds (ps := ["octets", "at"]) fun _ _ _ _ _ _ us hl => match us, hl with | [_, _], _ => rfl
  have F17 := fun_mk (st := s__read_octets) l17 c17 k17
  have b17 := F17.binds (ps := ["octets", "at"]) fun _ _ _ _ _ _ us hl => match us, hl with | [_, _], _ => rfl
  have F18 := fun_mk (st := s__demand) l18 c18 k18
  have b18 := F18.binds (ps := ["octets", "end"]) fun _ _ _ _ _ _ us hl => match us, hl with | [_, _], _ => rfl
  have F19 := fun_mk (st := s__behind_padding) l19 c19 k19
  have b19 := F19.binds (ps := ["octets", "end"]) fun _ _ _ _ _ _ us hl => match us, hl with | [_, _], _ => rfl
  have F20 := fun_mk (st := s_encode_message) l20 c20 k20
  have b20 := F20.binds (ps := ["number", "opcode", "arguments"]) fun _ _ _ _ _ _ us hl => match us, hl with | [_, _, _], _ => rfl
  have F21 := fun_mk (st := s_request_row) l21 c21 k21
  have b21 := F21.binds (ps := ["interface", "opcode"]) fun _ _ _ _ _ _ us hl => match us, hl with | [_, _], _ => rfl
  have F22 := fun_mk (st := s_request_opcode) l22 c22 k22
  have b22 := F22.binds (ps := ["interface", "name"]) fun _ _ _ _ _ _ us hl => match us, hl with | [_, _], _ => rfl
  have F23 := fun_mk (st := s__row_at) l23 c23 k23
  have b23 := F23.binds (ps := ["rows", "opcode"]) fun _ _ _ _ _ _ us hl => match us, hl with | [_, _], _ => rfl
  have F24 := fun_mk (st := s__opcode_of) l24 c24 k24
  have b24 := F24.binds (ps := ["rows", "name"]) fun _ _ _ _ _ _ us hl => match us, hl with | [_, _], _ => rfl
  have F25 := fun_mk (st := s_look_at) l25 c25 k25
  have b25 := F25.binds (ps := ["objects", "message"]) fun _ _ _ _ _ _ us hl => match us, hl with | [_, _], _ => rfl
  have F26 := fun_mk (st := s_new_object) l26 c26 k26
  have b26 := F26.binds (ps := ["request"]) fun _ _ _ _ _ _ us hl => match us, hl with | [_], _ => rfl
  have F27 := fun_mk (st := s__kind_and_interface) l27 c27 k27
  have b27 := F27.binds (ps := ["part"]) fun _ _ _ _ _ _ us hl => match us, hl with | [_], _ => rfl
  have F28 := fun_mk (st := s__arguments) l28 c28 k28
  have b28 := F28.binds (ps := ["number", "parts", "body"]) fun _ _ _ _ _ _ us hl => match us, hl with | [_, _, _], _ => rfl
  have F29 := fun_mk (st := s__check_named) l29 c29 k29
  have b29 := F29.binds (ps := ["objects", "request", "parts"]) fun _ _ _ _ _ _ us hl => match us, hl with | [_, _, _], _ => rfl
  have F30 := fun_mk (st := s__check_new) l30 c30 k30
  have b30 := F30.binds (ps := ["objects", "request"]) fun _ _ _ _ _ _ us hl => match us, hl with | [_, _], _ => rfl
  have F31 := fun_mk (st := s__law_cell) l31 c31 k31
  have b31 := F31.binds (ps := ["script", "k"]) fun _ _ _ _ _ _ us hl => match us, hl with | [_, _], _ => rfl
  have F32 := fun_mk (st := s__law_row) l32 c32 k32
  have b32 := F32.binds (ps := ["script", "k"]) fun _ _ _ _ _ _ us hl => match us, hl with | [_, _], _ => rfl
  have F33 := fun_mk (st := s__law_rows) l33 c33 k33
  have b33 := F33.binds (ps := []) fun _ _ _ _ _ _ us hl => match us, hl with | [], _ => rfl
  have F34 := fun_mk (st := s__law_list) l34 c34 k34
  have b34 := F34.binds (ps := ["text"]) fun _ _ _ _ _ _ us hl => match us, hl with | [_], _ => rfl
  have F35 := fun_mk (st := s__law_split) l35 c35 k35
  have b35 := F35.binds (ps := ["text"]) fun _ _ _ _ _ _ us hl => match us, hl with | [_], _ => rfl
  have F36 := fun_mk (st := s__law_table) l36 c36 k36
  have b36 := F36.binds (ps := []) fun _ _ _ _ _ _ us hl => match us, hl with | [], _ => rfl
  have F37 := fun_mk (st := s__law_world) l37 c37 k37
  have b37 := F37.binds (ps := ["script", "shift"]) fun _ _ _ _ _ _ us hl => match us, hl with | [_, _], _ => rfl
  have F38 := fun_mk (st := s__law_pick) l38 c38 k38
  have b38 := F38.binds (ps := ["objects", "wanted", "row"]) fun _ _ _ _ _ _ us hl => match us, hl with | [_, _, _], _ => rfl
  have F39 := fun_mk (st := s__law_free) l39 c39 k39
  have b39 := F39.binds (ps := ["objects", "row"]) fun _ _ _ _ _ _ us hl => match us, hl with | [_, _], _ => rfl
  have F40 := fun_mk (st := s__law_argument) l40 c40 k40
  have b40 := F40.binds (ps := ["objects", "argument", "row"]) fun _ _ _ _ _ _ us hl => match us, hl with | [_, _, _], _ => rfl
  have F41 := fun_mk (st := s__law_bad) l41 c41 k41
  have b41 := F41.binds (ps := ["objects", "argument", "value", "row"]) fun _ _ _ _ _ _ us hl => match us, hl with | [_, _, _, _], _ => rfl
  have F42 := fun_mk (st := s__law_due) l42 c42 k42
  have b42 := F42.binds (ps := ["objects", "number", "arguments", "values"]) fun _ _ _ _ _ _ us hl => match us, hl with | [_, _, _, _], _ => rfl
  have F43 := fun_mk (st := s__law_told) l43 c43 k43
  have b43 := F43.binds (ps := ["objects", "message"]) fun _ _ _ _ _ _ us hl => match us, hl with | [_, _], _ => rfl
  have F44 := fun_mk (st := s__law_asked) l44 c44 k44
  have b44 := F44.binds (ps := ["objects", "row", "script", "k"]) fun _ _ _ _ _ _ us hl => match us, hl with | [_, _, _, _], _ => rfl
  have F45 := fun_mk (st := s_law) l45 c45 k45
  have b45 := F45.binds (ps := ["script"]) fun _ _ _ _ _ _ us hl => match us, hl with | [_], _ => rfl
  have F46 : FunSup K "__init__" "Fault.__init__" s_Fault___init__ fFault___init__ (PySem.W.fnX "__init__" "Fault.__init__" (defArgs s_Fault___init__) (defBody s_Fault___init__) (defScope s_Fault___init__) [("__class__", cc46)] .none kV46 dc46 pm46 an46 (.ref cda46) ct46) CFault := ⟨⟨_, _, _, _, _, _, _, _, _, _, _, _, _, _, _, _, _, _, _, rfl, l46, c46, ld46, rv46, lc46, lD46⟩⟩
  have b46 : Binds K (PySem.W.fnX "__init__" "Fault.__init__" (defArgs s_Fault___init__) (defBody s_Fault___init__) (defScope s_Fault___init__) [("__class__", cc46)] .none kV46 dc46 pm46 an46 (.ref cda46) ct46) ["self", "number", "code", "words"] [] := .all fun us hl => match us, hl with | [_, _, _, _], _ => rfl
  have F47 := fun_mk (st := s_Objects___init__) l47 c47 k47
  have b47 := F47.binds (ps := ["self"]) fun _ _ _ _ _ _ us hl => match us, hl with | [_], _ => rfl
  have F48 := fun_mk (st := s_Objects_interface_of) l48 c48 k48
  have b48 := F48.binds (ps := ["self", "number"]) fun _ _ _ _ _ _ us hl => match us, hl with | [_, _], _ => rfl
  have F49 := fun_mk (st := s_Objects_numbers) l49 c49 k49
  have b49 := F49.binds (ps := ["self"]) fun _ _ _ _ _ _ us hl => match us, hl with | [_], _ => rfl
  have F50 := fun_mk (st := s_Objects_may_give) l50 c50 k50
  have b50 := F50.binds (ps := ["self", "number"]) fun _ _ _ _ _ _ us hl => match us, hl with | [_, _], _ => rfl
  have F51 := fun_mk (st := s_Objects_is_full) l51 c51 k51
  have b51 := F51.binds (ps := ["self"]) fun _ _ _ _ _ _ us hl => match us, hl with | [_], _ => rfl
  have F52 := fun_mk (st := s_Objects_give) l52 c52 k52
  have b52 := F52.binds (ps := ["self", "number", "interface"]) fun _ _ _ _ _ _ us hl => match us, hl with | [_, _, _], _ => rfl
  have F53 := fun_mk (st := s_Objects_make) l53 c53 k53
  have b53 := F53.binds (ps := ["self", "interface"]) fun _ _ _ _ _ _ us hl => match us, hl with | [_, _], _ => rfl
  have F54 := fun_mk (st := s_Request___init__) l54 c54 k54
  have b54 := F54.binds (ps := ["self", "number", "interface", "name", "arguments", "ends"]) fun _ _ _ _ _ _ us hl => match us, hl with | [_, _, _, _, _, _], _ => rfl
  have oFault : OexC K CFault := ⟨⟨_, _, _, _, _, _, _, _, _, _, _, _, _, _, _, loFault, rmFault⟩, saFault, bxFault, txFault, keFault⟩
  refine ⟨{ fis_integer := fis_integer, dis_integer := (PySem.W.fnOf "is_integer" "is_integer" (defArgs s_is_integer) (defBody s_is_integer) (defScope s_is_integer) .none kV1 dc1 pm1 an1 cd1 ct1), fis_text := fis_text, dis_text := (PySem.W.fnOf "is_text" "is_text" (defArgs s_is_text) (defBody s_is_text) (defScope s_is_text) .none kV2 dc2 pm2 an2 cd2 ct2), fnumber_octets := fnumber_octets, dnumber_octets := (PySem.W.fnOf "number_octets" "number_octets" (defArgs s_number_octets) (defBody s_number_octets) (defScope s_number_octets) .none kV3 dc3 pm3 an3 cd3 ct3), fnumber_at := fnumber_at, dnumber_at := (PySem.W.fnOf "number_at" "number_at" (defArgs s_number_at) (defBody s_number_at) (defScope s_number_at) .none kV4 dc4 pm4 an4 cd4 ct4), ffield_octets := ffield_octets, dfield_octets := (PySem.W.fnOf "field_octets" "field_octets" (defArgs s_field_octets) (defBody s_field_octets) (defScope s_field_octets) .none kV5 dc5 pm5 an5 cd5 ct5), fread_arguments := fread_arguments, dread_arguments := (PySem.W.fnOf "read_arguments" "read_arguments" (defArgs s_read_arguments) (defBody s_read_arguments) (defScope s_read_arguments) .none kV6 dc6 pm6 an6 cd6 ct6), f_is_code := f_is_code, d_is_code := (PySem.W.fnOf "_is_code" "_is_code" (defArgs s__is_code) (defBody s__is_code) (defScope s__is_code) .none kV7 dc7 pm7 an7 cd7 ct7), f_is_of := f_is_of, d_is_of := (PySem.W.fnOf "_is_of" "_is_of" (defArgs s__is_of) (defBody s__is_of) (defScope s__is_of) .none kV8 dc8 pm8 an8 cd8 ct8), f_are_octets := f_are_octets, d_are_octets := (PySem.W.fnOf "_are_octets" "_are_octets" (defArgs s__are_octets) (defBody s__are_octets) (defScope s__are_octets) .none kV9 dc9 pm9 an9 cd9 ct9), f_is_bound := f_is_bound, d_is_bound := (PySem.W.fnOf "_is_bound" "_is_bound" (defArgs s__is_bound) (defBody s__is_bound) (defScope s__is_bound) .none kV10 dc10 pm10 an10 cd10 ct10), f_text_octets := f_text_octets, d_text_octets := (PySem.W.fnOf "_text_octets" "_text_octets" (defArgs s__text_octets) (defBody s__text_octets) (defScope s__text_octets) .none kV11 dc11 pm11 an11 cd11 ct11), f_padded := f_padded, d_padded := (PySem.W.fnOf "_padded" "_padded" (defArgs s__padded) (defBody s__padded) (defScope s__padded) .none kV12 dc12 pm12 an12 cd12 ct12), f_read := f_read, d_read := (PySem.W.fnOf "_read" "_read" (defArgs s__read) (defBody s__read) (defScope s__read) .none kV13 dc13 pm13 an13 cd13 ct13), f_read_number := f_read_number, d_read_number := (PySem.W.fnOf "_read_number" "_read_number" (defArgs s__read_number) (defBody s__read_number) (defScope s__read_number) .none kV14 dc14 pm14 an14 cd14 ct14), f_read_named := f_read_named, d_read_named := (PySem.W.fnOf "_read_named" "_read_named" (defArgs s__read_named) (defBody s__read_named) (defScope s__read_named) .none kV15 dc15 pm15 an15 cd15 ct15), f_read_text := f_read_text, d_read_text := (PySem.W.fnOf "_read_text" "_read_text" (defArgs s__read_text) (defBody s__read_text) (defScope s__read_text) .none kV16 dc16 pm16 an16 cd16 ct16), f_read_octets := f_read_octets, d_read_octets := (PySem.W.fnOf "_read_octets" "_read_octets" (defArgs s__read_octets) (defBody s__read_octets) (defScope s__read_octets) .none kV17 dc17 pm17 an17 cd17 ct17), f_demand := f_demand, d_demand := (PySem.W.fnOf "_demand" "_demand" (defArgs s__demand) (defBody s__demand) (defScope s__demand) .none kV18 dc18 pm18 an18 cd18 ct18), f_behind_padding := f_behind_padding, d_behind_padding := (PySem.W.fnOf "_behind_padding" "_behind_padding" (defArgs s__behind_padding) (defBody s__behind_padding) (defScope s__behind_padding) .none kV19 dc19 pm19 an19 cd19 ct19), fencode_message := fencode_message, dencode_message := (PySem.W.fnOf "encode_message" "encode_message" (defArgs s_encode_message) (defBody s_encode_message) (defScope s_encode_message) .none kV20 dc20 pm20 an20 cd20 ct20), frequest_row := frequest_row, drequest_row := (PySem.W.fnOf "request_row" "request_row" (defArgs s_request_row) (defBody s_request_row) (defScope s_request_row) .none kV21 dc21 pm21 an21 cd21 ct21), frequest_opcode := frequest_opcode, drequest_opcode := (PySem.W.fnOf "request_opcode" "request_opcode" (defArgs s_request_opcode) (defBody s_request_opcode) (defScope s_request_opcode) .none kV22 dc22 pm22 an22 cd22 ct22), f_row_at := f_row_at, d_row_at := (PySem.W.fnOf "_row_at" "_row_at" (defArgs s__row_at) (defBody s__row_at) (defScope s__row_at) .none kV23 dc23 pm23 an23 cd23 ct23), f_opcode_of := f_opcode_of, d_opcode_of := (PySem.W.fnOf "_opcode_of" "_opcode_of" (defArgs s__opcode_of) (defBody s__opcode_of) (defScope s__opcode_of) .none kV24 dc24 pm24 an24 cd24 ct24), flook_at := flook_at, dlook_at := (PySem.W.fnOf "look_at" "look_at" (defArgs s_look_at) (defBody s_look_at) (defScope s_look_at) .none kV25 dc25 pm25 an25 cd25 ct25), fnew_object := fnew_object, dnew_object := (PySem.W.fnOf "new_object" "new_object" (defArgs s_new_object) (defBody s_new_object) (defScope s_new_object) .none kV26 dc26 pm26 an26 cd26 ct26), f_kind_and_interface := f_kind_and_interface, d_kind_and_interface := (PySem.W.fnOf "_kind_and_interface" "_kind_and_interface" (defArgs s__kind_and_interface) (defBody s__kind_and_interface) (defScope s__kind_and_interface) .none kV27 dc27 pm27 an27 cd27 ct27), f_arguments := f_arguments, d_arguments := (PySem.W.fnOf "_arguments" "_arguments" (defArgs s__arguments) (defBody s__arguments) (defScope s__arguments) .none kV28 dc28 pm28 an28 cd28 ct28), f_check_named := f_check_named, d_check_named := (PySem.W.fnOf "_check_named" "_check_named" (defArgs s__check_named) (defBody s__check_named) (defScope s__check_named) .none kV29 dc29 pm29 an29 cd29 ct29), f_check_new := f_check_new, d_check_new := (PySem.W.fnOf "_check_new" "_check_new" (defArgs s__check_new) (defBody s__check_new) (defScope s__check_new) .none kV30 dc30 pm30 an30 cd30 ct30), f_law_cell := f_law_cell, d_law_cell := (PySem.W.fnOf "_law_cell" "_law_cell" (defArgs s__law_cell) (defBody s__law_cell) (defScope s__law_cell) .none kV31 dc31 pm31 an31 cd31 ct31), f_law_row := f_law_row, d_law_row := (PySem.W.fnOf "_law_row" "_law_row" (defArgs s__law_row) (defBody s__law_row) (defScope s__law_row) .none kV32 dc32 pm32 an32 cd32 ct32), f_law_rows := f_law_rows, d_law_rows := (PySem.W.fnOf "_law_rows" "_law_rows" (defArgs s__law_rows) (defBody s__law_rows) (defScope s__law_rows) .none kV33 dc33 pm33 an33 cd33 ct33), f_law_list := f_law_list, d_law_list := (PySem.W.fnOf "_law_list" "_law_list" (defArgs s__law_list) (defBody s__law_list) (defScope s__law_list) .none kV34 dc34 pm34 an34 cd34 ct34), f_law_split := f_law_split, d_law_split := (PySem.W.fnOf "_law_split" "_law_split" (defArgs s__law_split) (defBody s__law_split) (defScope s__law_split) .none kV35 dc35 pm35 an35 cd35 ct35), f_law_table := f_law_table, d_law_table := (PySem.W.fnOf "_law_table" "_law_table" (defArgs s__law_table) (defBody s__law_table) (defScope s__law_table) .none kV36 dc36 pm36 an36 cd36 ct36), f_law_world := f_law_world, d_law_world := (PySem.W.fnOf "_law_world" "_law_world" (defArgs s__law_world) (defBody s__law_world) (defScope s__law_world) .none kV37 dc37 pm37 an37 cd37 ct37), f_law_pick := f_law_pick, d_law_pick := (PySem.W.fnOf "_law_pick" "_law_pick" (defArgs s__law_pick) (defBody s__law_pick) (defScope s__law_pick) .none kV38 dc38 pm38 an38 cd38 ct38), f_law_free := f_law_free, d_law_free := (PySem.W.fnOf "_law_free" "_law_free" (defArgs s__law_free) (defBody s__law_free) (defScope s__law_free) .none kV39 dc39 pm39 an39 cd39 ct39), f_law_argument := f_law_argument, d_law_argument := (PySem.W.fnOf "_law_argument" "_law_argument" (defArgs s__law_argument) (defBody s__law_argument) (defScope s__law_argument) .none kV40 dc40 pm40 an40 cd40 ct40), f_law_bad := f_law_bad, d_law_bad := (PySem.W.fnOf "_law_bad" "_law_bad" (defArgs s__law_bad) (defBody s__law_bad) (defScope s__law_bad) .none kV41 dc41 pm41 an41 cd41 ct41), f_law_due := f_law_due, d_law_due := (PySem.W.fnOf "_law_due" "_law_due" (defArgs s__law_due) (defBody s__law_due) (defScope s__law_due) .none kV42 dc42 pm42 an42 cd42 ct42), f_law_told := f_law_told, d_law_told := (PySem.W.fnOf "_law_told" "_law_told" (defArgs s__law_told) (defBody s__law_told) (defScope s__law_told) .none kV43 dc43 pm43 an43 cd43 ct43), f_law_asked := f_law_asked, d_law_asked := (PySem.W.fnOf "_law_asked" "_law_asked" (defArgs s__law_asked) (defBody s__law_asked) (defScope s__law_asked) .none kV44 dc44 pm44 an44 cd44 ct44), flaw := fa, dlaw := (PySem.W.fnOf "law" "law" (defArgs s_law) (defBody s_law) (defScope s_law) .none kV45 dc45 pm45 an45 cd45 ct45), fFault___init__ := fFault___init__, dFault___init__ := (PySem.W.fnX "__init__" "Fault.__init__" (defArgs s_Fault___init__) (defBody s_Fault___init__) (defScope s_Fault___init__) [("__class__", cc46)] .none kV46 dc46 pm46 an46 (.ref cda46) ct46), fObjects___init__ := fObjects___init__, dObjects___init__ := (PySem.W.fnOf "__init__" "Objects.__init__" (defArgs s_Objects___init__) (defBody s_Objects___init__) (defScope s_Objects___init__) .none kV47 dc47 pm47 an47 cd47 ct47), fObjects_interface_of := fObjects_interface_of, dObjects_interface_of := (PySem.W.fnOf "interface_of" "Objects.interface_of" (defArgs s_Objects_interface_of) (defBody s_Objects_interface_of) (defScope s_Objects_interface_of) .none kV48 dc48 pm48 an48 cd48 ct48), fObjects_numbers := fObjects_numbers, dObjects_numbers := (PySem.W.fnOf "numbers" "Objects.numbers" (defArgs s_Objects_numbers) (defBody s_Objects_numbers) (defScope s_Objects_numbers) .none kV49 dc49 pm49 an49 cd49 ct49), fObjects_may_give := fObjects_may_give, dObjects_may_give := (PySem.W.fnOf "may_give" "Objects.may_give" (defArgs s_Objects_may_give) (defBody s_Objects_may_give) (defScope s_Objects_may_give) .none kV50 dc50 pm50 an50 cd50 ct50), fObjects_is_full := fObjects_is_full, dObjects_is_full := (PySem.W.fnOf "is_full" "Objects.is_full" (defArgs s_Objects_is_full) (defBody s_Objects_is_full) (defScope s_Objects_is_full) .none kV51 dc51 pm51 an51 cd51 ct51), fObjects_give := fObjects_give, dObjects_give := (PySem.W.fnOf "give" "Objects.give" (defArgs s_Objects_give) (defBody s_Objects_give) (defScope s_Objects_give) .none kV52 dc52 pm52 an52 cd52 ct52), fObjects_make := fObjects_make, dObjects_make := (PySem.W.fnOf "make" "Objects.make" (defArgs s_Objects_make) (defBody s_Objects_make) (defScope s_Objects_make) .none kV53 dc53 pm53 an53 cd53 ct53), fRequest___init__ := fRequest___init__, dRequest___init__ := (PySem.W.fnOf "__init__" "Request.__init__" (defArgs s_Request___init__) (defBody s_Request___init__) (defScope s_Request___init__) .none kV54 dc54 pm54 an54 cd54 ct54), tDISPLAY := tDISPLAY, tLEAST_GIVEN := tLEAST_GIVEN, tGREATEST_GIVEN := tGREATEST_GIVEN, tMOST_OBJECTS := tMOST_OBJECTS, tGREATEST_NUMBER := tGREATEST_NUMBER, tLEAST_INT := tLEAST_INT, tGREATEST_INT := tGREATEST_INT, tLONGEST_TEXT := tLONGEST_TEXT, tMOST_OCTETS := tMOST_OCTETS, t_FIRST_CODE := t_FIRST_CODE, t_LAST_CODE := t_LAST_CODE, t_PERCENT_CODE := t_PERCENT_CODE, t_CHARACTERS := t_CHARACTERS, tHEADER_SIZE := tHEADER_SIZE, tGREATEST_SIZE := tGREATEST_SIZE, tGREATEST_OPCODE := tGREATEST_OPCODE, tMOST_ARGUMENTS := tMOST_ARGUMENTS, a_REQUESTS := a_REQUESTS, a_REQUESTS_k0 := a_REQUESTS_k0, a_REQUESTS_k0_0 := a_REQUESTS_k0_0, a_REQUESTS_k0_0_1 := a_REQUESTS_k0_0_1, a_REQUESTS_k0_1 := a_REQUESTS_k0_1, a_REQUESTS_k0_1_1 := a_REQUESTS_k0_1_1, a_REQUESTS_k1 := a_REQUESTS_k1, a_REQUESTS_k2 := a_REQUESTS_k2, a_REQUESTS_k2_0 := a_REQUESTS_k2_0, a_REQUESTS_k2_0_1 := a_REQUESTS_k2_0_1, a_REQUESTS_k3 := a_REQUESTS_k3, a_REQUESTS_k3_0 := a_REQUESTS_k3_0, a_REQUESTS_k3_0_1 := a_REQUESTS_k3_0_1, a_REQUESTS_k3_1 := a_REQUESTS_k3_1, a_REQUESTS_k3_1_1 := a_REQUESTS_k3_1_1, a_REQUESTS_k4 := a_REQUESTS_k4, a_REQUESTS_k4_0 := a_REQUESTS_k4_0, a_REQUESTS_k4_0_1 := a_REQUESTS_k4_0_1, a_REQUESTS_k4_1 := a_REQUESTS_k4_1, a_REQUESTS_k4_1_1 := a_REQUESTS_k4_1_1, a_REQUESTS_k4_2 := a_REQUESTS_k4_2, a_REQUESTS_k4_2_1 := a_REQUESTS_k4_2_1, a_REQUESTS_k5 := a_REQUESTS_k5, a_REQUESTS_k5_0 := a_REQUESTS_k5_0, a_REQUESTS_k5_0_1 := a_REQUESTS_k5_0_1, a_REQUESTS_k5_1 := a_REQUESTS_k5_1, a_REQUESTS_k5_1_1 := a_REQUESTS_k5_1_1, a_REQUESTS_k5_2 := a_REQUESTS_k5_2, a_REQUESTS_k5_2_1 := a_REQUESTS_k5_2_1, a_REQUESTS_k6 := a_REQUESTS_k6, a_REQUESTS_k6_0 := a_REQUESTS_k6_0, a_REQUESTS_k6_0_1 := a_REQUESTS_k6_0_1, a_REQUESTS_k6_1 := a_REQUESTS_k6_1, a_REQUESTS_k6_1_1 := a_REQUESTS_k6_1_1, a_REQUESTS_k6_2 := a_REQUESTS_k6_2, a_REQUESTS_k6_2_1 := a_REQUESTS_k6_2_1, a_REQUESTS_k7 := a_REQUESTS_k7, a_REQUESTS_k7_0 := a_REQUESTS_k7_0, a_REQUESTS_k7_0_1 := a_REQUESTS_k7_0_1, a_REQUESTS_k7_1 := a_REQUESTS_k7_1, a_REQUESTS_k7_1_1 := a_REQUESTS_k7_1_1, a_REQUESTS_k7_2 := a_REQUESTS_k7_2, a_REQUESTS_k7_2_1 := a_REQUESTS_k7_2_1, a_REQUESTS_k7_3 := a_REQUESTS_k7_3, a_REQUESTS_k7_3_1 := a_REQUESTS_k7_3_1, a_REQUESTS_k7_4 := a_REQUESTS_k7_4, a_REQUESTS_k7_4_1 := a_REQUESTS_k7_4_1, a_REQUESTS_k7_5 := a_REQUESTS_k7_5, a_REQUESTS_k7_5_1 := a_REQUESTS_k7_5_1, a_REQUESTS_k7_6 := a_REQUESTS_k7_6, a_REQUESTS_k7_6_1 := a_REQUESTS_k7_6_1, a_REQUESTS_k8 := a_REQUESTS_k8, a_REQUESTS_k8_0 := a_REQUESTS_k8_0, a_REQUESTS_k8_0_1 := a_REQUESTS_k8_0_1, a_REQUESTS_k8_1 := a_REQUESTS_k8_1, a_REQUESTS_k8_1_1 := a_REQUESTS_k8_1_1, a_REQUESTS_k9 := a_REQUESTS_k9, a_REQUESTS_k9_0 := a_REQUESTS_k9_0, a_REQUESTS_k9_0_1 := a_REQUESTS_k9_0_1, a_REQUESTS_k9_1 := a_REQUESTS_k9_1, a_REQUESTS_k9_1_1 := a_REQUESTS_k9_1_1, a_REQUESTS_k9_2 := a_REQUESTS_k9_2, a_REQUESTS_k9_2_1 := a_REQUESTS_k9_2_1, a_REQUESTS_k9_3 := a_REQUESTS_k9_3, a_REQUESTS_k9_3_1 := a_REQUESTS_k9_3_1, a_REQUESTS_k9_4 := a_REQUESTS_k9_4, a_REQUESTS_k9_4_1 := a_REQUESTS_k9_4_1, a_REQUESTS_k9_5 := a_REQUESTS_k9_5, a_REQUESTS_k9_5_1 := a_REQUESTS_k9_5_1, a_REQUESTS_k10 := a_REQUESTS_k10, a_REQUESTS_k10_0 := a_REQUESTS_k10_0, a_REQUESTS_k10_0_1 := a_REQUESTS_k10_0_1, a_REQUESTS_k11 := a_REQUESTS_k11, a_REQUESTS_k11_0 := a_REQUESTS_k11_0, a_REQUESTS_k11_0_1 := a_REQUESTS_k11_0_1, a_REQUESTS_k11_1 := a_REQUESTS_k11_1, a_REQUESTS_k11_1_1 := a_REQUESTS_k11_1_1, a_REQUESTS_k12 := a_REQUESTS_k12, a_REQUESTS_k12_0 := a_REQUESTS_k12_0, a_REQUESTS_k12_0_1 := a_REQUESTS_k12_0_1, a_REQUESTS_k12_1 := a_REQUESTS_k12_1, a_REQUESTS_k12_1_1 := a_REQUESTS_k12_1_1, a_REQUESTS_k12_2 := a_REQUESTS_k12_2, a_REQUESTS_k12_2_1 := a_REQUESTS_k12_2_1, a_REQUESTS_k12_3 := a_REQUESTS_k12_3, a_REQUESTS_k12_3_1 := a_REQUESTS_k12_3_1, a_REQUESTS_k12_4 := a_REQUESTS_k12_4, a_REQUESTS_k12_4_1 := a_REQUESTS_k12_4_1, a_REQUESTS_k12_5 := a_REQUESTS_k12_5, a_REQUESTS_k12_5_1 := a_REQUESTS_k12_5_1, a_REQUESTS_k12_6 := a_REQUESTS_k12_6, a_REQUESTS_k12_6_1 := a_REQUESTS_k12_6_1, a_REQUESTS_k12_7 := a_REQUESTS_k12_7, a_REQUESTS_k12_7_1 := a_REQUESTS_k12_7_1, a_REQUESTS_k12_8 := a_REQUESTS_k12_8, a_REQUESTS_k12_8_1 := a_REQUESTS_k12_8_1, a_REQUESTS_k12_9 := a_REQUESTS_k12_9, a_REQUESTS_k12_9_1 := a_REQUESTS_k12_9_1, a_REQUESTS_k12_10 := a_REQUESTS_k12_10, a_REQUESTS_k12_10_1 := a_REQUESTS_k12_10_1, a_REQUESTS_k12_11 := a_REQUESTS_k12_11, a_REQUESTS_k12_11_1 := a_REQUESTS_k12_11_1, a_REQUESTS_k13 := a_REQUESTS_k13, a_REQUESTS_k13_0 := a_REQUESTS_k13_0, a_REQUESTS_k13_0_1 := a_REQUESTS_k13_0_1, a_REQUESTS_k13_1 := a_REQUESTS_k13_1, a_REQUESTS_k13_1_1 := a_REQUESTS_k13_1_1, a_REQUESTS_k14 := a_REQUESTS_k14, a_REQUESTS_k14_0 := a_REQUESTS_k14_0, a_REQUESTS_k14_0_1 := a_REQUESTS_k14_0_1, a_REQUESTS_k14_1 := a_REQUESTS_k14_1, a_REQUESTS_k14_1_1 := a_REQUESTS_k14_1_1, a_REQUESTS_k15 := a_REQUESTS_k15, a_REQUESTS_k15_0 := a_REQUESTS_k15_0, a_REQUESTS_k15_0_1 := a_REQUESTS_k15_0_1, a_REQUESTS_k15_1 := a_REQUESTS_k15_1, a_REQUESTS_k15_1_1 := a_REQUESTS_k15_1_1, a_REQUESTS_k16 := a_REQUESTS_k16, a_REQUESTS_k16_0 := a_REQUESTS_k16_0, a_REQUESTS_k16_0_1 := a_REQUESTS_k16_0_1, a_REQUESTS_k17 := a_REQUESTS_k17, a_REQUESTS_k17_0 := a_REQUESTS_k17_0, a_REQUESTS_k17_0_1 := a_REQUESTS_k17_0_1, a_REQUESTS_k17_1 := a_REQUESTS_k17_1, a_REQUESTS_k17_1_1 := a_REQUESTS_k17_1_1, a_REQUESTS_k17_2 := a_REQUESTS_k17_2, a_REQUESTS_k17_2_1 := a_REQUESTS_k17_2_1, a_REQUESTS_k17_3 := a_REQUESTS_k17_3, a_REQUESTS_k17_3_1 := a_REQUESTS_k17_3_1, a_REQUESTS_k17_4 := a_REQUESTS_k17_4, a_REQUESTS_k17_4_1 := a_REQUESTS_k17_4_1, a_REQUESTS_k17_5 := a_REQUESTS_k17_5, a_REQUESTS_k17_5_1 := a_REQUESTS_k17_5_1, a_REQUESTS_k17_6 := a_REQUESTS_k17_6, a_REQUESTS_k17_6_1 := a_REQUESTS_k17_6_1, a_REQUESTS_k17_7 := a_REQUESTS_k17_7, a_REQUESTS_k17_7_1 := a_REQUESTS_k17_7_1, a_REQUESTS_k17_8 := a_REQUESTS_k17_8, a_REQUESTS_k17_8_1 := a_REQUESTS_k17_8_1, a_REQUESTS_k18 := a_REQUESTS_k18, a_REQUESTS_k18_0 := a_REQUESTS_k18_0, a_REQUESTS_k18_0_1 := a_REQUESTS_k18_0_1, a_REQUESTS_k18_1 := a_REQUESTS_k18_1, a_REQUESTS_k18_1_1 := a_REQUESTS_k18_1_1, a_REQUESTS_k19 := a_REQUESTS_k19, a_REQUESTS_k19_0 := a_REQUESTS_k19_0, a_REQUESTS_k19_0_1 := a_REQUESTS_k19_0_1, a_REQUESTS_k19_1 := a_REQUESTS_k19_1, a_REQUESTS_k19_1_1 := a_REQUESTS_k19_1_1, a_REQUESTS_k20 := a_REQUESTS_k20, a_REQUESTS_k20_0 := a_REQUESTS_k20_0, a_REQUESTS_k20_0_1 := a_REQUESTS_k20_0_1, a_REQUESTS_k20_1 := a_REQUESTS_k20_1, a_REQUESTS_k20_1_1 := a_REQUESTS_k20_1_1, a_REQUESTS_k21 := a_REQUESTS_k21, a_REQUESTS_k21_0 := a_REQUESTS_k21_0, a_REQUESTS_k21_0_1 := a_REQUESTS_k21_0_1, a_REQUESTS_k21_1 := a_REQUESTS_k21_1, a_REQUESTS_k21_1_1 := a_REQUESTS_k21_1_1, a_REQUESTS_k22 := a_REQUESTS_k22, a_REQUESTS_k22_0 := a_REQUESTS_k22_0, a_REQUESTS_k22_0_1 := a_REQUESTS_k22_0_1, CObjects := CObjects, CRequest := CRequest, CBadMessage := CBadMessage, CMessageTooLong := CMessageTooLong, CBadLength := CBadLength, CBadText := CBadText, CBadPadding := CBadPadding, CObjectMissing := CObjectMissing, CFault := CFault }, rfl, { Fis_integer := F1, bis_integer := b1, gis_integer := PySem.W.mg_of X G a1, kis_integer := k1, Fis_text := F2, bis_text := b2, gis_text := PySem.W.mg_of X G a2, kis_text := k2, Fnumber_octets := F3, bnumber_octets := b3, gnumber_octets := PySem.W.mg_of X G a3, knumber_octets := k3, Fnumber_at := F4, bnumber_at := b4, gnumber_at := PySem.W.mg_of X G a4, knumber_at := k4, Ffield_octets := F5, bfield_octets := b5, gfield_octets := PySem.W.mg_of X G a5, kfield_octets := k5, Fread_arguments := F6, bread_arguments := b6, gread_arguments := PySem.W.mg_of X G a6, kread_arguments := k6, F_is_code := F7, b_is_code := b7, g_is_code := PySem.W.mg_of X G a7, k_is_code := k7, F_is_of := F8, b_is_of := b8, g_is_of := PySem.W.mg_of X G a8, k_is_of := k8, F_are_octets := F9, b_are_octets := b9, g_are_octets := PySem.W.mg_of X G a9, k_are_octets := k9, F_is_bound := F10, b_is_bound := b10, g_is_bound := PySem.W.mg_of X G a10, k_is_bound := k10, F_text_octets := F11, b_text_octets := b11, g_text_octets := PySem.W.mg_of X G a11, k_text_octets := k11, F_padded := F12, b_padded := b12, g_padded := PySem.W.mg_of X G a12, k_padded := k12, F_read := F13, b_read := b13, g_read := PySem.W.mg_of X G a13, k_read := k13, F_read_number := F14, b_read_number := b14, g_read_number := PySem.W.mg_of X G a14, k_read_number := k14, F_read_named := F15, b_read_named := b15, g_read_named := PySem.W.mg_of X G a15, k_read_named := k15, F_read_text := F16, b_read_text := b16, g_read_text := PySem.W.mg_of X G a16, k_read_text := k16, F_read_octets := F17, b_read_octets := b17, g_read_octets := PySem.W.mg_of X G a17, k_read_octets := k17, F_demand := F18, b_demand := b18, g_demand := PySem.W.mg_of X G a18, k_demand := k18, F_behind_padding := F19, b_behind_padding := b19, g_behind_padding := PySem.W.mg_of X G a19, k_behind_padding := k19, Fencode_message := F20, bencode_message := b20, gencode_message := PySem.W.mg_of X G a20, kencode_message := k20, Frequest_row := F21, brequest_row := b21, grequest_row := PySem.W.mg_of X G a21, krequest_row := k21, Frequest_opcode := F22, brequest_opcode := b22, grequest_opcode := PySem.W.mg_of X G a22, krequest_opcode := k22, F_row_at := F23, b_row_at := b23, g_row_at := PySem.W.mg_of X G a23, k_row_at := k23, F_opcode_of := F24, b_opcode_of := b24, g_opcode_of := PySem.W.mg_of X G a24, k_opcode_of := k24, Flook_at := F25, blook_at := b25, glook_at := PySem.W.mg_of X G a25, klook_at := k25, Fnew_object := F26, bnew_object := b26, gnew_object := PySem.W.mg_of X G a26, knew_object := k26, F_kind_and_interface := F27, b_kind_and_interface := b27, g_kind_and_interface := PySem.W.mg_of X G a27, k_kind_and_interface := k27, F_arguments := F28, b_arguments := b28, g_arguments := PySem.W.mg_of X G a28, k_arguments := k28, F_check_named := F29, b_check_named := b29, g_check_named := PySem.W.mg_of X G a29, k_check_named := k29, F_check_new := F30, b_check_new := b30, g_check_new := PySem.W.mg_of X G a30, k_check_new := k30, F_law_cell := F31, b_law_cell := b31, g_law_cell := PySem.W.mg_of X G a31, k_law_cell := k31, F_law_row := F32, b_law_row := b32, g_law_row := PySem.W.mg_of X G a32, k_law_row := k32, F_law_rows := F33, b_law_rows := b33, g_law_rows := PySem.W.mg_of X G a33, k_law_rows := k33, F_law_list := F34, b_law_list := b34, g_law_list := PySem.W.mg_of X G a34, k_law_list := k34, F_law_split := F35, b_law_split := b35, g_law_split := PySem.W.mg_of X G a35, k_law_split := k35, F_law_table := F36, b_law_table := b36, g_law_table := PySem.W.mg_of X G a36, k_law_table := k36, F_law_world := F37, b_law_world := b37, g_law_world := PySem.W.mg_of X G a37, k_law_world := k37, F_law_pick := F38, b_law_pick := b38, g_law_pick := PySem.W.mg_of X G a38, k_law_pick := k38, F_law_free := F39, b_law_free := b39, g_law_free := PySem.W.mg_of X G a39, k_law_free := k39, F_law_argument := F40, b_law_argument := b40, g_law_argument := PySem.W.mg_of X G a40, k_law_argument := k40, F_law_bad := F41, b_law_bad := b41, g_law_bad := PySem.W.mg_of X G a41, k_law_bad := k41, F_law_due := F42, b_law_due := b42, g_law_due := PySem.W.mg_of X G a42, k_law_due := k42, F_law_told := F43, b_law_told := b43, g_law_told := PySem.W.mg_of X G a43, k_law_told := k43, F_law_asked := F44, b_law_asked := b44, g_law_asked := PySem.W.mg_of X G a44, k_law_asked := k44, Flaw := F45, blaw := b45, glaw := PySem.W.mg_of X G a45, klaw := k45, FFault___init__ := F46, bFault___init__ := b46, MFault := a46, TFault := ty46, FObjects___init__ := F47, bObjects___init__ := b47, MObjects := ⟨mkObjects, a47, i47, kcObjects⟩, FObjects_interface_of := F48, bObjects_interface_of := b48, mObjects_interface_of := ⟨a48, i48, k48⟩, FObjects_numbers := F49, bObjects_numbers := b49, mObjects_numbers := ⟨a49, i49, k49⟩, FObjects_may_give := F50, bObjects_may_give := b50, mObjects_may_give := ⟨a50, i50, k50⟩, FObjects_is_full := F51, bObjects_is_full := b51, mObjects_is_full := ⟨a51, i51, k51⟩, FObjects_give := F52, bObjects_give := b52, mObjects_give := ⟨a52, i52, k52⟩, FObjects_make := F53, bObjects_make := b53, mObjects_make := ⟨a53, i53, k53⟩, FRequest___init__ := F54, bRequest___init__ := b54, MRequest := ⟨mkRequest, a54, i54, kcRequest⟩, all := PySem.W.mg_none_of X G z_all, any := PySem.W.mg_none_of X G z_any, bool := PySem.W.mg_none_of X G z_bool, int := PySem.W.mg_none_of X G z_int, isinstance := PySem.W.mg_none_of X G z_isinstance, len := PySem.W.mg_none_of X G z_len, list := PySem.W.mg_none_of X G z_list, min := PySem.W.mg_none_of X G z_min, ord := PySem.W.mg_none_of X G z_ord, range := PySem.W.mg_none_of X G z_range, str := PySem.W.mg_none_of X G z_str, sum := PySem.W.mg_none_of X G z_sum, super := PySem.W.mg_none_of X G z_super, tuple := PySem.W.mg_none_of X G z_tuple, zip := PySem.W.mg_none_of X G z_zip, gDISPLAY := PySem.W.mg_of X G q_DISPLAY, gLEAST_GIVEN := PySem.W.mg_of X G q_LEAST_GIVEN, gGREATEST_GIVEN := PySem.W.mg_of X G q_GREATEST_GIVEN, gMOST_OBJECTS := PySem.W.mg_of X G q_MOST_OBJECTS, gGREATEST_NUMBER := PySem.W.mg_of X G q_GREATEST_NUMBER, gLEAST_INT := PySem.W.mg_of X G q_LEAST_INT, gGREATEST_INT := PySem.W.mg_of X G q_GREATEST_INT, gLONGEST_TEXT := PySem.W.mg_of X G q_LONGEST_TEXT, gMOST_OCTETS := PySem.W.mg_of X G q_MOST_OCTETS, g_FIRST_CODE := PySem.W.mg_of X G q__FIRST_CODE, g_LAST_CODE := PySem.W.mg_of X G q__LAST_CODE, g_PERCENT_CODE := PySem.W.mg_of X G q__PERCENT_CODE, g_CHARACTERS := PySem.W.mg_of X G q__CHARACTERS, gHEADER_SIZE := PySem.W.mg_of X G q_HEADER_SIZE, gGREATEST_SIZE := PySem.W.mg_of X G q_GREATEST_SIZE, gGREATEST_OPCODE := PySem.W.mg_of X G q_GREATEST_OPCODE, gMOST_ARGUMENTS := PySem.W.mg_of X G q_MOST_ARGUMENTS, g_REQUESTS := PySem.W.mg_of X G q__REQUESTS, w_REQUESTS_k0 := fun _ => .inr ⟨_, _, _, w_REQUESTS_k0, rfl, rfl, len_line (Nat.le_of_ble_eq_true rfl), (.cons rfl (.cons rfl .nil))⟩, w_REQUESTS_k0_0 := fun _ => .inr ⟨_, _, _, w_REQUESTS_k0_0, rfl, rfl, len_line (Nat.le_of_ble_eq_true rfl), (.cons ⟨_, rfl⟩ (.cons rfl (.cons rfl .nil)))⟩, w_REQUESTS_k0_0_1 := fun _ => .inr ⟨_, _, _, w_REQUESTS_k0_0_1, rfl, rfl, len_line (Nat.le_of_ble_eq_true rfl), (.cons ⟨_, rfl⟩ .nil)⟩, w_REQUESTS_k0_1 := fun _ => .inr ⟨_, _, _, w_REQUESTS_k0_1, rfl, rfl, len_line (Nat.le_of_ble_eq_true rfl), (.cons ⟨_, rfl⟩ (.cons rfl (.cons rfl .nil)))⟩, w_REQUESTS_k0_1_1 := fun _ => .inr ⟨_, _, _, w_REQUESTS_k0_1_1, rfl, rfl, len_line (Nat.le_of_ble_eq_true rfl), (.cons ⟨_, rfl⟩ .nil)⟩, w_REQUESTS_k1 := fun _ => .inr ⟨_, _, _, w_REQUESTS_k1, rfl, rfl, len_line (Nat.le_of_ble_eq_true rfl), .nil⟩, w_REQUESTS_k2 := fun _ => .inr ⟨_, _, _, w_REQUESTS_k2, rfl, rfl, len_line (Nat.le_of_ble_eq_true rfl), (.cons rfl .nil)⟩, w_REQUESTS_k2_0 := fun _ => .inr ⟨_, _, _, w_REQUESTS_k2_0, rfl, rfl, len_line (Nat.le_of_ble_eq_true rfl), (.cons ⟨_, rfl⟩ (.cons rfl (.cons rfl .nil)))⟩, w_REQUESTS_k2_0_1 := fun _ => .inr ⟨_, _, _, w_REQUESTS_k2_0_1, rfl, rfl, len_line (Nat.le_of_ble_eq_true rfl), (.cons ⟨_, rfl⟩ (.cons ⟨_, rfl⟩ .nil))⟩, w_REQUESTS_k3 := fun _ => .inr ⟨_, _, _, w_REQUESTS_k3, rfl, rfl, len_line (Nat.le_of_ble_eq_true rfl), (.cons rfl (.cons rfl .nil))⟩, w_REQUESTS_k3_0 := fun _ => .inr ⟨_, _, _, w_REQUESTS_k3_0, rfl, rfl, len_line (Nat.le_of_ble_eq_true rfl), (.cons ⟨_, rfl⟩ (.cons rfl (.cons rfl .nil)))⟩, w_REQUESTS_k3_0_1 := fun _ => .inr ⟨_, _, _, w_REQUESTS_k3_0_1, rfl, rfl, len_line (Nat.le_of_ble_eq_true rfl), (.cons ⟨_, rfl⟩ (.cons ⟨_, rfl⟩ (.cons ⟨_, rfl⟩ .nil)))⟩, w_REQUESTS_k3_1 := fun _ => .inr ⟨_, _, _, w_REQUESTS_k3_1, rfl, rfl, len_line (Nat.le_of_ble_eq_true rfl), (.cons ⟨_, rfl⟩ (.cons rfl (.cons rfl .nil)))⟩, w_REQUESTS_k3_1_1 := fun _ => .inr ⟨_, _, _, w_REQUESTS_k3_1_1, rfl, rfl, len_line (Nat.le_of_ble_eq_true rfl), .nil⟩, w_REQUESTS_k4 := fun _ => .inr ⟨_, _, _, w_REQUESTS_k4, rfl, rfl, len_line (Nat.le_of_ble_eq_true rfl), (.cons rfl (.cons rfl (.cons rfl .nil)))⟩, w_REQUESTS_k4_0 := fun _ => .inr ⟨_, _, _, w_REQUESTS_k4_0, rfl, rfl, len_line (Nat.le_of_ble_eq_true rfl), (.cons ⟨_, rfl⟩ (.cons rfl (.cons rfl .nil)))⟩, w_REQUESTS_k4_0_1 := fun _ => .inr ⟨_, _, _, w_REQUESTS_k4_0_1, rfl, rfl, len_line (Nat.le_of_ble_eq_true rfl), (.cons ⟨_, rfl⟩ (.cons ⟨_, rfl⟩ .nil))⟩, w_REQUESTS_k4_1 := fun _ => .inr ⟨_, _, _, w_REQUESTS_k4_1, rfl, rfl, len_line (Nat.le_of_ble_eq_true rfl), (.cons ⟨_, rfl⟩ (.cons rfl (.cons rfl .nil)))⟩, w_REQUESTS_k4_1_1 := fun _ => .inr ⟨_, _, _, w_REQUESTS_k4_1_1, rfl, rfl, len_line (Nat.le_of_ble_eq_true rfl), (.cons ⟨_, rfl⟩ (.cons ⟨_, rfl⟩ (.cons ⟨_, rfl⟩ (.cons ⟨_, rfl⟩ (.cons ⟨_, rfl⟩ .nil)))))⟩, w_REQUESTS_k4_2 := fun _ => .inr ⟨_, _, _, w_REQUESTS_k4_2, rfl, rfl, len_line (Nat.le_of_ble_eq_true rfl), (.cons ⟨_, rfl⟩ (.cons rfl (.cons rfl .nil)))⟩, w_REQUESTS_k4_2_1 := fun _ => .inr ⟨_, _, _, w_REQUESTS_k4_2_1, rfl, rfl, len_line (Nat.le_of_ble_eq_true rfl), .nil⟩, w_REQUESTS_k5 := fun _ => .inr ⟨_, _, _, w_REQUESTS_k5, rfl, rfl, len_line (Nat.le_of_ble_eq_true rfl), (.cons rfl (.cons rfl (.cons rfl .nil)))⟩, w_REQUESTS_k5_0 := fun _ => .inr ⟨_, _, _, w_REQUESTS_k5_0, rfl, rfl, len_line (Nat.le_of_ble_eq_true rfl), (.cons ⟨_, rfl⟩ (.cons rfl (.cons rfl .nil)))⟩, w_REQUESTS_k5_0_1 := fun _ => .inr ⟨_, _, _, w_REQUESTS_k5_0_1, rfl, rfl, len_line (Nat.le_of_ble_eq_true rfl), (.cons ⟨_, rfl⟩ .nil)⟩, w_REQUESTS_k5_1 := fun _ => .inr ⟨_, _, _, w_REQUESTS_k5_1, rfl, rfl, len_line (Nat.le_of_ble_eq_true rfl), (.cons ⟨_, rfl⟩ (.cons rfl (.cons rfl .nil)))⟩, w_REQUESTS_k5_1_1 := fun _ => .inr ⟨_, _, _, w_REQUESTS_k5_1_1, rfl, rfl, len_line (Nat.le_of_ble_eq_true rfl), (.cons ⟨_, rfl⟩ .nil)⟩, w_REQUESTS_k5_2 := fun _ => .inr ⟨_, _, _, w_REQUESTS_k5_2, rfl, rfl, len_line (Nat.le_of_ble_eq_true rfl), (.cons ⟨_, rfl⟩ (.cons rfl (.cons rfl .nil)))⟩, w_REQUESTS_k5_2_1 := fun _ => .inr ⟨_, _, _, w_REQUESTS_k5_2_1, rfl, rfl, len_line (Nat.le_of_ble_eq_true rfl), .nil⟩, w_REQUESTS_k6 := fun _ => .inr ⟨_, _, _, w_REQUESTS_k6, rfl, rfl, len_line (Nat.le_of_ble_eq_true rfl), (.cons rfl (.cons rfl (.cons rfl .nil)))⟩, w_REQUESTS_k6_0 := fun _ => .inr ⟨_, _, _, w_REQUESTS_k6_0, rfl, rfl, len_line (Nat.le_of_ble_eq_true rfl), (.cons ⟨_, rfl⟩ (.cons rfl (.cons rfl .nil)))⟩, w_REQUESTS_k6_0_1 := fun _ => .inr ⟨_, _, _, w_REQUESTS_k6_0_1, rfl, rfl, len_line (Nat.le_of_ble_eq_true rfl), (.cons ⟨_, rfl⟩ (.cons ⟨_, rfl⟩ (.cons ⟨_, rfl⟩ (.cons ⟨_, rfl⟩ .nil))))⟩, w_REQUESTS_k6_1 := fun _ => .inr ⟨_, _, _, w_REQUESTS_k6_1, rfl, rfl, len_line (Nat.le_of_ble_eq_true rfl), (.cons ⟨_, rfl⟩ (.cons rfl (.cons rfl .nil)))⟩, w_REQUESTS_k6_1_1 := fun _ => .inr ⟨_, _, _, w_REQUESTS_k6_1_1, rfl, rfl, len_line (Nat.le_of_ble_eq_true rfl), (.cons ⟨_, rfl⟩ (.cons ⟨_, rfl⟩ (.cons ⟨_, rfl⟩ (.cons ⟨_, rfl⟩ .nil))))⟩, w_REQUESTS_k6_2 := fun _ => .inr ⟨_, _, _, w_REQUESTS_k6_2, rfl, rfl, len_line (Nat.le_of_ble_eq_true rfl), (.cons ⟨_, rfl⟩ (.cons rfl (.cons rfl .nil)))⟩, w_REQUESTS_k6_2_1 := fun _ => .inr ⟨_, _, _, w_REQUESTS_k6_2_1, rfl, rfl, len_line (Nat.le_of_ble_eq_true rfl), .nil⟩, w_REQUESTS_k7 := fun _ => .inr ⟨_, _, _, w_REQUESTS_k7, rfl, rfl, len_line (Nat.le_of_ble_eq_true rfl), (.cons rfl (.cons rfl (.cons rfl (.cons rfl (.cons rfl (.cons rfl (.cons rfl .nil)))))))⟩, w_REQUESTS_k7_0 := fun _ => .inr ⟨_, _, _, w_REQUESTS_k7_0, rfl, rfl, len_line (Nat.le_of_ble_eq_true rfl), (.cons ⟨_, rfl⟩ (.cons rfl (.cons rfl .nil)))⟩, w_REQUESTS_k7_0_1 := fun _ => .inr ⟨_, _, _, w_REQUESTS_k7_0_1, rfl, rfl, len_line (Nat.le_of_ble_eq_true rfl), (.cons ⟨_, rfl⟩ .nil)⟩, w_REQUESTS_k7_1 := fun _ => .inr ⟨_, _, _, w_REQUESTS_k7_1, rfl, rfl, len_line (Nat.le_of_ble_eq_true rfl), (.cons ⟨_, rfl⟩ (.cons rfl (.cons rfl .nil)))⟩, w_REQUESTS_k7_1_1 := fun _ => .inr ⟨_, _, _, w_REQUESTS_k7_1_1, rfl, rfl, len_line (Nat.le_of_ble_eq_true rfl), (.cons ⟨_, rfl⟩ .nil)⟩, w_REQUESTS_k7_2 := fun _ => .inr ⟨_, _, _, w_REQUESTS_k7_2, rfl, rfl, len_line (Nat.le_of_ble_eq_true rfl), (.cons ⟨_, rfl⟩ (.cons rfl (.cons rfl .nil)))⟩, w_REQUESTS_k7_2_1 := fun _ => .inr ⟨_, _, _, w_REQUESTS_k7_2_1, rfl, rfl, len_line (Nat.le_of_ble_eq_true rfl), (.cons ⟨_, rfl⟩ .nil)⟩, w_REQUESTS_k7_3 := fun _ => .inr ⟨_, _, _, w_REQUESTS_k7_3, rfl, rfl, len_line (Nat.le_of_ble_eq_true rfl), (.cons ⟨_, rfl⟩ (.cons rfl (.cons rfl .nil)))⟩, w_REQUESTS_k7_3_1 := fun _ => .inr ⟨_, _, _, w_REQUESTS_k7_3_1, rfl, rfl, len_line (Nat.le_of_ble_eq_true rfl), .nil⟩, w_REQUESTS_k7_4 := fun _ => .inr ⟨_, _, _, w_REQUESTS_k7_4, rfl, rfl, len_line (Nat.le_of_ble_eq_true rfl), (.cons ⟨_, rfl⟩ (.cons rfl (.cons rfl .nil)))⟩, w_REQUESTS_k7_4_1 := fun _ => .inr ⟨_, _, _, w_REQUESTS_k7_4_1, rfl, rfl, len_line (Nat.le_of_ble_eq_true rfl), (.cons ⟨_, rfl⟩ .nil)⟩, w_REQUESTS_k7_5 := fun _ => .inr ⟨_, _, _, w_REQUESTS_k7_5, rfl, rfl, len_line (Nat.le_of_ble_eq_true rfl), (.cons ⟨_, rfl⟩ (.cons rfl (.cons rfl .nil)))⟩, w_REQUESTS_k7_5_1 := fun _ => .inr ⟨_, _, _, w_REQUESTS_k7_5_1, rfl, rfl, len_line (Nat.le_of_ble_eq_true rfl), (.cons ⟨_, rfl⟩ .nil)⟩, w_REQUESTS_k7_6 := fun _ => .inr ⟨_, _, _, w_REQUESTS_k7_6, rfl, rfl, len_line (Nat.le_of_ble_eq_true rfl), (.cons ⟨_, rfl⟩ (.cons rfl (.cons rfl .nil)))⟩, w_REQUESTS_k7_6_1 := fun _ => .inr ⟨_, _, _, w_REQUESTS_k7_6_1, rfl, rfl, len_line (Nat.le_of_ble_eq_true rfl), .nil⟩, w_REQUESTS_k8 := fun _ => .inr ⟨_, _, _, w_REQUESTS_k8, rfl, rfl, len_line (Nat.le_of_ble_eq_true rfl), (.cons rfl (.cons rfl .nil))⟩, w_REQUESTS_k8_0 := fun _ => .inr ⟨_, _, _, w_REQUESTS_k8_0, rfl, rfl, len_line (Nat.le_of_ble_eq_true rfl), (.cons ⟨_, rfl⟩ (.cons rfl (.cons rfl .nil)))⟩, w_REQUESTS_k8_0_1 := fun _ => .inr ⟨_, _, _, w_REQUESTS_k8_0_1, rfl, rfl, len_line (Nat.le_of_ble_eq_true rfl), (.cons ⟨_, rfl⟩ (.cons ⟨_, rfl⟩ (.cons ⟨_, rfl⟩ .nil)))⟩, w_REQUESTS_k8_1 := fun _ => .inr ⟨_, _, _, w_REQUESTS_k8_1, rfl, rfl, len_line (Nat.le_of_ble_eq_true rfl), (.cons ⟨_, rfl⟩ (.cons rfl (.cons rfl .nil)))⟩, w_REQUESTS_k8_1_1 := fun _ => .inr ⟨_, _, _, w_REQUESTS_k8_1_1, rfl, rfl, len_line (Nat.le_of_ble_eq_true rfl), .nil⟩, w_REQUESTS_k9 := fun _ => .inr ⟨_, _, _, w_REQUESTS_k9, rfl, rfl, len_line (Nat.le_of_ble_eq_true rfl), (.cons rfl (.cons rfl (.cons rfl (.cons rfl (.cons rfl (.cons rfl .nil))))))⟩, w_REQUESTS_k9_0 := fun _ => .inr ⟨_, _, _, w_REQUESTS_k9_0, rfl, rfl, len_line (Nat.le_of_ble_eq_true rfl), (.cons ⟨_, rfl⟩ (.cons rfl (.cons rfl .nil)))⟩, w_REQUESTS_k9_0_1 := fun _ => .inr ⟨_, _, _, w_REQUESTS_k9_0_1, rfl, rfl, len_line (Nat.le_of_ble_eq_true rfl), (.cons ⟨_, rfl⟩ (.cons ⟨_, rfl⟩ .nil))⟩, w_REQUESTS_k9_1 := fun _ => .inr ⟨_, _, _, w_REQUESTS_k9_1, rfl, rfl, len_line (Nat.le_of_ble_eq_true rfl), (.cons ⟨_, rfl⟩ (.cons rfl (.cons rfl .nil)))⟩, w_REQUESTS_k9_1_1 := fun _ => .inr ⟨_, _, _, w_REQUESTS_k9_1_1, rfl, rfl, len_line (Nat.le_of_ble_eq_true rfl), (.cons ⟨_, rfl⟩ .nil)⟩, w_REQUESTS_k9_2 := fun _ => .inr ⟨_, _, _, w_REQUESTS_k9_2, rfl, rfl, len_line (Nat.le_of_ble_eq_true rfl), (.cons ⟨_, rfl⟩ (.cons rfl (.cons rfl .nil)))⟩, w_REQUESTS_k9_2_1 := fun _ => .inr ⟨_, _, _, w_REQUESTS_k9_2_1, rfl, rfl, len_line (Nat.le_of_ble_eq_true rfl), (.cons ⟨_, rfl⟩ .nil)⟩, w_REQUESTS_k9_3 := fun _ => .inr ⟨_, _, _, w_REQUESTS_k9_3, rfl, rfl, len_line (Nat.le_of_ble_eq_true rfl), (.cons ⟨_, rfl⟩ (.cons rfl (.cons rfl .nil)))⟩, w_REQUESTS_k9_3_1 := fun _ => .inr ⟨_, _, _, w_REQUESTS_k9_3_1, rfl, rfl, len_line (Nat.le_of_ble_eq_true rfl), .nil⟩, w_REQUESTS_k9_4 := fun _ => .inr ⟨_, _, _, w_REQUESTS_k9_4, rfl, rfl, len_line (Nat.le_of_ble_eq_true rfl), (.cons ⟨_, rfl⟩ (.cons rfl (.cons rfl .nil)))⟩, w_REQUESTS_k9_4_1 := fun _ => .inr ⟨_, _, _, w_REQUESTS_k9_4_1, rfl, rfl, len_line (Nat.le_of_ble_eq_true rfl), .nil⟩, w_REQUESTS_k9_5 := fun _ => .inr ⟨_, _, _, w_REQUESTS_k9_5, rfl, rfl, len_line (Nat.le_of_ble_eq_true rfl), (.cons ⟨_, rfl⟩ (.cons rfl (.cons rfl .nil)))⟩, w_REQUESTS_k9_5_1 := fun _ => .inr ⟨_, _, _, w_REQUESTS_k9_5_1, rfl, rfl, len_line (Nat.le_of_ble_eq_true rfl), .nil⟩, w_REQUESTS_k10 := fun _ => .inr ⟨_, _, _, w_REQUESTS_k10, rfl, rfl, len_line (Nat.le_of_ble_eq_true rfl), (.cons rfl .nil)⟩, w_REQUESTS_k10_0 := fun _ => .inr ⟨_, _, _, w_REQUESTS_k10_0, rfl, rfl, len_line (Nat.le_of_ble_eq_true rfl), (.cons ⟨_, rfl⟩ (.cons rfl (.cons rfl .nil)))⟩, w_REQUESTS_k10_0_1 := fun _ => .inr ⟨_, _, _, w_REQUESTS_k10_0_1, rfl, rfl, len_line (Nat.le_of_ble_eq_true rfl), .nil⟩, w_REQUESTS_k11 := fun _ => .inr ⟨_, _, _, w_REQUESTS_k11, rfl, rfl, len_line (Nat.le_of_ble_eq_true rfl), (.cons rfl (.cons rfl .nil))⟩, w_REQUESTS_k11_0 := fun _ => .inr ⟨_, _, _, w_REQUESTS_k11_0, rfl, rfl, len_line (Nat.le_of_ble_eq_true rfl), (.cons ⟨_, rfl⟩ (.cons rfl (.cons rfl .nil)))⟩, w_REQUESTS_k11_0_1 := fun _ => .inr ⟨_, _, _, w_REQUESTS_k11_0_1, rfl, rfl, len_line (Nat.le_of_ble_eq_true rfl), (.cons ⟨_, rfl⟩ (.cons ⟨_, rfl⟩ .nil))⟩, w_REQUESTS_k11_1 := fun _ => .inr ⟨_, _, _, w_REQUESTS_k11_1, rfl, rfl, len_line (Nat.le_of_ble_eq_true rfl), (.cons ⟨_, rfl⟩ (.cons rfl (.cons rfl .nil)))⟩, w_REQUESTS_k11_1_1 := fun _ => .inr ⟨_, _, _, w_REQUESTS_k11_1_1, rfl, rfl, len_line (Nat.le_of_ble_eq_true rfl), (.cons ⟨_, rfl⟩ (.cons ⟨_, rfl⟩ (.cons ⟨_, rfl⟩ (.cons ⟨_, rfl⟩ (.cons ⟨_, rfl⟩ (.cons ⟨_, rfl⟩ (.cons ⟨_, rfl⟩ (.cons ⟨_, rfl⟩ (.cons ⟨_, rfl⟩ (.cons ⟨_, rfl⟩ (.cons ⟨_, rfl⟩ (.cons ⟨_, rfl⟩ (.cons ⟨_, rfl⟩ (.cons ⟨_, rfl⟩ (.cons ⟨_, rfl⟩ (.cons ⟨_, rfl⟩ (.cons ⟨_, rfl⟩ .nil)))))))))))))))))⟩, w_REQUESTS_k12 := fun _ => .inr ⟨_, _, _, w_REQUESTS_k12, rfl, rfl, len_line (Nat.le_of_ble_eq_true rfl), (.cons rfl (.cons rfl (.cons rfl (.cons rfl (.cons rfl (.cons rfl (.cons rfl (.cons rfl (.cons rfl (.cons rfl (.cons rfl (.cons rfl .nil))))))))))))⟩, w_REQUESTS_k12_0 := fun _ => .inr ⟨_, _, _, w_REQUESTS_k12_0, rfl, rfl, len_line (Nat.le_of_ble_eq_true rfl), (.cons ⟨_, rfl⟩ (.cons rfl (.cons rfl .nil)))⟩, w_REQUESTS_k12_0_1 := fun _ => .inr ⟨_, _, _, w_REQUESTS_k12_0_1, rfl, rfl, len_line (Nat.le_of_ble_eq_true rfl), .nil⟩, w_REQUESTS_k12_1 := fun _ => .inr ⟨_, _, _, w_REQUESTS_k12_1, rfl, rfl, len_line (Nat.le_of_ble_eq_true rfl), (.cons ⟨_, rfl⟩ (.cons rfl (.cons rfl .nil)))⟩, w_REQUESTS_k12_1_1 := fun _ => .inr ⟨_, _, _, w_REQUESTS_k12_1_1, rfl, rfl, len_line (Nat.le_of_ble_eq_true rfl), (.cons ⟨_, rfl⟩ .nil)⟩, w_REQUESTS_k12_2 := fun _ => .inr ⟨_, _, _, w_REQUESTS_k12_2, rfl, rfl, len_line (Nat.le_of_ble_eq_true rfl), (.cons ⟨_, rfl⟩ (.cons rfl (.cons rfl .nil)))⟩, w_REQUESTS_k12_2_1 := fun _ => .inr ⟨_, _, _, w_REQUESTS_k12_2_1, rfl, rfl, len_line (Nat.le_of_ble_eq_true rfl), (.cons ⟨_, rfl⟩ .nil)⟩, w_REQUESTS_k12_3 := fun _ => .inr ⟨_, _, _, w_REQUESTS_k12_3, rfl, rfl, len_line (Nat.le_of_ble_eq_true rfl), (.cons ⟨_, rfl⟩ (.cons rfl (.cons rfl .nil)))⟩, w_REQUESTS_k12_3_1 := fun _ => .inr ⟨_, _, _, w_REQUESTS_k12_3_1, rfl, rfl, len_line (Nat.le_of_ble_eq_true rfl), (.cons ⟨_, rfl⟩ (.cons ⟨_, rfl⟩ .nil))⟩, w_REQUESTS_k12_4 := fun _ => .inr ⟨_, _, _, w_REQUESTS_k12_4, rfl, rfl, len_line (Nat.le_of_ble_eq_true rfl), (.cons ⟨_, rfl⟩ (.cons rfl (.cons rfl .nil)))⟩, w_REQUESTS_k12_4_1 := fun _ => .inr ⟨_, _, _, w_REQUESTS_k12_4_1, rfl, rfl, len_line (Nat.le_of_ble_eq_true rfl), (.cons ⟨_, rfl⟩ (.cons ⟨_, rfl⟩ .nil))⟩, w_REQUESTS_k12_5 := fun _ => .inr ⟨_, _, _, w_REQUESTS_k12_5, rfl, rfl, len_line (Nat.le_of_ble_eq_true rfl), (.cons ⟨_, rfl⟩ (.cons rfl (.cons rfl .nil)))⟩, w_REQUESTS_k12_5_1 := fun _ => .inr ⟨_, _, _, w_REQUESTS_k12_5_1, rfl, rfl, len_line (Nat.le_of_ble_eq_true rfl), (.cons ⟨_, rfl⟩ .nil)⟩, w_REQUESTS_k12_6 := fun _ => .inr ⟨_, _, _, w_REQUESTS_k12_6, rfl, rfl, len_line (Nat.le_of_ble_eq_true rfl), (.cons ⟨_, rfl⟩ (.cons rfl (.cons rfl .nil)))⟩, w_REQUESTS_k12_6_1 := fun _ => .inr ⟨_, _, _, w_REQUESTS_k12_6_1, rfl, rfl, len_line (Nat.le_of_ble_eq_true rfl), (.cons ⟨_, rfl⟩ .nil)⟩, w_REQUESTS_k12_7 := fun _ => .inr ⟨_, _, _, w_REQUESTS_k12_7, rfl, rfl, len_line (Nat.le_of_ble_eq_true rfl), (.cons ⟨_, rfl⟩ (.cons rfl (.cons rfl .nil)))⟩, w_REQUESTS_k12_7_1 := fun _ => .inr ⟨_, _, _, w_REQUESTS_k12_7_1, rfl, rfl, len_line (Nat.le_of_ble_eq_true rfl), (.cons ⟨_, rfl⟩ (.cons ⟨_, rfl⟩ .nil))⟩, w_REQUESTS_k12_8 := fun _ => .inr ⟨_, _, _, w_REQUESTS_k12_8, rfl, rfl, len_line (Nat.le_of_ble_eq_true rfl), (.cons ⟨_, rfl⟩ (.cons rfl (.cons rfl .nil)))⟩, w_REQUESTS_k12_8_1 := fun _ => .inr ⟨_, _, _, w_REQUESTS_k12_8_1, rfl, rfl, len_line (Nat.le_of_ble_eq_true rfl), (.cons ⟨_, rfl⟩ (.cons ⟨_, rfl⟩ (.cons ⟨_, rfl⟩ .nil)))⟩, w_REQUESTS_k12_9 := fun _ => .inr ⟨_, _, _, w_REQUESTS_k12_9, rfl, rfl, len_line (Nat.le_of_ble_eq_true rfl), (.cons ⟨_, rfl⟩ (.cons rfl (.cons rfl .nil)))⟩, w_REQUESTS_k12_9_1 := fun _ => .inr ⟨_, _, _, w_REQUESTS_k12_9_1, rfl, rfl, len_line (Nat.le_of_ble_eq_true rfl), (.cons ⟨_, rfl⟩ .nil)⟩, w_REQUESTS_k12_10 := fun _ => .inr ⟨_, _, _, w_REQUESTS_k12_10, rfl, rfl, len_line (Nat.le_of_ble_eq_true rfl), (.cons ⟨_, rfl⟩ (.cons rfl (.cons rfl .nil)))⟩, w_REQUESTS_k12_10_1 := fun _ => .inr ⟨_, _, _, w_REQUESTS_k12_10_1, rfl, rfl, len_line (Nat.le_of_ble_eq_true rfl), (.cons ⟨_, rfl⟩ .nil)⟩, w_REQUESTS_k12_11 := fun _ => .inr ⟨_, _, _, w_REQUESTS_k12_11, rfl, rfl, len_line (Nat.le_of_ble_eq_true rfl), (.cons ⟨_, rfl⟩ (.cons rfl (.cons rfl .nil)))⟩, w_REQUESTS_k12_11_1 := fun _ => .inr ⟨_, _, _, w_REQUESTS_k12_11_1, rfl, rfl, len_line (Nat.le_of_ble_eq_true rfl), .nil⟩, w_REQUESTS_k13 := fun _ => .inr ⟨_, _, _, w_REQUESTS_k13, rfl, rfl, len_line (Nat.le_of_ble_eq_true rfl), (.cons rfl (.cons rfl .nil))⟩, w_REQUESTS_k13_0 := fun _ => .inr ⟨_, _, _, w_REQUESTS_k13_0, rfl, rfl, len_line (Nat.le_of_ble_eq_true rfl), (.cons ⟨_, rfl⟩ (.cons rfl (.cons rfl .nil)))⟩, w_REQUESTS_k13_0_1 := fun _ => .inr ⟨_, _, _, w_REQUESTS_k13_0_1, rfl, rfl, len_line (Nat.le_of_ble_eq_true rfl), .nil⟩, w_REQUESTS_k13_1 := fun _ => .inr ⟨_, _, _, w_REQUESTS_k13_1, rfl, rfl, len_line (Nat.le_of_ble_eq_true rfl), (.cons ⟨_, rfl⟩ (.cons rfl (.cons rfl .nil)))⟩, w_REQUESTS_k13_1_1 := fun _ => .inr ⟨_, _, _, w_REQUESTS_k13_1_1, rfl, rfl, len_line (Nat.le_of_ble_eq_true rfl), (.cons ⟨_, rfl⟩ (.cons ⟨_, rfl⟩ (.cons ⟨_, rfl⟩ (.cons ⟨_, rfl⟩ (.cons ⟨_, rfl⟩ (.cons ⟨_, rfl⟩ (.cons ⟨_, rfl⟩ (.cons ⟨_, rfl⟩ (.cons ⟨_, rfl⟩ (.cons ⟨_, rfl⟩ (.cons ⟨_, rfl⟩ (.cons ⟨_, rfl⟩ (.cons ⟨_, rfl⟩ .nil)))))))))))))⟩, w_REQUESTS_k14 := fun _ => .inr ⟨_, _, _, w_REQUESTS_k14, rfl, rfl, len_line (Nat.le_of_ble_eq_true rfl), (.cons rfl (.cons rfl .nil))⟩, w_REQUESTS_k14_0 := fun _ => .inr ⟨_, _, _, w_REQUESTS_k14_0, rfl, rfl, len_line (Nat.le_of_ble_eq_true rfl), (.cons ⟨_, rfl⟩ (.cons rfl (.cons rfl .nil)))⟩, w_REQUESTS_k14_0_1 := fun _ => .inr ⟨_, _, _, w_REQUESTS_k14_0_1, rfl, rfl, len_line (Nat.le_of_ble_eq_true rfl), (.cons ⟨_, rfl⟩ .nil)⟩, w_REQUESTS_k14_1 := fun _ => .inr ⟨_, _, _, w_REQUESTS_k14_1, rfl, rfl, len_line (Nat.le_of_ble_eq_true rfl), (.cons ⟨_, rfl⟩ (.cons rfl (.cons rfl .nil)))⟩, w_REQUESTS_k14_1_1 := fun _ => .inr ⟨_, _, _, w_REQUESTS_k14_1_1, rfl, rfl, len_line (Nat.le_of_ble_eq_true rfl), (.cons ⟨_, rfl⟩ .nil)⟩, w_REQUESTS_k15 := fun _ => .inr ⟨_, _, _, w_REQUESTS_k15, rfl, rfl, len_line (Nat.le_of_ble_eq_true rfl), (.cons rfl (.cons rfl .nil))⟩, w_REQUESTS_k15_0 := fun _ => .inr ⟨_, _, _, w_REQUESTS_k15_0, rfl, rfl, len_line (Nat.le_of_ble_eq_true rfl), (.cons ⟨_, rfl⟩ (.cons rfl (.cons rfl .nil)))⟩, w_REQUESTS_k15_0_1 := fun _ => .inr ⟨_, _, _, w_REQUESTS_k15_0_1, rfl, rfl, len_line (Nat.le_of_ble_eq_true rfl), .nil⟩, w_REQUESTS_k15_1 := fun _ => .inr ⟨_, _, _, w_REQUESTS_k15_1, rfl, rfl, len_line (Nat.le_of_ble_eq_true rfl), (.cons ⟨_, rfl⟩ (.cons rfl (.cons rfl .nil)))⟩, w_REQUESTS_k15_1_1 := fun _ => .inr ⟨_, _, _, w_REQUESTS_k15_1_1, rfl, rfl, len_line (Nat.le_of_ble_eq_true rfl), (.cons ⟨_, rfl⟩ .nil)⟩, w_REQUESTS_k16 := fun _ => .inr ⟨_, _, _, w_REQUESTS_k16, rfl, rfl, len_line (Nat.le_of_ble_eq_true rfl), (.cons rfl .nil)⟩, w_REQUESTS_k16_0 := fun _ => .inr ⟨_, _, _, w_REQUESTS_k16_0, rfl, rfl, len_line (Nat.le_of_ble_eq_true rfl), (.cons ⟨_, rfl⟩ (.cons rfl (.cons rfl .nil)))⟩, w_REQUESTS_k16_0_1 := fun _ => .inr ⟨_, _, _, w_REQUESTS_k16_0_1, rfl, rfl, len_line (Nat.le_of_ble_eq_true rfl), .nil⟩, w_REQUESTS_k17 := fun _ => .inr ⟨_, _, _, w_REQUESTS_k17, rfl, rfl, len_line (Nat.le_of_ble_eq_true rfl), (.cons rfl (.cons rfl (.cons rfl (.cons rfl (.cons rfl (.cons rfl (.cons rfl (.cons rfl (.cons rfl .nil)))))))))⟩, w_REQUESTS_k17_0 := fun _ => .inr ⟨_, _, _, w_REQUESTS_k17_0, rfl, rfl, len_line (Nat.le_of_ble_eq_true rfl), (.cons ⟨_, rfl⟩ (.cons rfl (.cons rfl .nil)))⟩, w_REQUESTS_k17_0_1 := fun _ => .inr ⟨_, _, _, w_REQUESTS_k17_0_1, rfl, rfl, len_line (Nat.le_of_ble_eq_true rfl), (.cons ⟨_, rfl⟩ .nil)⟩, w_REQUESTS_k17_1 := fun _ => .inr ⟨_, _, _, w_REQUESTS_k17_1, rfl, rfl, len_line (Nat.le_of_ble_eq_true rfl), (.cons ⟨_, rfl⟩ (.cons rfl (.cons rfl .nil)))⟩, w_REQUESTS_k17_1_1 := fun _ => .inr ⟨_, _, _, w_REQUESTS_k17_1_1, rfl, rfl, len_line (Nat.le_of_ble_eq_true rfl), (.cons ⟨_, rfl⟩ (.cons ⟨_, rfl⟩ (.cons ⟨_, rfl⟩ .nil)))⟩, w_REQUESTS_k17_2 := fun _ => .inr ⟨_, _, _, w_REQUESTS_k17_2, rfl, rfl, len_line (Nat.le_of_ble_eq_true rfl), (.cons ⟨_, rfl⟩ (.cons rfl (.cons rfl .nil)))⟩, w_REQUESTS_k17_2_1 := fun _ => .inr ⟨_, _, _, w_REQUESTS_k17_2_1, rfl, rfl, len_line (Nat.le_of_ble_eq_true rfl), (.cons ⟨_, rfl⟩ (.cons ⟨_, rfl⟩ .nil))⟩, w_REQUESTS_k17_3 := fun _ => .inr ⟨_, _, _, w_REQUESTS_k17_3, rfl, rfl, len_line (Nat.le_of_ble_eq_true rfl), (.cons ⟨_, rfl⟩ (.cons rfl (.cons rfl .nil)))⟩, w_REQUESTS_k17_3_1 := fun _ => .inr ⟨_, _, _, w_REQUESTS_k17_3_1, rfl, rfl, len_line (Nat.le_of_ble_eq_true rfl), (.cons ⟨_, rfl⟩ (.cons ⟨_, rfl⟩ .nil))⟩, w_REQUESTS_k17_4 := fun _ => .inr ⟨_, _, _, w_REQUESTS_k17_4, rfl, rfl, len_line (Nat.le_of_ble_eq_true rfl), (.cons ⟨_, rfl⟩ (.cons rfl (.cons rfl .nil)))⟩, w_REQUESTS_k17_4_1 := fun _ => .inr ⟨_, _, _, w_REQUESTS_k17_4_1, rfl, rfl, len_line (Nat.le_of_ble_eq_true rfl), (.cons ⟨_, rfl⟩ .nil)⟩, w_REQUESTS_k17_5 := fun _ => .inr ⟨_, _, _, w_REQUESTS_k17_5, rfl, rfl, len_line (Nat.le_of_ble_eq_true rfl), (.cons ⟨_, rfl⟩ (.cons rfl (.cons rfl .nil)))⟩, w_REQUESTS_k17_5_1 := fun _ => .inr ⟨_, _, _, w_REQUESTS_k17_5_1, rfl, rfl, len_line (Nat.le_of_ble_eq_true rfl), (.cons ⟨_, rfl⟩ (.cons ⟨_, rfl⟩ (.cons ⟨_, rfl⟩ (.cons ⟨_, rfl⟩ (.cons ⟨_, rfl⟩ (.cons ⟨_, rfl⟩ .nil))))))⟩, w_REQUESTS_k17_6 := fun _ => .inr ⟨_, _, _, w_REQUESTS_k17_6, rfl, rfl, len_line (Nat.le_of_ble_eq_true rfl), (.cons ⟨_, rfl⟩ (.cons rfl (.cons rfl .nil)))⟩, w_REQUESTS_k17_6_1 := fun _ => .inr ⟨_, _, _, w_REQUESTS_k17_6_1, rfl, rfl, len_line (Nat.le_of_ble_eq_true rfl), (.cons ⟨_, rfl⟩ (.cons ⟨_, rfl⟩ .nil))⟩, w_REQUESTS_k17_7 := fun _ => .inr ⟨_, _, _, w_REQUESTS_k17_7, rfl, rfl, len_line (Nat.le_of_ble_eq_true rfl), (.cons ⟨_, rfl⟩ (.cons rfl (.cons rfl .nil)))⟩, w_REQUESTS_k17_7_1 := fun _ => .inr ⟨_, _, _, w_REQUESTS_k17_7_1, rfl, rfl, len_line (Nat.le_of_ble_eq_true rfl), (.cons ⟨_, rfl⟩ (.cons ⟨_, rfl⟩ .nil))⟩, w_REQUESTS_k17_8 := fun _ => .inr ⟨_, _, _, w_REQUESTS_k17_8, rfl, rfl, len_line (Nat.le_of_ble_eq_true rfl), (.cons ⟨_, rfl⟩ (.cons rfl (.cons rfl .nil)))⟩, w_REQUESTS_k17_8_1 := fun _ => .inr ⟨_, _, _, w_REQUESTS_k17_8_1, rfl, rfl, len_line (Nat.le_of_ble_eq_true rfl), .nil⟩, w_REQUESTS_k18 := fun _ => .inr ⟨_, _, _, w_REQUESTS_k18, rfl, rfl, len_line (Nat.le_of_ble_eq_true rfl), (.cons rfl (.cons rfl .nil))⟩, w_REQUESTS_k18_0 := fun _ => .inr ⟨_, _, _, w_REQUESTS_k18_0, rfl, rfl, len_line (Nat.le_of_ble_eq_true rfl), (.cons ⟨_, rfl⟩ (.cons rfl (.cons rfl .nil)))⟩, w_REQUESTS_k18_0_1 := fun _ => .inr ⟨_, _, _, w_REQUESTS_k18_0_1, rfl, rfl, len_line (Nat.le_of_ble_eq_true rfl), (.cons ⟨_, rfl⟩ (.cons ⟨_, rfl⟩ .nil))⟩, w_REQUESTS_k18_1 := fun _ => .inr ⟨_, _, _, w_REQUESTS_k18_1, rfl, rfl, len_line (Nat.le_of_ble_eq_true rfl), (.cons ⟨_, rfl⟩ (.cons rfl (.cons rfl .nil)))⟩, w_REQUESTS_k18_1_1 := fun _ => .inr ⟨_, _, _, w_REQUESTS_k18_1_1, rfl, rfl, len_line (Nat.le_of_ble_eq_true rfl), .nil⟩, w_REQUESTS_k19 := fun _ => .inr ⟨_, _, _, w_REQUESTS_k19, rfl, rfl, len_line (Nat.le_of_ble_eq_true rfl), (.cons rfl (.cons rfl .nil))⟩, w_REQUESTS_k19_0 := fun _ => .inr ⟨_, _, _, w_REQUESTS_k19_0, rfl, rfl, len_line (Nat.le_of_ble_eq_true rfl), (.cons ⟨_, rfl⟩ (.cons rfl (.cons rfl .nil)))⟩, w_REQUESTS_k19_0_1 := fun _ => .inr ⟨_, _, _, w_REQUESTS_k19_0_1, rfl, rfl, len_line (Nat.le_of_ble_eq_true rfl), (.cons ⟨_, rfl⟩ (.cons ⟨_, rfl⟩ (.cons ⟨_, rfl⟩ .nil)))⟩, w_REQUESTS_k19_1 := fun _ => .inr ⟨_, _, _, w_REQUESTS_k19_1, rfl, rfl, len_line (Nat.le_of_ble_eq_true rfl), (.cons ⟨_, rfl⟩ (.cons rfl (.cons rfl .nil)))⟩, w_REQUESTS_k19_1_1 := fun _ => .inr ⟨_, _, _, w_REQUESTS_k19_1_1, rfl, rfl, len_line (Nat.le_of_ble_eq_true rfl), .nil⟩, w_REQUESTS_k20 := fun _ => .inr ⟨_, _, _, w_REQUESTS_k20, rfl, rfl, len_line (Nat.le_of_ble_eq_true rfl), (.cons rfl (.cons rfl .nil))⟩, w_REQUESTS_k20_0 := fun _ => .inr ⟨_, _, _, w_REQUESTS_k20_0, rfl, rfl, len_line (Nat.le_of_ble_eq_true rfl), (.cons ⟨_, rfl⟩ (.cons rfl (.cons rfl .nil)))⟩, w_REQUESTS_k20_0_1 := fun _ => .inr ⟨_, _, _, w_REQUESTS_k20_0_1, rfl, rfl, len_line (Nat.le_of_ble_eq_true rfl), (.cons ⟨_, rfl⟩ (.cons ⟨_, rfl⟩ .nil))⟩, w_REQUESTS_k20_1 := fun _ => .inr ⟨_, _, _, w_REQUESTS_k20_1, rfl, rfl, len_line (Nat.le_of_ble_eq_true rfl), (.cons ⟨_, rfl⟩ (.cons rfl (.cons rfl .nil)))⟩, w_REQUESTS_k20_1_1 := fun _ => .inr ⟨_, _, _, w_REQUESTS_k20_1_1, rfl, rfl, len_line (Nat.le_of_ble_eq_true rfl), .nil⟩, w_REQUESTS_k21 := fun _ => .inr ⟨_, _, _, w_REQUESTS_k21, rfl, rfl, len_line (Nat.le_of_ble_eq_true rfl), (.cons rfl (.cons rfl .nil))⟩, w_REQUESTS_k21_0 := fun _ => .inr ⟨_, _, _, w_REQUESTS_k21_0, rfl, rfl, len_line (Nat.le_of_ble_eq_true rfl), (.cons ⟨_, rfl⟩ (.cons rfl (.cons rfl .nil)))⟩, w_REQUESTS_k21_0_1 := fun _ => .inr ⟨_, _, _, w_REQUESTS_k21_0_1, rfl, rfl, len_line (Nat.le_of_ble_eq_true rfl), (.cons ⟨_, rfl⟩ (.cons ⟨_, rfl⟩ .nil))⟩, w_REQUESTS_k21_1 := fun _ => .inr ⟨_, _, _, w_REQUESTS_k21_1, rfl, rfl, len_line (Nat.le_of_ble_eq_true rfl), (.cons ⟨_, rfl⟩ (.cons rfl (.cons rfl .nil)))⟩, w_REQUESTS_k21_1_1 := fun _ => .inr ⟨_, _, _, w_REQUESTS_k21_1_1, rfl, rfl, len_line (Nat.le_of_ble_eq_true rfl), .nil⟩, w_REQUESTS_k22 := fun _ => .inr ⟨_, _, _, w_REQUESTS_k22, rfl, rfl, len_line (Nat.le_of_ble_eq_true rfl), (.cons rfl .nil)⟩, w_REQUESTS_k22_0 := fun _ => .inr ⟨_, _, _, w_REQUESTS_k22_0, rfl, rfl, len_line (Nat.le_of_ble_eq_true rfl), (.cons ⟨_, rfl⟩ (.cons rfl (.cons rfl .nil)))⟩, w_REQUESTS_k22_0_1 := fun _ => .inr ⟨_, _, _, w_REQUESTS_k22_0_1, rfl, rfl, len_line (Nat.le_of_ble_eq_true rfl), .nil⟩, clObjects := ⟨pgObjects, hdObjects, poObjects, saObjects⟩, gObjects := PySem.W.mg_of X G uObjects, nObjects__interfaces := nObjects__interfaces, nObjects__next_made := nObjects__next_made, clRequest := ⟨pgRequest, hdRequest, poRequest, saRequest⟩, gRequest := PySem.W.mg_of X G uRequest, nRequest_number := nRequest_number, nRequest_interface := nRequest_interface, nRequest_name := nRequest_name, nRequest_arguments := nRequest_arguments, nRequest_ends := nRequest_ends, gBadMessage := PySem.W.mg_of X G uBadMessage, xBadMessage := xBadMessage, kBadMessage := keBadMessage, bxBadMessage := bxBadMessage, txBadMessage := txBadMessage, exBadMessage := exm_self bxBadMessage ixBadMessage txBadMessage sxBadMessage, gMessageTooLong := PySem.W.mg_of X G uMessageTooLong, xMessageTooLong := xMessageTooLong, kMessageTooLong := keMessageTooLong, bxMessageTooLong := bxMessageTooLong, txMessageTooLong := txMessageTooLong, exMessageTooLong := exm_self bxMessageTooLong ixMessageTooLong txMessageTooLong sxMessageTooLong, gBadLength := PySem.W.mg_of X G uBadLength, xBadLength := xBadLength, kBadLength := keBadLength, bxBadLength := bxBadLength, txBadLength := txBadLength, exBadLength := exm_self bxBadLength ixBadLength txBadLength sxBadLength, gBadText := PySem.W.mg_of X G uBadText, xBadText := xBadText, kBadText := keBadText, bxBadText := bxBadText, txBadText := txBadText, exBadText := exm_self bxBadText ixBadText txBadText sxBadText, gBadPadding := PySem.W.mg_of X G uBadPadding, xBadPadding := xBadPadding, kBadPadding := keBadPadding, bxBadPadding := bxBadPadding, txBadPadding := txBadPadding, exBadPadding := exm_self bxBadPadding ixBadPadding txBadPadding sxBadPadding, gObjectMissing := PySem.W.mg_of X G uObjectMissing, xObjectMissing := xObjectMissing, kObjectMissing := keObjectMissing, bxObjectMissing := bxObjectMissing, txObjectMissing := txObjectMissing, exObjectMissing := exm_self bxObjectMissing ixObjectMissing txObjectMissing sxObjectMissing, gFault := PySem.W.mg_of X G uFault, oFault := oFault, vFault := ⟨oFault, mrFault, ksFault, veFault, tpFault⟩, xfFault := ⟨gaFault, gtFault, bxFault, hxFault⟩, iXFault := ⟨gaFault, gtFault, bxFault, hxFault, fcFault, sgFault, tkFault, moFault⟩, kFault := keFault, bxFault := bxFault, txFault := txFault, exFault := exm_self bxFault ixFault txFault sxFault, nFault_number := nFault_number, nFault_code := nFault_code, nFault_words := nFault_words, exBadMessage_MessageTooLong := exm_cross bxMessageTooLong ixMessageTooLong txMessageTooLong subBadMessage_MessageTooLong, exBadMessage_BadLength := exm_cross bxBadLength ixBadLength txBadLength subBadMessage_BadLength, exBadMessage_BadText := exm_cross bxBadText ixBadText txBadText subBadMessage_BadText, exBadMessage_BadPadding := exm_cross bxBadPadding ixBadPadding txBadPadding subBadMessage_BadPadding, exBadMessage_ObjectMissing := exm_cross bxObjectMissing ixObjectMissing txObjectMissing subBadMessage_ObjectMissing, exBadMessage_Fault := exm_cross bxFault ixFault txFault subBadMessage_Fault, exMessageTooLong_BadMessage := exm_cross bxBadMessage ixBadMessage txBadMessage subMessageTooLong_BadMessage, exMessageTooLong_BadLength := exm_cross bxBadLength ixBadLength txBadLength subMessageTooLong_BadLength, exMessageTooLong_BadText := exm_cross bxBadText ixBadText txBadText subMessageTooLong_BadText, exMessageTooLong_BadPadding := exm_cross bxBadPadding ixBadPadding txBadPadding subMessageTooLong_BadPadding, exMessageTooLong_ObjectMissing := exm_cross bxObjectMissing ixObjectMissing txObjectMissing subMessageTooLong_ObjectMissing, exMessageTooLong_Fault := exm_cross bxFault ixFault txFault subMessageTooLong_Fault, exBadLength_BadMessage := exm_cross bxBadMessage ixBadMessage txBadMessage subBadLength_BadMessage, exBadLength_MessageTooLong := exm_cross bxMessageTooLong ixMessageTooLong txMessageTooLong subBadLength_MessageTooLong, exBadLength_BadText := exm_cross bxBadText ixBadText txBadText subBadLength_BadText, exBadLength_BadPadding := exm_cross bxBadPadding ixBadPadding txBadPadding subBadLength_BadPadding, exBadLength_ObjectMissing := exm_cross bxObjectMissing ixObjectMissing txObjectMissing subBadLength_ObjectMissing, exBadLength_Fault := exm_cross bxFault ixFault txFault subBadLength_Fault, exBadText_BadMessage := exm_cross bxBadMessage ixBadMessage txBadMessage subBadText_BadMessage, exBadText_MessageTooLong := exm_cross bxMessageTooLong ixMessageTooLong txMessageTooLong subBadText_MessageTooLong, exBadText_BadLength := exm_cross bxBadLength ixBadLength txBadLength subBadText_BadLength, exBadText_BadPadding := exm_cross bxBadPadding ixBadPadding txBadPadding subBadText_BadPadding, exBadText_ObjectMissing := exm_cross bxObjectMissing ixObjectMissing txObjectMissing subBadText_ObjectMissing, exBadText_Fault := exm_cross bxFault ixFault txFault subBadText_Fault, exBadPadding_BadMessage := exm_cross bxBadMessage ixBadMessage txBadMessage subBadPadding_BadMessage, exBadPadding_MessageTooLong := exm_cross bxMessageTooLong ixMessageTooLong txMessageTooLong subBadPadding_MessageTooLong, exBadPadding_BadLength := exm_cross bxBadLength ixBadLength txBadLength subBadPadding_BadLength, exBadPadding_BadText := exm_cross bxBadText ixBadText txBadText subBadPadding_BadText, exBadPadding_ObjectMissing := exm_cross bxObjectMissing ixObjectMissing txObjectMissing subBadPadding_ObjectMissing, exBadPadding_Fault := exm_cross bxFault ixFault txFault subBadPadding_Fault, exObjectMissing_BadMessage := exm_cross bxBadMessage ixBadMessage txBadMessage subObjectMissing_BadMessage, exObjectMissing_MessageTooLong := exm_cross bxMessageTooLong ixMessageTooLong txMessageTooLong subObjectMissing_MessageTooLong, exObjectMissing_BadLength := exm_cross bxBadLength ixBadLength txBadLength subObjectMissing_BadLength, exObjectMissing_BadText := exm_cross bxBadText ixBadText txBadText subObjectMissing_BadText, exObjectMissing_BadPadding := exm_cross bxBadPadding ixBadPadding txBadPadding subObjectMissing_BadPadding, exObjectMissing_Fault := exm_cross bxFault ixFault txFault subObjectMissing_Fault, exFault_BadMessage := exm_cross bxBadMessage ixBadMessage txBadMessage subFault_BadMessage, exFault_MessageTooLong := exm_cross bxMessageTooLong ixMessageTooLong txMessageTooLong subFault_MessageTooLong, exFault_BadLength := exm_cross bxBadLength ixBadLength txBadLength subFault_BadLength, exFault_BadText := exm_cross bxBadText ixBadText txBadText subFault_BadText, exFault_BadPadding := exm_cross bxBadPadding ixBadPadding txBadPadding subFault_BadPadding, exFault_ObjectMissing := exm_cross bxObjectMissing ixObjectMissing txObjectMissing subFault_ObjectMissing, prg := hP }, { kk_REQUESTS := ⟨_, _, _, dl_REQUESTS, dk_REQUESTS, dv_REQUESTS, (.cons ⟨_, rfl⟩ (.cons ⟨_, rfl⟩ (.cons ⟨_, rfl⟩ (.cons ⟨_, rfl⟩ (.cons ⟨_, rfl⟩ (.cons ⟨_, rfl⟩ (.cons ⟨_, rfl⟩ (.cons ⟨_, rfl⟩ (.cons ⟨_, rfl⟩ (.cons ⟨_, rfl⟩ (.cons ⟨_, rfl⟩ (.cons ⟨_, rfl⟩ (.cons ⟨_, rfl⟩ (.cons ⟨_, rfl⟩ (.cons ⟨_, rfl⟩ (.cons ⟨_, rfl⟩ (.cons ⟨_, rfl⟩ (.cons ⟨_, rfl⟩ (.cons ⟨_, rfl⟩ (.cons ⟨_, rfl⟩ (.cons ⟨_, rfl⟩ (.cons ⟨_, rfl⟩ (.cons ⟨_, rfl⟩ .nil))))))))))))))))))))))), dy_REQUESTS⟩, d_REQUESTS_k0 := ⟨_, _, _, dl_REQUESTS, dk_REQUESTS, de_REQUESTS_k0, rfl⟩, d_REQUESTS_k1 := ⟨_, _, _, dl_REQUESTS, dk_REQUESTS, de_REQUESTS_k1, rfl⟩, d_REQUESTS_k2 := ⟨_, _, _, dl_REQUESTS, dk_REQUESTS, de_REQUESTS_k2, rfl⟩, d_REQUESTS_k3 := ⟨_, _, _, dl_REQUESTS, dk_REQUESTS, de_REQUESTS_k3, rfl⟩, d_REQUESTS_k4 := ⟨_, _, _, dl_REQUESTS, dk_REQUESTS, de_REQUESTS_k4, rfl⟩, d_REQUESTS_k5 := ⟨_, _, _, dl_REQUESTS, dk_REQUESTS, de_REQUESTS_k5, rfl⟩, d_REQUESTS_k6 := ⟨_, _, _, dl_REQUESTS, dk_REQUESTS, de_REQUESTS_k6, rfl⟩, d_REQUESTS_k7 := ⟨_, _, _, dl_REQUESTS, dk_REQUESTS, de_REQUESTS_k7, rfl⟩, d_REQUESTS_k8 := ⟨_, _, _, dl_REQUESTS, dk_REQUESTS, de_REQUESTS_k8, rfl⟩, d_REQUESTS_k9 := ⟨_, _, _, dl_REQUESTS, dk_REQUESTS, de_REQUESTS_k9, rfl⟩, d_REQUESTS_k10 := ⟨_, _, _, dl_REQUESTS, dk_REQUESTS, de_REQUESTS_k10, rfl⟩, d_REQUESTS_k11 := ⟨_, _, _, dl_REQUESTS, dk_REQUESTS, de_REQUESTS_k11, rfl⟩, d_REQUESTS_k12 := ⟨_, _, _, dl_REQUESTS, dk_REQUESTS, de_REQUESTS_k12, rfl⟩, d_REQUESTS_k13 := ⟨_, _, _, dl_REQUESTS, dk_REQUESTS, de_REQUESTS_k13, rfl⟩, d_REQUESTS_k14 := ⟨_, _, _, dl_REQUESTS, dk_REQUESTS, de_REQUESTS_k14, rfl⟩, d_REQUESTS_k15 := ⟨_, _, _, dl_REQUESTS, dk_REQUESTS, de_REQUESTS_k15, rfl⟩, d_REQUESTS_k16 := ⟨_, _, _, dl_REQUESTS, dk_REQUESTS, de_REQUESTS_k16, rfl⟩, d_REQUESTS_k17 := ⟨_, _, _, dl_REQUESTS, dk_REQUESTS, de_REQUESTS_k17, rfl⟩, d_REQUESTS_k18 := ⟨_, _, _, dl_REQUESTS, dk_REQUESTS, de_REQUESTS_k18, rfl⟩, d_REQUESTS_k19 := ⟨_, _, _, dl_REQUESTS, dk_REQUESTS, de_REQUESTS_k19, rfl⟩, d_REQUESTS_k20 := ⟨_, _, _, dl_REQUESTS, dk_REQUESTS, de_REQUESTS_k20, rfl⟩, d_REQUESTS_k21 := ⟨_, _, _, dl_REQUESTS, dk_REQUESTS, de_REQUESTS_k21, rfl⟩, d_REQUESTS_k22 := ⟨_, _, _, dl_REQUESTS, dk_REQUESTS, de_REQUESTS_k22, rfl⟩ }, fun s v => .of_eq rfl⟩
theorem walk {l : PySem.W.OpenLaw} {q : Program} {loose : List Str} {XP : (Str → Option Value) → Heap → Prop} {YP : World → Heap → Prop} {d : DefRec} {K : Params → PySem.W.Frag} (hn : l.most = some 63) (hdf : d.params.defaults = [])
    (hY : ∀ (w : World) (h : Heap), YP w h → (K w.params).In h)
    (F : ∀ (w : World) (mg : Str → Option Value) (fa : Addr) (h : Heap), (K w.params).In h → h.Ns mainGlobals mg → mg d.name = some (.ref fa) →
      ∃ A : Adr, A.flaw = fa ∧ Txt0 l.prog (K w.params) mg A ∧ Dic w (K w.params) A ∧ (∀ (s : Shared) (v : Value), BindsTo s A.dlaw ⟨[v], []⟩ [("script", v)])) :
    PySem.W.WalkO q loose XP YP l.row.toRowW d [] (fun f vs => PySem.call f vs) :=
  L2.walk_of (n := 63) (k := 11) (x := "script") (CX := fun _ => CX0) (sp := fun w => sp_law (K w.params)) hn (by decide) hdf ⟨rfl, by decide, by decide⟩ hY (fun w mg fa h X G hfa => by
    obtain ⟨A, rfl, T, D, b⟩ := F w mg fa h X G hfa
    exact ⟨A.dlaw, b, fun base _ _ => ok_law T D⟩) (fun _ _ a ns hl _ hS => ⟨a, ns, rfl, hS, hl, fun _ => rfl⟩) fun _ _ _ _ _ z => z
/-! ### the head: what the top leaves, by one kernel run -/
def KF (PP : Params) : PySem.W.Frag :=
(nat_lit 2, Obj.mk Value.none none (Data.dict #[]) #[]) ::
(nat_lit 3, Obj.mk (Value.type "dict") none (Data.dict #[DictEntry.mk (PyData.keyHash PP (Str.ofString "__name__")) (Value.str (Str.ofString "__name__") 165) (Value.str (Str.ofString "law_sillwatch_k13_refused_requests") 1013), DictEntry.mk (PyData.keyHash PP (Str.ofString "__doc__")) (Value.str (Str.ofString "__doc__") 166) Value.none, DictEntry.mk (PyData.keyHash PP (Str.ofString "__package__")) (Value.str (Str.ofString "__package__") 167) Value.none, DictEntry.mk (PyData.keyHash PP (Str.ofString "__loader__")) (Value.str (Str.ofString "__loader__") 168) (Value.builtin "__main__.__loader__#opaque"), DictEntry.mk (PyData.keyHash PP (Str.ofString "__spec__")) (Value.str (Str.ofString "__spec__") 169) Value.none, DictEntry.mk (PyData.keyHash PP (Str.ofString "__annotations__")) (Value.str (Str.ofString "__annotations__") 170) (Value.ref 6), DictEntry.mk (PyData.keyHash PP (Str.ofString "__builtins__")) (Value.str (Str.ofString "__builtins__") 171) (Value.ref 4), DictEntry.mk (PyData.keyHash PP (Str.ofString "__file__")) (Value.str (Str.ofString "__file__") 173) (Value.str (Str.ofString "/claim/cut.py") 172), DictEntry.mk (PyData.keyHash PP (Str.ofString "__cached__")) (Value.str (Str.ofString "__cached__") 174) Value.none, DictEntry.mk (PyData.keyHash PP (Str.ofString "DisplayError")) (Value.str (Str.ofString "DisplayError") 206) (Value.ref 24), DictEntry.mk (PyData.keyHash PP (Str.ofString "BadMessage")) (Value.str (Str.ofString "BadMessage") 222) (Value.ref 37), DictEntry.mk (PyData.keyHash PP (Str.ofString "MessageTooLong")) (Value.str (Str.ofString "MessageTooLong") 238) (Value.ref 49), DictEntry.mk (PyData.keyHash PP (Str.ofString "BadArguments")) (Value.str (Str.ofString "BadArguments") 254) (Value.ref 61), DictEntry.mk (PyData.keyHash PP (Str.ofString "BadLength")) (Value.str (Str.ofString "BadLength") 270) (Value.ref 73), DictEntry.mk (PyData.keyHash PP (Str.ofString "BadText")) (Value.str (Str.ofString "BadText") 286) (Value.ref 85), DictEntry.mk (PyData.keyHash PP (Str.ofString "BadPadding")) (Value.str (Str.ofString "BadPadding") 302) (Value.ref 97), DictEntry.mk (PyData.keyHash PP (Str.ofString "ObjectMissing")) (Value.str (Str.ofString "ObjectMissing") 318) (Value.ref 109), DictEntry.mk (PyData.keyHash PP (Str.ofString "Fault")) (Value.str (Str.ofString "Fault") 349) (Value.ref 130), DictEntry.mk (PyData.keyHash PP (Str.ofString "DISPLAY")) (Value.str (Str.ofString "DISPLAY") 353) (Value.int 1 352), DictEntry.mk (PyData.keyHash PP (Str.ofString "LEAST_GIVEN")) (Value.str (Str.ofString "LEAST_GIVEN") 355) (Value.int 2 354), DictEntry.mk (PyData.keyHash PP (Str.ofString "GREATEST_GIVEN")) (Value.str (Str.ofString "GREATEST_GIVEN") 357) (Value.int 4278190079 356), DictEntry.mk (PyData.keyHash PP (Str.ofString "MOST_OBJECTS")) (Value.str (Str.ofString "MOST_OBJECTS") 359) (Value.int 512 358), DictEntry.mk (PyData.keyHash PP (Str.ofString "Objects")) (Value.str (Str.ofString "Objects") 444) (Value.ref 198), DictEntry.mk (PyData.keyHash PP (Str.ofString "GREATEST_NUMBER")) (Value.str (Str.ofString "GREATEST_NUMBER") 448) (Value.int 4294967295 447), DictEntry.mk (PyData.keyHash PP (Str.ofString "LEAST_INT")) (Value.str (Str.ofString "LEAST_INT") 451) (Value.int (-2147483648) 450), DictEntry.mk (PyData.keyHash PP (Str.ofString "GREATEST_INT")) (Value.str (Str.ofString "GREATEST_INT") 453) (Value.int 2147483647 452), DictEntry.mk (PyData.keyHash PP (Str.ofString "LONGEST_TEXT")) (Value.str (Str.ofString "LONGEST_TEXT") 455) (Value.int 1000 454), DictEntry.mk (PyData.keyHash PP (Str.ofString "MOST_OCTETS")) (Value.str (Str.ofString "MOST_OCTETS") 457) (Value.int 16384 456), DictEntry.mk (PyData.keyHash PP (Str.ofString "_FIRST_CODE")) (Value.str (Str.ofString "_FIRST_CODE") 459) (Value.int 32 458), DictEntry.mk (PyData.keyHash PP (Str.ofString "_LAST_CODE")) (Value.str (Str.ofString "_LAST_CODE") 461) (Value.int 126 460), DictEntry.mk (PyData.keyHash PP (Str.ofString "_PERCENT_CODE")) (Value.str (Str.ofString "_PERCENT_CODE") 463) (Value.int 37 462), DictEntry.mk (PyData.keyHash PP (Str.ofString "_CHARACTERS")) (Value.str (Str.ofString "_CHARACTERS") 465) (Value.str (Str.ofString " !\"#$ &'()*+,-./0123456789:;<=>?@ABCDEFGHIJKLMNOPQRSTUVWXYZ[\\]^_`abcdefghijklmnopqrstuvwxyz{|}~") 464), DictEntry.mk (PyData.keyHash PP (Str.ofString "is_integer")) (Value.str (Str.ofString "is_integer") 474) (Value.ref 209), DictEntry.mk (PyData.keyHash PP (Str.ofString "is_text")) (Value.str (Str.ofString "is_text") 480) (Value.ref 214), DictEntry.mk (PyData.keyHash PP (Str.ofString "number_octets")) (Value.str (Str.ofString "number_octets") 486) (Value.ref 219), DictEntry.mk (PyData.keyHash PP (Str.ofString "number_at")) (Value.str (Str.ofString "number_at") 492) (Value.ref 224), DictEntry.mk (PyData.keyHash PP (Str.ofString "field_octets")) (Value.str (Str.ofString "field_octets") 502) (Value.ref 231), DictEntry.mk (PyData.keyHash PP (Str.ofString "read_arguments")) (Value.str (Str.ofString "read_arguments") 514) (Value.ref 238), DictEntry.mk (PyData.keyHash PP (Str.ofString "_is_code")) (Value.str (Str.ofString "_is_code") 521) (Value.ref 245), DictEntry.mk (PyData.keyHash PP (Str.ofString "_is_of")) (Value.str (Str.ofString "_is_of") 529) (Value.ref 252), DictEntry.mk (PyData.keyHash PP (Str.ofString "_are_octets")) (Value.str (Str.ofString "_are_octets") 535) (Value.ref 257), DictEntry.mk (PyData.keyHash PP (Str.ofString "_is_bound")) (Value.str (Str.ofString "_is_bound") 542) (Value.ref 264), DictEntry.mk (PyData.keyHash PP (Str.ofString "_text_octets")) (Value.str (Str.ofString "_text_octets") 548) (Value.ref 269), DictEntry.mk (PyData.keyHash PP (Str.ofString "_padded")) (Value.str (Str.ofString "_padded") 555) (Value.ref 276), DictEntry.mk (PyData.keyHash PP (Str.ofString "_read")) (Value.str (Str.ofString "_read") 567) (Value.ref 283), DictEntry.mk (PyData.keyHash PP (Str.ofString "_read_number")) (Value.str (Str.ofString "_read_number") 575) (Value.ref 290), DictEntry.mk (PyData.keyHash PP (Str.ofString "_read_named")) (Value.str (Str.ofString "_read_named") 585) (Value.ref 297), DictEntry.mk (PyData.keyHash PP (Str.ofString "_read_text")) (Value.str (Str.ofString "_read_text") 591) (Value.ref 302), DictEntry.mk (PyData.keyHash PP (Str.ofString "_read_octets")) (Value.str (Str.ofString "_read_octets") 603) (Value.ref 309), DictEntry.mk (PyData.keyHash PP (Str.ofString "_demand")) (Value.str (Str.ofString "_demand") 611) (Value.ref 316), DictEntry.mk (PyData.keyHash PP (Str.ofString "_behind_padding")) (Value.str (Str.ofString "_behind_padding") 620) (Value.ref 323), DictEntry.mk (PyData.keyHash PP (Str.ofString "HEADER_SIZE")) (Value.str (Str.ofString "HEADER_SIZE") 624) (Value.int 8 623), DictEntry.mk (PyData.keyHash PP (Str.ofString "GREATEST_SIZE")) (Value.str (Str.ofString "GREATEST_SIZE") 626) (Value.int 20480 625), DictEntry.mk (PyData.keyHash PP (Str.ofString "GREATEST_OPCODE")) (Value.str (Str.ofString "GREATEST_OPCODE") 628) (Value.int 65535 627), DictEntry.mk (PyData.keyHash PP (Str.ofString "MOST_ARGUMENTS")) (Value.str (Str.ofString "MOST_ARGUMENTS") 630) (Value.int 20 629), DictEntry.mk (PyData.keyHash PP (Str.ofString "encode_message")) (Value.str (Str.ofString "encode_message") 643) (Value.ref 330), DictEntry.mk (PyData.keyHash PP (Str.ofString "_REQUESTS")) (Value.str (Str.ofString "_REQUESTS") 875) (Value.ref 331), DictEntry.mk (PyData.keyHash PP (Str.ofString "request_row")) (Value.str (Str.ofString "request_row") 883) (Value.ref 500), DictEntry.mk (PyData.keyHash PP (Str.ofString "request_opcode")) (Value.str (Str.ofString "request_opcode") 891) (Value.ref 507), DictEntry.mk (PyData.keyHash PP (Str.ofString "_row_at")) (Value.str (Str.ofString "_row_at") 899) (Value.ref 514), DictEntry.mk (PyData.keyHash PP (Str.ofString "_opcode_of")) (Value.str (Str.ofString "_opcode_of") 905) (Value.ref 519), DictEntry.mk (PyData.keyHash PP (Str.ofString "Request")) (Value.str (Str.ofString "Request") 944) (Value.ref 536), DictEntry.mk (PyData.keyHash PP (Str.ofString "look_at")) (Value.str (Str.ofString "look_at") 961) (Value.ref 547), DictEntry.mk (PyData.keyHash PP (Str.ofString "new_object")) (Value.str (Str.ofString "new_object") 973) (Value.ref 554), DictEntry.mk (PyData.keyHash PP (Str.ofString "_kind_and_interface")) (Value.str (Str.ofString "_kind_and_interface") 983) (Value.ref 561), DictEntry.mk (PyData.keyHash PP (Str.ofString "_arguments")) (Value.str (Str.ofString "_arguments") 989) (Value.ref 566), DictEntry.mk (PyData.keyHash PP (Str.ofString "_check_named")) (Value.str (Str.ofString "_check_named") 1003) (Value.ref 573), DictEntry.mk (PyData.keyHash PP (Str.ofString "_check_new")) (Value.str (Str.ofString "_check_new") 1012) (Value.ref 580), DictEntry.mk (PyData.keyHash PP (Str.ofString "_law_cell")) (Value.str (Str.ofString "_law_cell") 1023) (Value.ref 587), DictEntry.mk (PyData.keyHash PP (Str.ofString "_law_row")) (Value.str (Str.ofString "_law_row") 1034) (Value.ref 594), DictEntry.mk (PyData.keyHash PP (Str.ofString "_law_rows")) (Value.str (Str.ofString "_law_rows") 1040) (Value.ref 601), DictEntry.mk (PyData.keyHash PP (Str.ofString "_law_list")) (Value.str (Str.ofString "_law_list") 1047) (Value.ref 608), DictEntry.mk (PyData.keyHash PP (Str.ofString "_law_split")) (Value.str (Str.ofString "_law_split") 1059) (Value.ref 615), DictEntry.mk (PyData.keyHash PP (Str.ofString "_law_table")) (Value.str (Str.ofString "_law_table") 1065) (Value.ref 620), DictEntry.mk (PyData.keyHash PP (Str.ofString "_law_world")) (Value.str (Str.ofString "_law_world") 1071) (Value.ref 625), DictEntry.mk (PyData.keyHash PP (Str.ofString "_law_pick")) (Value.str (Str.ofString "_law_pick") 1077) (Value.ref 630), DictEntry.mk (PyData.keyHash PP (Str.ofString "_law_free")) (Value.str (Str.ofString "_law_free") 1087) (Value.ref 637), DictEntry.mk (PyData.keyHash PP (Str.ofString "_law_argument")) (Value.str (Str.ofString "_law_argument") 1097) (Value.ref 644), DictEntry.mk (PyData.keyHash PP (Str.ofString "_law_bad")) (Value.str (Str.ofString "_law_bad") 1109) (Value.ref 651), DictEntry.mk (PyData.keyHash PP (Str.ofString "_law_due")) (Value.str (Str.ofString "_law_due") 1123) (Value.ref 658), DictEntry.mk (PyData.keyHash PP (Str.ofString "_law_told")) (Value.str (Str.ofString "_law_told") 1132) (Value.ref 665), DictEntry.mk (PyData.keyHash PP (Str.ofString "_law_asked")) (Value.str (Str.ofString "_law_asked") 1138) (Value.ref 670), DictEntry.mk (PyData.keyHash PP (Str.ofString "law")) (Value.str (Str.ofString "law") 1147) (Value.ref 677)] 83) #[]) ::
(nat_lit 15, Obj.mk (Value.type "tuple") none (Data.seq #[Value.type "ValueError"]) #[]) ::
(nat_lit 22, Obj.mk (Value.type "tuple") none (Data.seq #[]) #[]) ::
(nat_lit 23, Obj.mk (Value.type "dict") none (Data.dict #[DictEntry.mk (PyData.keyHash PP (Str.ofString "__module__")) (Value.str (Str.ofString "__module__") 196) (Value.str (Str.ofString "sillwatch.errors") 187), DictEntry.mk (PyData.keyHash PP (Str.ofString "__firstlineno__")) (Value.str (Str.ofString "__firstlineno__") 200) (Value.int 2 199), DictEntry.mk (PyData.keyHash PP (Str.ofString "__static_attributes__")) (Value.str (Str.ofString "__static_attributes__") 201) (Value.ref 22), DictEntry.mk (PyData.keyHash PP (Str.ofString "__weakref__")) (Value.str (Str.ofString "__weakref__") 203) (Value.ref 25), DictEntry.mk (PyData.keyHash PP (Str.ofString "__doc__")) (Value.str (Str.ofString "__doc__") 204) Value.none] 3) #[]) ::
(nat_lit 24, Obj.mk (Value.type "type") none (Data.cls (ClassData.mk (Str.ofString "DisplayError") [Value.type "ValueError"] [Value.ref 24, Value.type "ValueError", Value.type "Exception", Value.type "BaseException", Value.type "object"] 23 (Str.ofString "DisplayError") true [] [Value.ref 37, Value.ref 49, Value.ref 61, Value.ref 130] false none false)) #[some (Value.ref 15), none, some (Value.str (Str.ofString "DisplayError") 189), some (Value.str (Str.ofString "DisplayError") 197), some (Value.builtin "ValueError.__new__"), some (Value.bool true)]) ::
(nat_lit 25, Obj.mk (Value.type "getset_descriptor") none (Data.fields #[Value.str (Str.ofString "__weakref__") 202, Value.ref 24, Value.builtin "ExceptionGroup.__weakref__", Value.none]) #[]) ::
(nat_lit 28, Obj.mk (Value.type "tuple") none (Data.seq #[Value.ref 24]) #[]) ::
(nat_lit 35, Obj.mk (Value.type "tuple") none (Data.seq #[]) #[]) ::
(nat_lit 36, Obj.mk (Value.type "dict") none (Data.dict #[DictEntry.mk (PyData.keyHash PP (Str.ofString "__module__")) (Value.str (Str.ofString "__module__") 214) (Value.str (Str.ofString "sillwatch.errors") 187), DictEntry.mk (PyData.keyHash PP (Str.ofString "__firstlineno__")) (Value.str (Str.ofString "__firstlineno__") 218) (Value.int 4 217), DictEntry.mk (PyData.keyHash PP (Str.ofString "__static_attributes__")) (Value.str (Str.ofString "__static_attributes__") 219) (Value.ref 35), DictEntry.mk (PyData.keyHash PP (Str.ofString "__doc__")) (Value.str (Str.ofString "__doc__") 220) Value.none] 2) #[]) ::
(nat_lit 37, Obj.mk (Value.type "type") none (Data.cls (ClassData.mk (Str.ofString "BadMessage") [Value.ref 24] [Value.ref 37, Value.ref 24, Value.type "ValueError", Value.type "Exception", Value.type "BaseException", Value.type "object"] 36 (Str.ofString "BadMessage") true [] [] false none false)) #[some (Value.ref 28), none, some (Value.str (Str.ofString "BadMessage") 207), some (Value.str (Str.ofString "BadMessage") 215), some (Value.builtin "ValueError.__new__"), some (Value.bool true)]) ::
(nat_lit 40, Obj.mk (Value.type "tuple") none (Data.seq #[Value.ref 24]) #[]) ::
(nat_lit 47, Obj.mk (Value.type "tuple") none (Data.seq #[]) #[]) ::
(nat_lit 48, Obj.mk (Value.type "dict") none (Data.dict #[DictEntry.mk (PyData.keyHash PP (Str.ofString "__module__")) (Value.str (Str.ofString "__module__") 230) (Value.str (Str.ofString "sillwatch.errors") 187), DictEntry.mk (PyData.keyHash PP (Str.ofString "__firstlineno__")) (Value.str (Str.ofString "__firstlineno__") 234) (Value.int 6 233), DictEntry.mk (PyData.keyHash PP (Str.ofString "__static_attributes__")) (Value.str (Str.ofString "__static_attributes__") 235) (Value.ref 47), DictEntry.mk (PyData.keyHash PP (Str.ofString "__doc__")) (Value.str (Str.ofString "__doc__") 236) Value.none] 2) #[]) ::
(nat_lit 49, Obj.mk (Value.type "type") none (Data.cls (ClassData.mk (Str.ofString "MessageTooLong") [Value.ref 24] [Value.ref 49, Value.ref 24, Value.type "ValueError", Value.type "Exception", Value.type "BaseException", Value.type "object"] 48 (Str.ofString "MessageTooLong") true [] [] false none false)) #[some (Value.ref 40), none, some (Value.str (Str.ofString "MessageTooLong") 223), some (Value.str (Str.ofString "MessageTooLong") 231), some (Value.builtin "ValueError.__new__"), some (Value.bool true)]) ::
(nat_lit 52, Obj.mk (Value.type "tuple") none (Data.seq #[Value.ref 24]) #[]) ::
(nat_lit 59, Obj.mk (Value.type "tuple") none (Data.seq #[]) #[]) ::
(nat_lit 60, Obj.mk (Value.type "dict") none (Data.dict #[DictEntry.mk (PyData.keyHash PP (Str.ofString "__module__")) (Value.str (Str.ofString "__module__") 246) (Value.str (Str.ofString "sillwatch.errors") 187), DictEntry.mk (PyData.keyHash PP (Str.ofString "__firstlineno__")) (Value.str (Str.ofString "__firstlineno__") 250) (Value.int 8 249), DictEntry.mk (PyData.keyHash PP (Str.ofString "__static_attributes__")) (Value.str (Str.ofString "__static_attributes__") 251) (Value.ref 59), DictEntry.mk (PyData.keyHash PP (Str.ofString "__doc__")) (Value.str (Str.ofString "__doc__") 252) Value.none] 2) #[]) ::
(nat_lit 61, Obj.mk (Value.type "type") none (Data.cls (ClassData.mk (Str.ofString "BadArguments") [Value.ref 24] [Value.ref 61, Value.ref 24, Value.type "ValueError", Value.type "Exception", Value.type "BaseException", Value.type "object"] 60 (Str.ofString "BadArguments") true [] [Value.ref 73, Value.ref 85, Value.ref 97, Value.ref 109] false none false)) #[some (Value.ref 52), none, some (Value.str (Str.ofString "BadArguments") 239), some (Value.str (Str.ofString "BadArguments") 247), some (Value.builtin "ValueError.__new__"), some (Value.bool true)]) ::
(nat_lit 64, Obj.mk (Value.type "tuple") none (Data.seq #[Value.ref 61]) #[]) ::
(nat_lit 71, Obj.mk (Value.type "tuple") none (Data.seq #[]) #[]) ::
(nat_lit 72, Obj.mk (Value.type "dict") none (Data.dict #[DictEntry.mk (PyData.keyHash PP (Str.ofString "__module__")) (Value.str (Str.ofString "__module__") 262) (Value.str (Str.ofString "sillwatch.errors") 187), DictEntry.mk (PyData.keyHash PP (Str.ofString "__firstlineno__")) (Value.str (Str.ofString "__firstlineno__") 266) (Value.int 10 265), DictEntry.mk (PyData.keyHash PP (Str.ofString "__static_attributes__")) (Value.str (Str.ofString "__static_attributes__") 267) (Value.ref 71), DictEntry.mk (PyData.keyHash PP (Str.ofString "__doc__")) (Value.str (Str.ofString "__doc__") 268) Value.none] 2) #[]) ::
(nat_lit 73, Obj.mk (Value.type "type") none (Data.cls (ClassData.mk (Str.ofString "BadLength") [Value.ref 61] [Value.ref 73, Value.ref 61, Value.ref 24, Value.type "ValueError", Value.type "Exception", Value.type "BaseException", Value.type "object"] 72 (Str.ofString "BadLength") true [] [] false none false)) #[some (Value.ref 64), none, some (Value.str (Str.ofString "BadLength") 255), some (Value.str (Str.ofString "BadLength") 263), some (Value.builtin "ValueError.__new__"), some (Value.bool true)]) ::
(nat_lit 76, Obj.mk (Value.type "tuple") none (Data.seq #[Value.ref 61]) #[]) ::
(nat_lit 83, Obj.mk (Value.type "tuple") none (Data.seq #[]) #[]) ::
(nat_lit 84, Obj.mk (Value.type "dict") none (Data.dict #[DictEntry.mk (PyData.keyHash PP (Str.ofString "__module__")) (Value.str (Str.ofString "__module__") 278) (Value.str (Str.ofString "sillwatch.errors") 187), DictEntry.mk (PyData.keyHash PP (Str.ofString "__firstlineno__")) (Value.str (Str.ofString "__firstlineno__") 282) (Value.int 12 281), DictEntry.mk (PyData.keyHash PP (Str.ofString "__static_attributes__")) (Value.str (Str.ofString "__static_attributes__") 283) (Value.ref 83), DictEntry.mk (PyData.keyHash PP (Str.ofString "__doc__")) (Value.str (Str.ofString "__doc__") 284) Value.none] 2) #[]) ::
(nat_lit 85, Obj.mk (Value.type "type") none (Data.cls (ClassData.mk (Str.ofString "BadText") [Value.ref 61] [Value.ref 85, Value.ref 61, Value.ref 24, Value.type "ValueError", Value.type "Exception", Value.type "BaseException", Value.type "object"] 84 (Str.ofString "BadText") true [] [] false none false)) #[some (Value.ref 76), none, some (Value.str (Str.ofString "BadText") 271), some (Value.str (Str.ofString "BadText") 279), some (Value.builtin "ValueError.__new__"), some (Value.bool true)]) ::
(nat_lit 88, Obj.mk (Value.type "tuple") none (Data.seq #[Value.ref 61]) #[]) ::
(nat_lit 95, Obj.mk (Value.type "tuple") none (Data.seq #[]) #[]) ::
(nat_lit 96, Obj.mk (Value.type "dict") none (Data.dict #[DictEntry.mk (PyData.keyHash PP (Str.ofString "__module__")) (Value.str (Str.ofString "__module__") 294) (Value.str (Str.ofString "sillwatch.errors") 187), DictEntry.mk (PyData.keyHash PP (Str.ofString "__firstlineno__")) (Value.str (Str.ofString "__firstlineno__") 298) (Value.int 14 297), DictEntry.mk (PyData.keyHash PP (Str.ofString "__static_attributes__")) (Value.str (Str.ofString "__static_attributes__") 299) (Value.ref 95), DictEntry.mk (PyData.keyHash PP (Str.ofString "__doc__")) (Value.str (Str.ofString "__doc__") 300) Value.none] 2) #[]) ::
(nat_lit 97, Obj.mk (Value.type "type") none (Data.cls (ClassData.mk (Str.ofString "BadPadding") [Value.ref 61] [Value.ref 97, Value.ref 61, Value.ref 24, Value.type "ValueError", Value.type "Exception", Value.type "BaseException", Value.type "object"] 96 (Str.ofString "BadPadding") true [] [] false none false)) #[some (Value.ref 88), none, some (Value.str (Str.ofString "BadPadding") 287), some (Value.str (Str.ofString "BadPadding") 295), some (Value.builtin "ValueError.__new__"), some (Value.bool true)]) ::
(nat_lit 100, Obj.mk (Value.type "tuple") none (Data.seq #[Value.ref 61]) #[]) ::
(nat_lit 107, Obj.mk (Value.type "tuple") none (Data.seq #[]) #[]) ::
(nat_lit 108, Obj.mk (Value.type "dict") none (Data.dict #[DictEntry.mk (PyData.keyHash PP (Str.ofString "__module__")) (Value.str (Str.ofString "__module__") 310) (Value.str (Str.ofString "sillwatch.errors") 187), DictEntry.mk (PyData.keyHash PP (Str.ofString "__firstlineno__")) (Value.str (Str.ofString "__firstlineno__") 314) (Value.int 16 313), DictEntry.mk (PyData.keyHash PP (Str.ofString "__static_attributes__")) (Value.str (Str.ofString "__static_attributes__") 315) (Value.ref 107), DictEntry.mk (PyData.keyHash PP (Str.ofString "__doc__")) (Value.str (Str.ofString "__doc__") 316) Value.none] 2) #[]) ::
(nat_lit 109, Obj.mk (Value.type "type") none (Data.cls (ClassData.mk (Str.ofString "ObjectMissing") [Value.ref 61] [Value.ref 109, Value.ref 61, Value.ref 24, Value.type "ValueError", Value.type "Exception", Value.type "BaseException", Value.type "object"] 108 (Str.ofString "ObjectMissing") true [] [] false none false)) #[some (Value.ref 100), none, some (Value.str (Str.ofString "ObjectMissing") 303), some (Value.str (Str.ofString "ObjectMissing") 311), some (Value.builtin "ValueError.__new__"), some (Value.bool true)]) ::
(nat_lit 112, Obj.mk (Value.type "tuple") none (Data.seq #[Value.ref 24]) #[]) ::
(nat_lit 115, Obj.mk (Value.type "cell") none (Data.cell (some (Value.ref 130))) #[]) ::
(nat_lit 120, Obj.mk (Value.type "tuple") none (Data.seq #[Value.ref 115]) #[]) ::
(nat_lit 121, Obj.mk (Value.type "tuple") none (Data.seq #[Value.str (Str.ofString "__class__") 334]) #[]) ::
(nat_lit 123, Obj.mk (Value.type "tuple") none (Data.seq #[Value.str (Str.ofString "self") 335, Value.str (Str.ofString "number") 336, Value.str (Str.ofString "code") 337, Value.str (Str.ofString "words") 338]) #[]) ::
(nat_lit 124, Obj.mk (Value.type "tuple") none (Data.seq #[]) #[]) ::
(nat_lit 126, Obj.mk (Value.type "code") none (Data.fields #[Value.str (Str.ofString "__init__") 331, Value.str (Str.ofString "Fault.__init__") 332, Value.str (Str.ofString "/claim/cut.py") 333, Value.int 20 0, Value.int 4 0, Value.int 0 0, Value.int 0 0, Value.int 3 0, Value.ref 121, Value.bool true, Value.int 181 0, Value.ref 122, Value.none, Value.ref 123, Value.ref 124, Value.ref 125, Value.int 339 0, Value.int 20 0, Value.str (Str.ofString "/claim/cut.py") 340]) #[]) ::
(nat_lit 127, Obj.mk (Value.type "function") none (Data.func (FuncData.mk (Str.ofString "__init__") (Str.ofString "Fault.__init__") (defArgs (inClass (topS 9) 0)) (.stmts (defBody (inClass (topS 9) 0))) (defScope (inClass (topS 9) 0)) 3 [(Str.ofString "__class__", 115)] Value.none Value.none Value.none (Value.str (Str.ofString "sillwatch.errors") 187) none (Value.ref 126) (Value.ref 120) 0)) #[]) ::
(nat_lit 128, Obj.mk (Value.type "tuple") none (Data.seq #[Value.str (Str.ofString "code") 342, Value.str (Str.ofString "number") 343, Value.str (Str.ofString "words") 344]) #[]) ::
(nat_lit 129, Obj.mk (Value.type "dict") none (Data.dict #[DictEntry.mk (PyData.keyHash PP (Str.ofString "__module__")) (Value.str (Str.ofString "__module__") 326) (Value.str (Str.ofString "sillwatch.errors") 187), DictEntry.mk (PyData.keyHash PP (Str.ofString "__firstlineno__")) (Value.str (Str.ofString "__firstlineno__") 330) (Value.int 18 329), DictEntry.mk (PyData.keyHash PP (Str.ofString "__init__")) (Value.str (Str.ofString "__init__") 341) (Value.ref 127), DictEntry.mk (PyData.keyHash PP (Str.ofString "__static_attributes__")) (Value.str (Str.ofString "__static_attributes__") 345) (Value.ref 128), DictEntry.mk (PyData.keyHash PP (Str.ofString "__doc__")) (Value.str (Str.ofString "__doc__") 347) Value.none] 3) #[]) ::
(nat_lit 130, Obj.mk (Value.type "type") none (Data.cls (ClassData.mk (Str.ofString "Fault") [Value.ref 24] [Value.ref 130, Value.ref 24, Value.type "ValueError", Value.type "Exception", Value.type "BaseException", Value.type "object"] 129 (Str.ofString "Fault") true [] [] false none false)) #[some (Value.ref 112), none, some (Value.str (Str.ofString "Fault") 319), some (Value.str (Str.ofString "Fault") 327), some (Value.builtin "ValueError.__new__"), some (Value.bool true)]) ::
(nat_lit 140, Obj.mk (Value.type "tuple") none (Data.seq #[]) #[]) ::
(nat_lit 142, Obj.mk (Value.type "tuple") none (Data.seq #[Value.str (Str.ofString "self") 375]) #[]) ::
(nat_lit 143, Obj.mk (Value.type "tuple") none (Data.seq #[]) #[]) ::
(nat_lit 145, Obj.mk (Value.type "code") none (Data.fields #[Value.str (Str.ofString "__init__") 372, Value.str (Str.ofString "Objects.__init__") 373, Value.str (Str.ofString "/claim/cut.py") 374, Value.int 32 0, Value.int 1 0, Value.int 0 0, Value.int 0 0, Value.int 3 0, Value.ref 140, Value.bool true, Value.int 181 0, Value.ref 141, Value.none, Value.ref 142, Value.ref 143, Value.ref 144, Value.int 376 0, Value.int 32 0, Value.str (Str.ofString "/claim/cut.py") 377]) #[]) ::
(nat_lit 146, Obj.mk (Value.type "function") none (Data.func (FuncData.mk (Str.ofString "__init__") (Str.ofString "Objects.__init__") (defArgs (inClass (topS 15) 0)) (.stmts (defBody (inClass (topS 15) 0))) (defScope (inClass (topS 15) 0)) 3 [] Value.none Value.none Value.none (Value.str (Str.ofString "sillwatch.objects.owned") 350) none (Value.ref 145) Value.none 0)) #[]) ::
(nat_lit 147, Obj.mk (Value.type "tuple") none (Data.seq #[]) #[]) ::
(nat_lit 149, Obj.mk (Value.type "tuple") none (Data.seq #[Value.str (Str.ofString "self") 382, Value.str (Str.ofString "number") 383]) #[]) ::
(nat_lit 150, Obj.mk (Value.type "tuple") none (Data.seq #[]) #[]) ::
(nat_lit 152, Obj.mk (Value.type "code") none (Data.fields #[Value.str (Str.ofString "interface_of") 379, Value.str (Str.ofString "Objects.interface_of") 380, Value.str (Str.ofString "/claim/cut.py") 381, Value.int 36 0, Value.int 2 0, Value.int 0 0, Value.int 0 0, Value.int 3 0, Value.ref 147, Value.bool true, Value.int 181 0, Value.ref 148, Value.none, Value.ref 149, Value.ref 150, Value.ref 151, Value.int 384 0, Value.int 36 0, Value.str (Str.ofString "/claim/cut.py") 385]) #[]) ::
(nat_lit 153, Obj.mk (Value.type "function") none (Data.func (FuncData.mk (Str.ofString "interface_of") (Str.ofString "Objects.interface_of") (defArgs (inClass (topS 15) 1)) (.stmts (defBody (inClass (topS 15) 1))) (defScope (inClass (topS 15) 1)) 3 [] Value.none Value.none Value.none (Value.str (Str.ofString "sillwatch.objects.owned") 350) none (Value.ref 152) Value.none 0)) #[]) ::
(nat_lit 154, Obj.mk (Value.type "tuple") none (Data.seq #[]) #[]) ::
(nat_lit 156, Obj.mk (Value.type "tuple") none (Data.seq #[Value.str (Str.ofString "self") 390]) #[]) ::
(nat_lit 157, Obj.mk (Value.type "tuple") none (Data.seq #[]) #[]) ::
(nat_lit 159, Obj.mk (Value.type "code") none (Data.fields #[Value.str (Str.ofString "numbers") 387, Value.str (Str.ofString "Objects.numbers") 388, Value.str (Str.ofString "/claim/cut.py") 389, Value.int 39 0, Value.int 1 0, Value.int 0 0, Value.int 0 0, Value.int 3 0, Value.ref 154, Value.bool true, Value.int 181 0, Value.ref 155, Value.none, Value.ref 156, Value.ref 157, Value.ref 158, Value.int 391 0, Value.int 39 0, Value.str (Str.ofString "/claim/cut.py") 392]) #[]) ::
(nat_lit 160, Obj.mk (Value.type "function") none (Data.func (FuncData.mk (Str.ofString "numbers") (Str.ofString "Objects.numbers") (defArgs (inClass (topS 15) 2)) (.stmts (defBody (inClass (topS 15) 2))) (defScope (inClass (topS 15) 2)) 3 [] Value.none Value.none Value.none (Value.str (Str.ofString "sillwatch.objects.owned") 350) none (Value.ref 159) Value.none 0)) #[]) ::
(nat_lit 161, Obj.mk (Value.type "tuple") none (Data.seq #[]) #[]) ::
(nat_lit 163, Obj.mk (Value.type "tuple") none (Data.seq #[Value.str (Str.ofString "self") 397, Value.str (Str.ofString "number") 398]) #[]) ::
(nat_lit 164, Obj.mk (Value.type "tuple") none (Data.seq #[]) #[]) ::
(nat_lit 166, Obj.mk (Value.type "code") none (Data.fields #[Value.str (Str.ofString "may_give") 394, Value.str (Str.ofString "Objects.may_give") 395, Value.str (Str.ofString "/claim/cut.py") 396, Value.int 42 0, Value.int 2 0, Value.int 0 0, Value.int 0 0, Value.int 3 0, Value.ref 161, Value.bool true, Value.int 181 0, Value.ref 162, Value.none, Value.ref 163, Value.ref 164, Value.ref 165, Value.int 399 0, Value.int 42 0, Value.str (Str.ofString "/claim/cut.py") 400]) #[]) ::
(nat_lit 167, Obj.mk (Value.type "function") none (Data.func (FuncData.mk (Str.ofString "may_give") (Str.ofString "Objects.may_give") (defArgs (inClass (topS 15) 3)) (.stmts (defBody (inClass (topS 15) 3))) (defScope (inClass (topS 15) 3)) 3 [] Value.none Value.none Value.none (Value.str (Str.ofString "sillwatch.objects.owned") 350) none (Value.ref 166) Value.none 0)) #[]) ::
(nat_lit 168, Obj.mk (Value.type "tuple") none (Data.seq #[]) #[]) ::
(nat_lit 170, Obj.mk (Value.type "tuple") none (Data.seq #[Value.str (Str.ofString "self") 405]) #[]) ::
(nat_lit 171, Obj.mk (Value.type "tuple") none (Data.seq #[]) #[]) ::
(nat_lit 173, Obj.mk (Value.type "code") none (Data.fields #[Value.str (Str.ofString "is_full") 402, Value.str (Str.ofString "Objects.is_full") 403, Value.str (Str.ofString "/claim/cut.py") 404, Value.int 45 0, Value.int 1 0, Value.int 0 0, Value.int 0 0, Value.int 3 0, Value.ref 168, Value.bool true, Value.int 181 0, Value.ref 169, Value.none, Value.ref 170, Value.ref 171, Value.ref 172, Value.int 406 0, Value.int 45 0, Value.str (Str.ofString "/claim/cut.py") 407]) #[]) ::
(nat_lit 174, Obj.mk (Value.type "function") none (Data.func (FuncData.mk (Str.ofString "is_full") (Str.ofString "Objects.is_full") (defArgs (inClass (topS 15) 4)) (.stmts (defBody (inClass (topS 15) 4))) (defScope (inClass (topS 15) 4)) 3 [] Value.none Value.none Value.none (Value.str (Str.ofString "sillwatch.objects.owned") 350) none (Value.ref 173) Value.none 0)) #[]) ::
(nat_lit 175, Obj.mk (Value.type "tuple") none (Data.seq #[]) #[]) ::
(nat_lit 177, Obj.mk (Value.type "tuple") none (Data.seq #[Value.str (Str.ofString "self") 412, Value.str (Str.ofString "number") 413, Value.str (Str.ofString "interface") 414]) #[]) ::
(nat_lit 178, Obj.mk (Value.type "tuple") none (Data.seq #[]) #[]) ::
(nat_lit 180, Obj.mk (Value.type "code") none (Data.fields #[Value.str (Str.ofString "give") 409, Value.str (Str.ofString "Objects.give") 410, Value.str (Str.ofString "/claim/cut.py") 411, Value.int 48 0, Value.int 3 0, Value.int 0 0, Value.int 0 0, Value.int 3 0, Value.ref 175, Value.bool true, Value.int 181 0, Value.ref 176, Value.none, Value.ref 177, Value.ref 178, Value.ref 179, Value.int 415 0, Value.int 48 0, Value.str (Str.ofString "/claim/cut.py") 416]) #[]) ::
(nat_lit 181, Obj.mk (Value.type "function") none (Data.func (FuncData.mk (Str.ofString "give") (Str.ofString "Objects.give") (defArgs (inClass (topS 15) 5)) (.stmts (defBody (inClass (topS 15) 5))) (defScope (inClass (topS 15) 5)) 3 [] Value.none Value.none Value.none (Value.str (Str.ofString "sillwatch.objects.owned") 350) none (Value.ref 180) Value.none 0)) #[]) ::
(nat_lit 182, Obj.mk (Value.type "tuple") none (Data.seq #[]) #[]) ::
(nat_lit 184, Obj.mk (Value.type "tuple") none (Data.seq #[Value.str (Str.ofString "self") 421, Value.str (Str.ofString "interface") 422, Value.str (Str.ofString "number") 423]) #[]) ::
(nat_lit 185, Obj.mk (Value.type "tuple") none (Data.seq #[]) #[]) ::
(nat_lit 187, Obj.mk (Value.type "code") none (Data.fields #[Value.str (Str.ofString "make") 418, Value.str (Str.ofString "Objects.make") 419, Value.str (Str.ofString "/claim/cut.py") 420, Value.int 51 0, Value.int 2 0, Value.int 0 0, Value.int 0 0, Value.int 3 0, Value.ref 182, Value.bool true, Value.int 181 0, Value.ref 183, Value.none, Value.ref 184, Value.ref 185, Value.ref 186, Value.int 424 0, Value.int 51 0, Value.str (Str.ofString "/claim/cut.py") 425]) #[]) ::
(nat_lit 188, Obj.mk (Value.type "function") none (Data.func (FuncData.mk (Str.ofString "make") (Str.ofString "Objects.make") (defArgs (inClass (topS 15) 6)) (.stmts (defBody (inClass (topS 15) 6))) (defScope (inClass (topS 15) 6)) 3 [] Value.none Value.none Value.none (Value.str (Str.ofString "sillwatch.objects.owned") 350) none (Value.ref 187) Value.none 0)) #[]) ::
(nat_lit 189, Obj.mk (Value.type "tuple") none (Data.seq #[]) #[]) ::
(nat_lit 191, Obj.mk (Value.type "tuple") none (Data.seq #[Value.str (Str.ofString "self") 430, Value.str (Str.ofString "number") 431]) #[]) ::
(nat_lit 192, Obj.mk (Value.type "tuple") none (Data.seq #[]) #[]) ::
(nat_lit 194, Obj.mk (Value.type "code") none (Data.fields #[Value.str (Str.ofString "end") 427, Value.str (Str.ofString "Objects.end") 428, Value.str (Str.ofString "/claim/cut.py") 429, Value.int 57 0, Value.int 2 0, Value.int 0 0, Value.int 0 0, Value.int 3 0, Value.ref 189, Value.bool true, Value.int 181 0, Value.ref 190, Value.none, Value.ref 191, Value.ref 192, Value.ref 193, Value.int 432 0, Value.int 57 0, Value.str (Str.ofString "/claim/cut.py") 433]) #[]) ::
(nat_lit 195, Obj.mk (Value.type "function") none (Data.func (FuncData.mk (Str.ofString "end") (Str.ofString "Objects.end") (defArgs (inClass (topS 15) 7)) (.stmts (defBody (inClass (topS 15) 7))) (defScope (inClass (topS 15) 7)) 3 [] Value.none Value.none Value.none (Value.str (Str.ofString "sillwatch.objects.owned") 350) none (Value.ref 194) Value.none 0)) #[]) ::
(nat_lit 196, Obj.mk (Value.type "tuple") none (Data.seq #[Value.str (Str.ofString "_interfaces") 435, Value.str (Str.ofString "_next_made") 436]) #[]) ::
(nat_lit 197, Obj.mk (Value.type "dict") none (Data.dict #[DictEntry.mk (PyData.keyHash PP (Str.ofString "__module__")) (Value.str (Str.ofString "__module__") 367) (Value.str (Str.ofString "sillwatch.objects.owned") 350), DictEntry.mk (PyData.keyHash PP (Str.ofString "__firstlineno__")) (Value.str (Str.ofString "__firstlineno__") 371) (Value.int 30 370), DictEntry.mk (PyData.keyHash PP (Str.ofString "__init__")) (Value.str (Str.ofString "__init__") 378) (Value.ref 146), DictEntry.mk (PyData.keyHash PP (Str.ofString "interface_of")) (Value.str (Str.ofString "interface_of") 386) (Value.ref 153), DictEntry.mk (PyData.keyHash PP (Str.ofString "numbers")) (Value.str (Str.ofString "numbers") 393) (Value.ref 160), DictEntry.mk (PyData.keyHash PP (Str.ofString "may_give")) (Value.str (Str.ofString "may_give") 401) (Value.ref 167), DictEntry.mk (PyData.keyHash PP (Str.ofString "is_full")) (Value.str (Str.ofString "is_full") 408) (Value.ref 174), DictEntry.mk (PyData.keyHash PP (Str.ofString "give")) (Value.str (Str.ofString "give") 417) (Value.ref 181), DictEntry.mk (PyData.keyHash PP (Str.ofString "make")) (Value.str (Str.ofString "make") 426) (Value.ref 188), DictEntry.mk (PyData.keyHash PP (Str.ofString "end")) (Value.str (Str.ofString "end") 434) (Value.ref 195), DictEntry.mk (PyData.keyHash PP (Str.ofString "__static_attributes__")) (Value.str (Str.ofString "__static_attributes__") 437) (Value.ref 196), DictEntry.mk (PyData.keyHash PP (Str.ofString "__dict__")) (Value.str (Str.ofString "__dict__") 439) (Value.ref 199), DictEntry.mk (PyData.keyHash PP (Str.ofString "__weakref__")) (Value.str (Str.ofString "__weakref__") 441) (Value.ref 200), DictEntry.mk (PyData.keyHash PP (Str.ofString "__doc__")) (Value.str (Str.ofString "__doc__") 442) Value.none] 4) #[]) ::
(nat_lit 198, Obj.mk (Value.type "type") none (Data.cls (ClassData.mk (Str.ofString "Objects") [Value.type "object"] [Value.ref 198, Value.type "object"] 197 (Str.ofString "Objects") true [] [] false none false)) #[none, none, some (Value.str (Str.ofString "Objects") 360), some (Value.str (Str.ofString "Objects") 368), some (Value.builtin "object.__new__"), some (Value.bool true)]) ::
(nat_lit 199, Obj.mk (Value.type "getset_descriptor") none (Data.fields #[Value.str (Str.ofString "__dict__") 438, Value.ref 198, Value.builtin "function.__dict__", Value.builtin "function.__dict__#set"]) #[]) ::
(nat_lit 200, Obj.mk (Value.type "getset_descriptor") none (Data.fields #[Value.str (Str.ofString "__weakref__") 440, Value.ref 198, Value.builtin "ExceptionGroup.__weakref__", Value.none]) #[]) ::
(nat_lit 203, Obj.mk (Value.type "tuple") none (Data.seq #[]) #[]) ::
(nat_lit 205, Obj.mk (Value.type "tuple") none (Data.seq #[Value.str (Str.ofString "value") 469, Value.str (Str.ofString "least") 470, Value.str (Str.ofString "greatest") 471]) #[]) ::
(nat_lit 206, Obj.mk (Value.type "tuple") none (Data.seq #[]) #[]) ::
(nat_lit 208, Obj.mk (Value.type "code") none (Data.fields #[Value.str (Str.ofString "is_integer") 466, Value.str (Str.ofString "is_integer") 467, Value.str (Str.ofString "/claim/cut.py") 468, Value.int 70 0, Value.int 3 0, Value.int 0 0, Value.int 0 0, Value.int 3 0, Value.ref 203, Value.bool true, Value.int 181 0, Value.ref 204, Value.none, Value.ref 205, Value.ref 206, Value.ref 207, Value.int 472 0, Value.int 70 0, Value.str (Str.ofString "/claim/cut.py") 473]) #[]) ::
(nat_lit 209, Obj.mk (Value.type "function") none (Data.func (FuncData.mk (Str.ofString "is_integer") (Str.ofString "is_integer") (defArgs (topS 26)) (.stmts (defBody (topS 26))) (defScope (topS 26)) 3 [] Value.none Value.none Value.none (Value.str (Str.ofString "sillwatch.octets.fields") 445) none (Value.ref 208) Value.none 0)) #[]) ::
(nat_lit 210, Obj.mk (Value.type "tuple") none (Data.seq #[]) #[]) ::
(nat_lit 213, Obj.mk (Value.type "code") none (Data.fields #[Value.str (Str.ofString "is_text") 475, Value.str (Str.ofString "is_text") 476, Value.str (Str.ofString "/claim/cut.py") 477, Value.int 72 0, Value.int 1 0, Value.int 0 0, Value.int 0 0, Value.int 3 0, Value.ref 210, Value.bool true, Value.int 181 0, Value.ref 211, Value.none, Value.none, Value.none, Value.ref 212, Value.int 478 0, Value.int 72 0, Value.str (Str.ofString "/claim/cut.py") 479]) #[]) ::
(nat_lit 214, Obj.mk (Value.type "function") none (Data.func (FuncData.mk (Str.ofString "is_text") (Str.ofString "is_text") (defArgs (topS 27)) (.stmts (defBody (topS 27))) (defScope (topS 27)) 3 [] Value.none Value.none Value.none (Value.str (Str.ofString "sillwatch.octets.fields") 445) none (Value.ref 213) Value.none 0)) #[]) ::
(nat_lit 215, Obj.mk (Value.type "tuple") none (Data.seq #[]) #[]) ::
(nat_lit 218, Obj.mk (Value.type "code") none (Data.fields #[Value.str (Str.ofString "number_octets") 481, Value.str (Str.ofString "number_octets") 482, Value.str (Str.ofString "/claim/cut.py") 483, Value.int 74 0, Value.int 2 0, Value.int 0 0, Value.int 0 0, Value.int 3 0, Value.ref 215, Value.bool true, Value.int 181 0, Value.ref 216, Value.none, Value.none, Value.none, Value.ref 217, Value.int 484 0, Value.int 74 0, Value.str (Str.ofString "/claim/cut.py") 485]) #[]) ::
(nat_lit 219, Obj.mk (Value.type "function") none (Data.func (FuncData.mk (Str.ofString "number_octets") (Str.ofString "number_octets") (defArgs (topS 28)) (.stmts (defBody (topS 28))) (defScope (topS 28)) 3 [] Value.none Value.none Value.none (Value.str (Str.ofString "sillwatch.octets.fields") 445) none (Value.ref 218) Value.none 0)) #[]) ::
(nat_lit 220, Obj.mk (Value.type "tuple") none (Data.seq #[]) #[]) ::
(nat_lit 223, Obj.mk (Value.type "code") none (Data.fields #[Value.str (Str.ofString "number_at") 487, Value.str (Str.ofString "number_at") 488, Value.str (Str.ofString "/claim/cut.py") 489, Value.int 76 0, Value.int 3 0, Value.int 0 0, Value.int 0 0, Value.int 3 0, Value.ref 220, Value.bool true, Value.int 181 0, Value.ref 221, Value.none, Value.none, Value.none, Value.ref 222, Value.int 490 0, Value.int 76 0, Value.str (Str.ofString "/claim/cut.py") 491]) #[]) ::
(nat_lit 224, Obj.mk (Value.type "function") none (Data.func (FuncData.mk (Str.ofString "number_at") (Str.ofString "number_at") (defArgs (topS 29)) (.stmts (defBody (topS 29))) (defScope (topS 29)) 3 [] Value.none Value.none Value.none (Value.str (Str.ofString "sillwatch.octets.fields") 445) none (Value.ref 223) Value.none 0)) #[]) ::
(nat_lit 225, Obj.mk (Value.type "tuple") none (Data.seq #[]) #[]) ::
(nat_lit 227, Obj.mk (Value.type "tuple") none (Data.seq #[Value.str (Str.ofString "kind") 496, Value.str (Str.ofString "value") 497, Value.str (Str.ofString "text") 498, Value.str (Str.ofString "number") 499]) #[]) ::
(nat_lit 228, Obj.mk (Value.type "tuple") none (Data.seq #[]) #[]) ::
(nat_lit 230, Obj.mk (Value.type "code") none (Data.fields #[Value.str (Str.ofString "field_octets") 493, Value.str (Str.ofString "field_octets") 494, Value.str (Str.ofString "/claim/cut.py") 495, Value.int 78 0, Value.int 2 0, Value.int 0 0, Value.int 0 0, Value.int 3 0, Value.ref 225, Value.bool true, Value.int 181 0, Value.ref 226, Value.none, Value.ref 227, Value.ref 228, Value.ref 229, Value.int 500 0, Value.int 78 0, Value.str (Str.ofString "/claim/cut.py") 501]) #[]) ::
(nat_lit 231, Obj.mk (Value.type "function") none (Data.func (FuncData.mk (Str.ofString "field_octets") (Str.ofString "field_octets") (defArgs (topS 30)) (.stmts (defBody (topS 30))) (defScope (topS 30)) 3 [] Value.none Value.none Value.none (Value.str (Str.ofString "sillwatch.octets.fields") 445) none (Value.ref 230) Value.none 0)) #[]) ::
(nat_lit 232, Obj.mk (Value.type "tuple") none (Data.seq #[]) #[]) ::
(nat_lit 234, Obj.mk (Value.type "tuple") none (Data.seq #[Value.str (Str.ofString "kinds") 506, Value.str (Str.ofString "octets") 507, Value.str (Str.ofString "values") 508, Value.str (Str.ofString "at") 509, Value.str (Str.ofString "kind") 510, Value.str (Str.ofString "value") 511]) #[]) ::
(nat_lit 235, Obj.mk (Value.type "tuple") none (Data.seq #[]) #[]) ::
(nat_lit 237, Obj.mk (Value.type "code") none (Data.fields #[Value.str (Str.ofString "read_arguments") 503, Value.str (Str.ofString "read_arguments") 504, Value.str (Str.ofString "/claim/cut.py") 505, Value.int 89 0, Value.int 2 0, Value.int 0 0, Value.int 0 0, Value.int 3 0, Value.ref 232, Value.bool true, Value.int 181 0, Value.ref 233, Value.none, Value.ref 234, Value.ref 235, Value.ref 236, Value.int 512 0, Value.int 89 0, Value.str (Str.ofString "/claim/cut.py") 513]) #[]) ::
(nat_lit 238, Obj.mk (Value.type "function") none (Data.func (FuncData.mk (Str.ofString "read_arguments") (Str.ofString "read_arguments") (defArgs (topS 31)) (.stmts (defBody (topS 31))) (defScope (topS 31)) 3 [] Value.none Value.none Value.none (Value.str (Str.ofString "sillwatch.octets.fields") 445) none (Value.ref 237) Value.none 0)) #[]) ::
(nat_lit 239, Obj.mk (Value.type "tuple") none (Data.seq #[]) #[]) ::
(nat_lit 241, Obj.mk (Value.type "tuple") none (Data.seq #[Value.str (Str.ofString "code") 518]) #[]) ::
(nat_lit 242, Obj.mk (Value.type "tuple") none (Data.seq #[]) #[]) ::
(nat_lit 244, Obj.mk (Value.type "code") none (Data.fields #[Value.str (Str.ofString "_is_code") 515, Value.str (Str.ofString "_is_code") 516, Value.str (Str.ofString "/claim/cut.py") 517, Value.int 98 0, Value.int 1 0, Value.int 0 0, Value.int 0 0, Value.int 3 0, Value.ref 239, Value.bool true, Value.int 181 0, Value.ref 240, Value.none, Value.ref 241, Value.ref 242, Value.ref 243, Value.int 519 0, Value.int 98 0, Value.str (Str.ofString "/claim/cut.py") 520]) #[]) ::
(nat_lit 245, Obj.mk (Value.type "function") none (Data.func (FuncData.mk (Str.ofString "_is_code") (Str.ofString "_is_code") (defArgs (topS 32)) (.stmts (defBody (topS 32))) (defScope (topS 32)) 3 [] Value.none Value.none Value.none (Value.str (Str.ofString "sillwatch.octets.fields") 445) none (Value.ref 244) Value.none 0)) #[]) ::
(nat_lit 246, Obj.mk (Value.type "tuple") none (Data.seq #[]) #[]) ::
(nat_lit 248, Obj.mk (Value.type "tuple") none (Data.seq #[Value.str (Str.ofString "kind") 525, Value.str (Str.ofString "value") 526]) #[]) ::
(nat_lit 249, Obj.mk (Value.type "tuple") none (Data.seq #[]) #[]) ::
(nat_lit 251, Obj.mk (Value.type "code") none (Data.fields #[Value.str (Str.ofString "_is_of") 522, Value.str (Str.ofString "_is_of") 523, Value.str (Str.ofString "/claim/cut.py") 524, Value.int 100 0, Value.int 2 0, Value.int 0 0, Value.int 0 0, Value.int 3 0, Value.ref 246, Value.bool true, Value.int 181 0, Value.ref 247, Value.none, Value.ref 248, Value.ref 249, Value.ref 250, Value.int 527 0, Value.int 100 0, Value.str (Str.ofString "/claim/cut.py") 528]) #[]) ::
(nat_lit 252, Obj.mk (Value.type "function") none (Data.func (FuncData.mk (Str.ofString "_is_of") (Str.ofString "_is_of") (defArgs (topS 33)) (.stmts (defBody (topS 33))) (defScope (topS 33)) 3 [] Value.none Value.none Value.none (Value.str (Str.ofString "sillwatch.octets.fields") 445) none (Value.ref 251) Value.none 0)) #[]) ::
(nat_lit 253, Obj.mk (Value.type "tuple") none (Data.seq #[]) #[]) ::
(nat_lit 256, Obj.mk (Value.type "code") none (Data.fields #[Value.str (Str.ofString "_are_octets") 530, Value.str (Str.ofString "_are_octets") 531, Value.str (Str.ofString "/claim/cut.py") 532, Value.int 112 0, Value.int 1 0, Value.int 0 0, Value.int 0 0, Value.int 3 0, Value.ref 253, Value.bool true, Value.int 181 0, Value.ref 254, Value.none, Value.none, Value.none, Value.ref 255, Value.int 533 0, Value.int 112 0, Value.str (Str.ofString "/claim/cut.py") 534]) #[]) ::
(nat_lit 257, Obj.mk (Value.type "function") none (Data.func (FuncData.mk (Str.ofString "_are_octets") (Str.ofString "_are_octets") (defArgs (topS 34)) (.stmts (defBody (topS 34))) (defScope (topS 34)) 3 [] Value.none Value.none Value.none (Value.str (Str.ofString "sillwatch.octets.fields") 445) none (Value.ref 256) Value.none 0)) #[]) ::
(nat_lit 258, Obj.mk (Value.type "tuple") none (Data.seq #[]) #[]) ::
(nat_lit 260, Obj.mk (Value.type "tuple") none (Data.seq #[Value.str (Str.ofString "value") 539]) #[]) ::
(nat_lit 261, Obj.mk (Value.type "tuple") none (Data.seq #[]) #[]) ::
(nat_lit 263, Obj.mk (Value.type "code") none (Data.fields #[Value.str (Str.ofString "_is_bound") 536, Value.str (Str.ofString "_is_bound") 537, Value.str (Str.ofString "/claim/cut.py") 538, Value.int 116 0, Value.int 1 0, Value.int 0 0, Value.int 0 0, Value.int 3 0, Value.ref 258, Value.bool true, Value.int 181 0, Value.ref 259, Value.none, Value.ref 260, Value.ref 261, Value.ref 262, Value.int 540 0, Value.int 116 0, Value.str (Str.ofString "/claim/cut.py") 541]) #[]) ::
(nat_lit 264, Obj.mk (Value.type "function") none (Data.func (FuncData.mk (Str.ofString "_is_bound") (Str.ofString "_is_bound") (defArgs (topS 35)) (.stmts (defBody (topS 35))) (defScope (topS 35)) 3 [] Value.none Value.none Value.none (Value.str (Str.ofString "sillwatch.octets.fields") 445) none (Value.ref 263) Value.none 0)) #[]) ::
(nat_lit 265, Obj.mk (Value.type "tuple") none (Data.seq #[]) #[]) ::
(nat_lit 268, Obj.mk (Value.type "code") none (Data.fields #[Value.str (Str.ofString "_text_octets") 543, Value.str (Str.ofString "_text_octets") 544, Value.str (Str.ofString "/claim/cut.py") 545, Value.int 120 0, Value.int 1 0, Value.int 0 0, Value.int 0 0, Value.int 3 0, Value.ref 265, Value.bool true, Value.int 181 0, Value.ref 266, Value.none, Value.none, Value.none, Value.ref 267, Value.int 546 0, Value.int 120 0, Value.str (Str.ofString "/claim/cut.py") 547]) #[]) ::
(nat_lit 269, Obj.mk (Value.type "function") none (Data.func (FuncData.mk (Str.ofString "_text_octets") (Str.ofString "_text_octets") (defArgs (topS 36)) (.stmts (defBody (topS 36))) (defScope (topS 36)) 3 [] Value.none Value.none Value.none (Value.str (Str.ofString "sillwatch.octets.fields") 445) none (Value.ref 268) Value.none 0)) #[]) ::
(nat_lit 270, Obj.mk (Value.type "tuple") none (Data.seq #[]) #[]) ::
(nat_lit 272, Obj.mk (Value.type "tuple") none (Data.seq #[Value.str (Str.ofString "octets") 552]) #[]) ::
(nat_lit 273, Obj.mk (Value.type "tuple") none (Data.seq #[]) #[]) ::
(nat_lit 275, Obj.mk (Value.type "code") none (Data.fields #[Value.str (Str.ofString "_padded") 549, Value.str (Str.ofString "_padded") 550, Value.str (Str.ofString "/claim/cut.py") 551, Value.int 123 0, Value.int 1 0, Value.int 0 0, Value.int 0 0, Value.int 3 0, Value.ref 270, Value.bool true, Value.int 181 0, Value.ref 271, Value.none, Value.ref 272, Value.ref 273, Value.ref 274, Value.int 553 0, Value.int 123 0, Value.str (Str.ofString "/claim/cut.py") 554]) #[]) ::
(nat_lit 276, Obj.mk (Value.type "function") none (Data.func (FuncData.mk (Str.ofString "_padded") (Str.ofString "_padded") (defArgs (topS 37)) (.stmts (defBody (topS 37))) (defScope (topS 37)) 3 [] Value.none Value.none Value.none (Value.str (Str.ofString "sillwatch.octets.fields") 445) none (Value.ref 275) Value.none 0)) #[]) ::
(nat_lit 277, Obj.mk (Value.type "tuple") none (Data.seq #[]) #[]) ::
(nat_lit 279, Obj.mk (Value.type "tuple") none (Data.seq #[Value.str (Str.ofString "kind") 559, Value.str (Str.ofString "octets") 560, Value.str (Str.ofString "at") 561, Value.str (Str.ofString "text") 562, Value.str (Str.ofString "behind") 563, Value.str (Str.ofString "number") 564]) #[]) ::
(nat_lit 280, Obj.mk (Value.type "tuple") none (Data.seq #[]) #[]) ::
(nat_lit 282, Obj.mk (Value.type "code") none (Data.fields #[Value.str (Str.ofString "_read") 556, Value.str (Str.ofString "_read") 557, Value.str (Str.ofString "/claim/cut.py") 558, Value.int 125 0, Value.int 3 0, Value.int 0 0, Value.int 0 0, Value.int 3 0, Value.ref 277, Value.bool true, Value.int 181 0, Value.ref 278, Value.none, Value.ref 279, Value.ref 280, Value.ref 281, Value.int 565 0, Value.int 125 0, Value.str (Str.ofString "/claim/cut.py") 566]) #[]) ::
(nat_lit 283, Obj.mk (Value.type "function") none (Data.func (FuncData.mk (Str.ofString "_read") (Str.ofString "_read") (defArgs (topS 38)) (.stmts (defBody (topS 38))) (defScope (topS 38)) 3 [] Value.none Value.none Value.none (Value.str (Str.ofString "sillwatch.octets.fields") 445) none (Value.ref 282) Value.none 0)) #[]) ::
(nat_lit 284, Obj.mk (Value.type "tuple") none (Data.seq #[]) #[]) ::
(nat_lit 286, Obj.mk (Value.type "tuple") none (Data.seq #[Value.str (Str.ofString "octets") 571, Value.str (Str.ofString "at") 572]) #[]) ::
(nat_lit 287, Obj.mk (Value.type "tuple") none (Data.seq #[]) #[]) ::
(nat_lit 289, Obj.mk (Value.type "code") none (Data.fields #[Value.str (Str.ofString "_read_number") 568, Value.str (Str.ofString "_read_number") 569, Value.str (Str.ofString "/claim/cut.py") 570, Value.int 140 0, Value.int 2 0, Value.int 0 0, Value.int 0 0, Value.int 3 0, Value.ref 284, Value.bool true, Value.int 181 0, Value.ref 285, Value.none, Value.ref 286, Value.ref 287, Value.ref 288, Value.int 573 0, Value.int 140 0, Value.str (Str.ofString "/claim/cut.py") 574]) #[]) ::
(nat_lit 290, Obj.mk (Value.type "function") none (Data.func (FuncData.mk (Str.ofString "_read_number") (Str.ofString "_read_number") (defArgs (topS 39)) (.stmts (defBody (topS 39))) (defScope (topS 39)) 3 [] Value.none Value.none Value.none (Value.str (Str.ofString "sillwatch.octets.fields") 445) none (Value.ref 289) Value.none 0)) #[]) ::
(nat_lit 291, Obj.mk (Value.type "tuple") none (Data.seq #[]) #[]) ::
(nat_lit 293, Obj.mk (Value.type "tuple") none (Data.seq #[Value.str (Str.ofString "octets") 579, Value.str (Str.ofString "at") 580, Value.str (Str.ofString "number") 581, Value.str (Str.ofString "behind") 582]) #[]) ::
(nat_lit 294, Obj.mk (Value.type "tuple") none (Data.seq #[]) #[]) ::
(nat_lit 296, Obj.mk (Value.type "code") none (Data.fields #[Value.str (Str.ofString "_read_named") 576, Value.str (Str.ofString "_read_named") 577, Value.str (Str.ofString "/claim/cut.py") 578, Value.int 143 0, Value.int 2 0, Value.int 0 0, Value.int 0 0, Value.int 3 0, Value.ref 291, Value.bool true, Value.int 181 0, Value.ref 292, Value.none, Value.ref 293, Value.ref 294, Value.ref 295, Value.int 583 0, Value.int 143 0, Value.str (Str.ofString "/claim/cut.py") 584]) #[]) ::
(nat_lit 297, Obj.mk (Value.type "function") none (Data.func (FuncData.mk (Str.ofString "_read_named") (Str.ofString "_read_named") (defArgs (topS 40)) (.stmts (defBody (topS 40))) (defScope (topS 40)) 3 [] Value.none Value.none Value.none (Value.str (Str.ofString "sillwatch.octets.fields") 445) none (Value.ref 296) Value.none 0)) #[]) ::
(nat_lit 298, Obj.mk (Value.type "tuple") none (Data.seq #[]) #[]) ::
(nat_lit 301, Obj.mk (Value.type "code") none (Data.fields #[Value.str (Str.ofString "_read_text") 586, Value.str (Str.ofString "_read_text") 587, Value.str (Str.ofString "/claim/cut.py") 588, Value.int 148 0, Value.int 2 0, Value.int 0 0, Value.int 0 0, Value.int 3 0, Value.ref 298, Value.bool true, Value.int 181 0, Value.ref 299, Value.none, Value.none, Value.none, Value.ref 300, Value.int 589 0, Value.int 148 0, Value.str (Str.ofString "/claim/cut.py") 590]) #[]) ::
(nat_lit 302, Obj.mk (Value.type "function") none (Data.func (FuncData.mk (Str.ofString "_read_text") (Str.ofString "_read_text") (defArgs (topS 41)) (.stmts (defBody (topS 41))) (defScope (topS 41)) 3 [] Value.none Value.none Value.none (Value.str (Str.ofString "sillwatch.octets.fields") 445) none (Value.ref 301) Value.none 0)) #[]) ::
(nat_lit 303, Obj.mk (Value.type "tuple") none (Data.seq #[]) #[]) ::
(nat_lit 305, Obj.mk (Value.type "tuple") none (Data.seq #[Value.str (Str.ofString "octets") 595, Value.str (Str.ofString "at") 596, Value.str (Str.ofString "length") 597, Value.str (Str.ofString "begin") 598, Value.str (Str.ofString "end") 599, Value.str (Str.ofString "behind") 600]) #[]) ::
(nat_lit 306, Obj.mk (Value.type "tuple") none (Data.seq #[]) #[]) ::
(nat_lit 308, Obj.mk (Value.type "code") none (Data.fields #[Value.str (Str.ofString "_read_octets") 592, Value.str (Str.ofString "_read_octets") 593, Value.str (Str.ofString "/claim/cut.py") 594, Value.int 159 0, Value.int 2 0, Value.int 0 0, Value.int 0 0, Value.int 3 0, Value.ref 303, Value.bool true, Value.int 181 0, Value.ref 304, Value.none, Value.ref 305, Value.ref 306, Value.ref 307, Value.int 601 0, Value.int 159 0, Value.str (Str.ofString "/claim/cut.py") 602]) #[]) ::
(nat_lit 309, Obj.mk (Value.type "function") none (Data.func (FuncData.mk (Str.ofString "_read_octets") (Str.ofString "_read_octets") (defArgs (topS 42)) (.stmts (defBody (topS 42))) (defScope (topS 42)) 3 [] Value.none Value.none Value.none (Value.str (Str.ofString "sillwatch.octets.fields") 445) none (Value.ref 308) Value.none 0)) #[]) ::
(nat_lit 310, Obj.mk (Value.type "tuple") none (Data.seq #[]) #[]) ::
(nat_lit 312, Obj.mk (Value.type "tuple") none (Data.seq #[Value.str (Str.ofString "octets") 607, Value.str (Str.ofString "end") 608]) #[]) ::
(nat_lit 313, Obj.mk (Value.type "tuple") none (Data.seq #[]) #[]) ::
(nat_lit 315, Obj.mk (Value.type "code") none (Data.fields #[Value.str (Str.ofString "_demand") 604, Value.str (Str.ofString "_demand") 605, Value.str (Str.ofString "/claim/cut.py") 606, Value.int 166 0, Value.int 2 0, Value.int 0 0, Value.int 0 0, Value.int 3 0, Value.ref 310, Value.bool true, Value.int 181 0, Value.ref 311, Value.none, Value.ref 312, Value.ref 313, Value.ref 314, Value.int 609 0, Value.int 166 0, Value.str (Str.ofString "/claim/cut.py") 610]) #[]) ::
(nat_lit 316, Obj.mk (Value.type "function") none (Data.func (FuncData.mk (Str.ofString "_demand") (Str.ofString "_demand") (defArgs (topS 43)) (.stmts (defBody (topS 43))) (defScope (topS 43)) 3 [] Value.none Value.none Value.none (Value.str (Str.ofString "sillwatch.octets.fields") 445) none (Value.ref 315) Value.none 0)) #[]) ::
(nat_lit 317, Obj.mk (Value.type "tuple") none (Data.seq #[]) #[]) ::
(nat_lit 319, Obj.mk (Value.type "tuple") none (Data.seq #[Value.str (Str.ofString "octets") 615, Value.str (Str.ofString "end") 616, Value.str (Str.ofString "behind") 617]) #[]) ::
(nat_lit 320, Obj.mk (Value.type "tuple") none (Data.seq #[]) #[]) ::
(nat_lit 322, Obj.mk (Value.type "code") none (Data.fields #[Value.str (Str.ofString "_behind_padding") 612, Value.str (Str.ofString "_behind_padding") 613, Value.str (Str.ofString "/claim/cut.py") 614, Value.int 169 0, Value.int 2 0, Value.int 0 0, Value.int 0 0, Value.int 3 0, Value.ref 317, Value.bool true, Value.int 181 0, Value.ref 318, Value.none, Value.ref 319, Value.ref 320, Value.ref 321, Value.int 618 0, Value.int 169 0, Value.str (Str.ofString "/claim/cut.py") 619]) #[]) ::
(nat_lit 323, Obj.mk (Value.type "function") none (Data.func (FuncData.mk (Str.ofString "_behind_padding") (Str.ofString "_behind_padding") (defArgs (topS 44)) (.stmts (defBody (topS 44))) (defScope (topS 44)) 3 [] Value.none Value.none Value.none (Value.str (Str.ofString "sillwatch.octets.fields") 445) none (Value.ref 322) Value.none 0)) #[]) ::
(nat_lit 324, Obj.mk (Value.type "tuple") none (Data.seq #[]) #[]) ::
(nat_lit 326, Obj.mk (Value.type "tuple") none (Data.seq #[Value.str (Str.ofString "number") 634, Value.str (Str.ofString "opcode") 635, Value.str (Str.ofString "arguments") 636, Value.str (Str.ofString "body") 637, Value.str (Str.ofString "kind") 638, Value.str (Str.ofString "value") 639, Value.str (Str.ofString "size") 640]) #[]) ::
(nat_lit 327, Obj.mk (Value.type "tuple") none (Data.seq #[]) #[]) ::
(nat_lit 329, Obj.mk (Value.type "code") none (Data.fields #[Value.str (Str.ofString "encode_message") 631, Value.str (Str.ofString "encode_message") 632, Value.str (Str.ofString "/claim/cut.py") 633, Value.int 180 0, Value.int 3 0, Value.int 0 0, Value.int 0 0, Value.int 3 0, Value.ref 324, Value.bool true, Value.int 181 0, Value.ref 325, Value.none, Value.ref 326, Value.ref 327, Value.ref 328, Value.int 641 0, Value.int 180 0, Value.str (Str.ofString "/claim/cut.py") 642]) #[]) ::
(nat_lit 330, Obj.mk (Value.type "function") none (Data.func (FuncData.mk (Str.ofString "encode_message") (Str.ofString "encode_message") (defArgs (topS 50)) (.stmts (defBody (topS 50))) (defScope (topS 50)) 3 [] Value.none Value.none Value.none (Value.str (Str.ofString "sillwatch.octets.messages") 621) none (Value.ref 329) Value.none 0)) #[]) ::
(nat_lit 331, Obj.mk (Value.type "dict") none (Data.dict #[DictEntry.mk (PyData.keyHash PP (Str.ofString "display")) (Value.str (Str.ofString "display") 646) (Value.ref 336), DictEntry.mk (PyData.keyHash PP (Str.ofString "callback")) (Value.str (Str.ofString "callback") 652) (Value.ref 337), DictEntry.mk (PyData.keyHash PP (Str.ofString "registry")) (Value.str (Str.ofString "registry") 654) (Value.ref 340), DictEntry.mk (PyData.keyHash PP (Str.ofString "memory")) (Value.str (Str.ofString "memory") 659) (Value.ref 345), DictEntry.mk (PyData.keyHash PP (Str.ofString "buffer")) (Value.str (Str.ofString "buffer") 666) (Value.ref 352), DictEntry.mk (PyData.keyHash PP (Str.ofString "compositor")) (Value.str (Str.ofString "compositor") 678) (Value.ref 359), DictEntry.mk (PyData.keyHash PP (Str.ofString "region")) (Value.str (Str.ofString "region") 685) (Value.ref 366), DictEntry.mk (PyData.keyHash PP (Str.ofString "surface")) (Value.str (Str.ofString "surface") 698) (Value.ref 381), DictEntry.mk (PyData.keyHash PP (Str.ofString "joiner")) (Value.str (Str.ofString "joiner") 712) (Value.ref 386), DictEntry.mk (PyData.keyHash PP (Str.ofString "sub")) (Value.str (Str.ofString "sub") 719) (Value.ref 399), DictEntry.mk (PyData.keyHash PP (Str.ofString "output")) (Value.str (Str.ofString "output") 731) (Value.ref 402), DictEntry.mk (PyData.keyHash PP (Str.ofString "windows")) (Value.str (Str.ofString "windows") 734) (Value.ref 407), DictEntry.mk (PyData.keyHash PP (Str.ofString "window")) (Value.str (Str.ofString "window") 757) (Value.ref 432), DictEntry.mk (PyData.keyHash PP (Str.ofString "popup")) (Value.str (Str.ofString "popup") 786) (Value.ref 437), DictEntry.mk (PyData.keyHash PP (Str.ofString "seat")) (Value.str (Str.ofString "seat") 803) (Value.ref 442), DictEntry.mk (PyData.keyHash PP (Str.ofString "pointer")) (Value.str (Str.ofString "pointer") 809) (Value.ref 447), DictEntry.mk (PyData.keyHash PP (Str.ofString "keyboard")) (Value.str (Str.ofString "keyboard") 814) (Value.ref 450), DictEntry.mk (PyData.keyHash PP (Str.ofString "transfer")) (Value.str (Str.ofString "transfer") 817) (Value.ref 470), DictEntry.mk (PyData.keyHash PP (Str.ofString "source")) (Value.str (Str.ofString "source") 846) (Value.ref 475), DictEntry.mk (PyData.keyHash PP (Str.ofString "offer")) (Value.str (Str.ofString "offer") 851) (Value.ref 480), DictEntry.mk (PyData.keyHash PP (Str.ofString "capture")) (Value.str (Str.ofString "capture") 857) (Value.ref 485), DictEntry.mk (PyData.keyHash PP (Str.ofString "fetch")) (Value.str (Str.ofString "fetch") 862) (Value.ref 490), DictEntry.mk (PyData.keyHash PP (Str.ofString "watch")) (Value.str (Str.ofString "watch") 867) (Value.ref 493)] 23) #[]) ::
(nat_lit 332, Obj.mk (Value.type "tuple") none (Data.seq #[Value.str (Str.ofString "new callback") 648]) #[]) ::
(nat_lit 333, Obj.mk (Value.type "tuple") none (Data.seq #[Value.str (Str.ofString "sync") 647, Value.ref 332, Value.bool false]) #[]) ::
(nat_lit 334, Obj.mk (Value.type "tuple") none (Data.seq #[Value.str (Str.ofString "new registry") 650]) #[]) ::
(nat_lit 335, Obj.mk (Value.type "tuple") none (Data.seq #[Value.str (Str.ofString "registry") 649, Value.ref 334, Value.bool false]) #[]) ::
(nat_lit 336, Obj.mk (Value.type "tuple") none (Data.seq #[Value.ref 333, Value.ref 335]) #[]) ::
(nat_lit 337, Obj.mk (Value.type "tuple") none (Data.seq #[]) #[]) ::
(nat_lit 338, Obj.mk (Value.type "tuple") none (Data.seq #[Value.str (Str.ofString "uint") 656, Value.str (Str.ofString "bound") 657]) #[]) ::
(nat_lit 339, Obj.mk (Value.type "tuple") none (Data.seq #[Value.str (Str.ofString "bind") 655, Value.ref 338, Value.bool false]) #[]) ::
(nat_lit 340, Obj.mk (Value.type "tuple") none (Data.seq #[Value.ref 339]) #[]) ::
(nat_lit 341, Obj.mk (Value.type "tuple") none (Data.seq #[Value.str (Str.ofString "new buffer") 661, Value.str (Str.ofString "uint") 662, Value.str (Str.ofString "uint") 663]) #[]) ::
(nat_lit 342, Obj.mk (Value.type "tuple") none (Data.seq #[Value.str (Str.ofString "buffer") 660, Value.ref 341, Value.bool false]) #[]) ::
(nat_lit 343, Obj.mk (Value.type "tuple") none (Data.seq #[]) #[]) ::
(nat_lit 344, Obj.mk (Value.type "tuple") none (Data.seq #[Value.str (Str.ofString "destroy") 664, Value.ref 343, Value.bool true]) #[]) ::
(nat_lit 345, Obj.mk (Value.type "tuple") none (Data.seq #[Value.ref 342, Value.ref 344]) #[]) ::
(nat_lit 346, Obj.mk (Value.type "tuple") none (Data.seq #[Value.str (Str.ofString "uint") 668, Value.str (Str.ofString "octets") 669]) #[]) ::
(nat_lit 347, Obj.mk (Value.type "tuple") none (Data.seq #[Value.str (Str.ofString "write") 667, Value.ref 346, Value.bool false]) #[]) ::
(nat_lit 348, Obj.mk (Value.type "tuple") none (Data.seq #[Value.str (Str.ofString "int") 671, Value.str (Str.ofString "int") 672, Value.str (Str.ofString "uint") 673, Value.str (Str.ofString "uint") 674, Value.str (Str.ofString "uint") 675]) #[]) ::
(nat_lit 349, Obj.mk (Value.type "tuple") none (Data.seq #[Value.str (Str.ofString "fill") 670, Value.ref 348, Value.bool false]) #[]) ::
(nat_lit 350, Obj.mk (Value.type "tuple") none (Data.seq #[]) #[]) ::
(nat_lit 351, Obj.mk (Value.type "tuple") none (Data.seq #[Value.str (Str.ofString "destroy") 676, Value.ref 350, Value.bool true]) #[]) ::
(nat_lit 352, Obj.mk (Value.type "tuple") none (Data.seq #[Value.ref 347, Value.ref 349, Value.ref 351]) #[]) ::
(nat_lit 353, Obj.mk (Value.type "tuple") none (Data.seq #[Value.str (Str.ofString "new surface") 680]) #[]) ::
(nat_lit 354, Obj.mk (Value.type "tuple") none (Data.seq #[Value.str (Str.ofString "surface") 679, Value.ref 353, Value.bool false]) #[]) ::
(nat_lit 355, Obj.mk (Value.type "tuple") none (Data.seq #[Value.str (Str.ofString "new region") 682]) #[]) ::
(nat_lit 356, Obj.mk (Value.type "tuple") none (Data.seq #[Value.str (Str.ofString "region") 681, Value.ref 355, Value.bool false]) #[]) ::
(nat_lit 357, Obj.mk (Value.type "tuple") none (Data.seq #[]) #[]) ::
(nat_lit 358, Obj.mk (Value.type "tuple") none (Data.seq #[Value.str (Str.ofString "destroy") 683, Value.ref 357, Value.bool true]) #[]) ::
(nat_lit 359, Obj.mk (Value.type "tuple") none (Data.seq #[Value.ref 354, Value.ref 356, Value.ref 358]) #[]) ::
(nat_lit 360, Obj.mk (Value.type "tuple") none (Data.seq #[Value.str (Str.ofString "int") 687, Value.str (Str.ofString "int") 688, Value.str (Str.ofString "uint") 689, Value.str (Str.ofString "uint") 690]) #[]) ::
(nat_lit 361, Obj.mk (Value.type "tuple") none (Data.seq #[Value.str (Str.ofString "add") 686, Value.ref 360, Value.bool false]) #[]) ::
(nat_lit 362, Obj.mk (Value.type "tuple") none (Data.seq #[Value.str (Str.ofString "int") 692, Value.str (Str.ofString "int") 693, Value.str (Str.ofString "uint") 694, Value.str (Str.ofString "uint") 695]) #[]) ::
(nat_lit 363, Obj.mk (Value.type "tuple") none (Data.seq #[Value.str (Str.ofString "subtract") 691, Value.ref 362, Value.bool false]) #[]) ::
(nat_lit 364, Obj.mk (Value.type "tuple") none (Data.seq #[]) #[]) ::
(nat_lit 365, Obj.mk (Value.type "tuple") none (Data.seq #[Value.str (Str.ofString "destroy") 696, Value.ref 364, Value.bool true]) #[]) ::
(nat_lit 366, Obj.mk (Value.type "tuple") none (Data.seq #[Value.ref 361, Value.ref 363, Value.ref 365]) #[]) ::
(nat_lit 367, Obj.mk (Value.type "tuple") none (Data.seq #[Value.str (Str.ofString "maybe buffer") 700]) #[]) ::
(nat_lit 368, Obj.mk (Value.type "tuple") none (Data.seq #[Value.str (Str.ofString "attach") 699, Value.ref 367, Value.bool false]) #[]) ::
(nat_lit 369, Obj.mk (Value.type "tuple") none (Data.seq #[Value.str (Str.ofString "new callback") 702]) #[]) ::
(nat_lit 370, Obj.mk (Value.type "tuple") none (Data.seq #[Value.str (Str.ofString "frame") 701, Value.ref 369, Value.bool false]) #[]) ::
(nat_lit 371, Obj.mk (Value.type "tuple") none (Data.seq #[Value.str (Str.ofString "maybe region") 704]) #[]) ::
(nat_lit 372, Obj.mk (Value.type "tuple") none (Data.seq #[Value.str (Str.ofString "hears") 703, Value.ref 371, Value.bool false]) #[]) ::
(nat_lit 373, Obj.mk (Value.type "tuple") none (Data.seq #[]) #[]) ::
(nat_lit 374, Obj.mk (Value.type "tuple") none (Data.seq #[Value.str (Str.ofString "commit") 705, Value.ref 373, Value.bool false]) #[]) ::
(nat_lit 375, Obj.mk (Value.type "tuple") none (Data.seq #[Value.str (Str.ofString "uint") 707]) #[]) ::
(nat_lit 376, Obj.mk (Value.type "tuple") none (Data.seq #[Value.str (Str.ofString "turn") 706, Value.ref 375, Value.bool false]) #[]) ::
(nat_lit 377, Obj.mk (Value.type "tuple") none (Data.seq #[Value.str (Str.ofString "uint") 709]) #[]) ::
(nat_lit 378, Obj.mk (Value.type "tuple") none (Data.seq #[Value.str (Str.ofString "scale") 708, Value.ref 377, Value.bool false]) #[]) ::
(nat_lit 379, Obj.mk (Value.type "tuple") none (Data.seq #[]) #[]) ::
(nat_lit 380, Obj.mk (Value.type "tuple") none (Data.seq #[Value.str (Str.ofString "destroy") 710, Value.ref 379, Value.bool true]) #[]) ::
(nat_lit 381, Obj.mk (Value.type "tuple") none (Data.seq #[Value.ref 368, Value.ref 370, Value.ref 372, Value.ref 374, Value.ref 376, Value.ref 378, Value.ref 380]) #[]) ::
(nat_lit 382, Obj.mk (Value.type "tuple") none (Data.seq #[Value.str (Str.ofString "new sub") 714, Value.str (Str.ofString "object surface") 715, Value.str (Str.ofString "object surface") 716]) #[]) ::
(nat_lit 383, Obj.mk (Value.type "tuple") none (Data.seq #[Value.str (Str.ofString "join") 713, Value.ref 382, Value.bool false]) #[]) ::
(nat_lit 384, Obj.mk (Value.type "tuple") none (Data.seq #[]) #[]) ::
(nat_lit 385, Obj.mk (Value.type "tuple") none (Data.seq #[Value.str (Str.ofString "destroy") 717, Value.ref 384, Value.bool true]) #[]) ::
(nat_lit 386, Obj.mk (Value.type "tuple") none (Data.seq #[Value.ref 383, Value.ref 385]) #[]) ::
(nat_lit 387, Obj.mk (Value.type "tuple") none (Data.seq #[Value.str (Str.ofString "int") 721, Value.str (Str.ofString "int") 722]) #[]) ::
(nat_lit 388, Obj.mk (Value.type "tuple") none (Data.seq #[Value.str (Str.ofString "place") 720, Value.ref 387, Value.bool false]) #[]) ::
(nat_lit 389, Obj.mk (Value.type "tuple") none (Data.seq #[Value.str (Str.ofString "object surface") 724]) #[]) ::
(nat_lit 390, Obj.mk (Value.type "tuple") none (Data.seq #[Value.str (Str.ofString "above") 723, Value.ref 389, Value.bool false]) #[]) ::
(nat_lit 391, Obj.mk (Value.type "tuple") none (Data.seq #[Value.str (Str.ofString "object surface") 726]) #[]) ::
(nat_lit 392, Obj.mk (Value.type "tuple") none (Data.seq #[Value.str (Str.ofString "below") 725, Value.ref 391, Value.bool false]) #[]) ::
(nat_lit 393, Obj.mk (Value.type "tuple") none (Data.seq #[]) #[]) ::
(nat_lit 394, Obj.mk (Value.type "tuple") none (Data.seq #[Value.str (Str.ofString "sync") 727, Value.ref 393, Value.bool false]) #[]) ::
(nat_lit 395, Obj.mk (Value.type "tuple") none (Data.seq #[]) #[]) ::
(nat_lit 396, Obj.mk (Value.type "tuple") none (Data.seq #[Value.str (Str.ofString "desync") 728, Value.ref 395, Value.bool false]) #[]) ::
(nat_lit 397, Obj.mk (Value.type "tuple") none (Data.seq #[]) #[]) ::
(nat_lit 398, Obj.mk (Value.type "tuple") none (Data.seq #[Value.str (Str.ofString "destroy") 729, Value.ref 397, Value.bool true]) #[]) ::
(nat_lit 399, Obj.mk (Value.type "tuple") none (Data.seq #[Value.ref 388, Value.ref 390, Value.ref 392, Value.ref 394, Value.ref 396, Value.ref 398]) #[]) ::
(nat_lit 400, Obj.mk (Value.type "tuple") none (Data.seq #[]) #[]) ::
(nat_lit 401, Obj.mk (Value.type "tuple") none (Data.seq #[Value.str (Str.ofString "destroy") 732, Value.ref 400, Value.bool true]) #[]) ::
(nat_lit 402, Obj.mk (Value.type "tuple") none (Data.seq #[Value.ref 401]) #[]) ::
(nat_lit 403, Obj.mk (Value.type "tuple") none (Data.seq #[Value.str (Str.ofString "new window") 736, Value.str (Str.ofString "object surface") 737]) #[]) ::
(nat_lit 404, Obj.mk (Value.type "tuple") none (Data.seq #[Value.str (Str.ofString "window") 735, Value.ref 403, Value.bool false]) #[]) ::
(nat_lit 405, Obj.mk (Value.type "tuple") none (Data.seq #[Value.str (Str.ofString "new popup") 739, Value.str (Str.ofString "object surface") 740, Value.str (Str.ofString "object window|popup") 741, Value.str (Str.ofString "int") 742, Value.str (Str.ofString "int") 743, Value.str (Str.ofString "int") 744, Value.str (Str.ofString "int") 745, Value.str (Str.ofString "int") 746, Value.str (Str.ofString "int") 747, Value.str (Str.ofString "int") 748, Value.str (Str.ofString "int") 749, Value.str (Str.ofString "uint") 750, Value.str (Str.ofString "uint") 751, Value.str (Str.ofString "int") 752, Value.str (Str.ofString "int") 753, Value.str (Str.ofString "uint") 754, Value.str (Str.ofString "uint") 755]) #[]) ::
(nat_lit 406, Obj.mk (Value.type "tuple") none (Data.seq #[Value.str (Str.ofString "popup") 738, Value.ref 405, Value.bool false]) #[]) ::
(nat_lit 407, Obj.mk (Value.type "tuple") none (Data.seq #[Value.ref 404, Value.ref 406]) #[]) ::
(nat_lit 408, Obj.mk (Value.type "tuple") none (Data.seq #[]) #[]) ::
(nat_lit 409, Obj.mk (Value.type "tuple") none (Data.seq #[Value.str (Str.ofString "destroy") 758, Value.ref 408, Value.bool true]) #[]) ::
(nat_lit 410, Obj.mk (Value.type "tuple") none (Data.seq #[Value.str (Str.ofString "text") 760]) #[]) ::
(nat_lit 411, Obj.mk (Value.type "tuple") none (Data.seq #[Value.str (Str.ofString "title") 759, Value.ref 410, Value.bool false]) #[]) ::
(nat_lit 412, Obj.mk (Value.type "tuple") none (Data.seq #[Value.str (Str.ofString "text") 762]) #[]) ::
(nat_lit 413, Obj.mk (Value.type "tuple") none (Data.seq #[Value.str (Str.ofString "name") 761, Value.ref 412, Value.bool false]) #[]) ::
(nat_lit 414, Obj.mk (Value.type "tuple") none (Data.seq #[Value.str (Str.ofString "uint") 764, Value.str (Str.ofString "uint") 765]) #[]) ::
(nat_lit 415, Obj.mk (Value.type "tuple") none (Data.seq #[Value.str (Str.ofString "least") 763, Value.ref 414, Value.bool false]) #[]) ::
(nat_lit 416, Obj.mk (Value.type "tuple") none (Data.seq #[Value.str (Str.ofString "uint") 767, Value.str (Str.ofString "uint") 768]) #[]) ::
(nat_lit 417, Obj.mk (Value.type "tuple") none (Data.seq #[Value.str (Str.ofString "largest") 766, Value.ref 416, Value.bool false]) #[]) ::
(nat_lit 418, Obj.mk (Value.type "tuple") none (Data.seq #[Value.str (Str.ofString "uint") 770]) #[]) ::
(nat_lit 419, Obj.mk (Value.type "tuple") none (Data.seq #[Value.str (Str.ofString "ack") 769, Value.ref 418, Value.bool false]) #[]) ::
(nat_lit 420, Obj.mk (Value.type "tuple") none (Data.seq #[Value.str (Str.ofString "uint") 772]) #[]) ::
(nat_lit 421, Obj.mk (Value.type "tuple") none (Data.seq #[Value.str (Str.ofString "map_with") 771, Value.ref 420, Value.bool false]) #[]) ::
(nat_lit 422, Obj.mk (Value.type "tuple") none (Data.seq #[Value.str (Str.ofString "uint") 774, Value.str (Str.ofString "uint") 775]) #[]) ::
(nat_lit 423, Obj.mk (Value.type "tuple") none (Data.seq #[Value.str (Str.ofString "smaller") 773, Value.ref 422, Value.bool false]) #[]) ::
(nat_lit 424, Obj.mk (Value.type "tuple") none (Data.seq #[Value.str (Str.ofString "uint") 777, Value.str (Str.ofString "uint") 778, Value.str (Str.ofString "uint") 779]) #[]) ::
(nat_lit 425, Obj.mk (Value.type "tuple") none (Data.seq #[Value.str (Str.ofString "grow") 776, Value.ref 424, Value.bool false]) #[]) ::
(nat_lit 426, Obj.mk (Value.type "tuple") none (Data.seq #[Value.str (Str.ofString "uint") 781]) #[]) ::
(nat_lit 427, Obj.mk (Value.type "tuple") none (Data.seq #[Value.str (Str.ofString "raise") 780, Value.ref 426, Value.bool false]) #[]) ::
(nat_lit 428, Obj.mk (Value.type "tuple") none (Data.seq #[Value.str (Str.ofString "uint") 783]) #[]) ::
(nat_lit 429, Obj.mk (Value.type "tuple") none (Data.seq #[Value.str (Str.ofString "maximize") 782, Value.ref 428, Value.bool false]) #[]) ::
(nat_lit 430, Obj.mk (Value.type "tuple") none (Data.seq #[]) #[]) ::
(nat_lit 431, Obj.mk (Value.type "tuple") none (Data.seq #[Value.str (Str.ofString "restore") 784, Value.ref 430, Value.bool false]) #[]) ::
(nat_lit 432, Obj.mk (Value.type "tuple") none (Data.seq #[Value.ref 409, Value.ref 411, Value.ref 413, Value.ref 415, Value.ref 417, Value.ref 419, Value.ref 421, Value.ref 423, Value.ref 425, Value.ref 427, Value.ref 429, Value.ref 431]) #[]) ::
(nat_lit 433, Obj.mk (Value.type "tuple") none (Data.seq #[]) #[]) ::
(nat_lit 434, Obj.mk (Value.type "tuple") none (Data.seq #[Value.str (Str.ofString "destroy") 787, Value.ref 433, Value.bool true]) #[]) ::
(nat_lit 435, Obj.mk (Value.type "tuple") none (Data.seq #[Value.str (Str.ofString "int") 789, Value.str (Str.ofString "int") 790, Value.str (Str.ofString "int") 791, Value.str (Str.ofString "int") 792, Value.str (Str.ofString "int") 793, Value.str (Str.ofString "int") 794, Value.str (Str.ofString "int") 795, Value.str (Str.ofString "int") 796, Value.str (Str.ofString "uint") 797, Value.str (Str.ofString "uint") 798, Value.str (Str.ofString "int") 799, Value.str (Str.ofString "int") 800, Value.str (Str.ofString "uint") 801]) #[]) ::
(nat_lit 436, Obj.mk (Value.type "tuple") none (Data.seq #[Value.str (Str.ofString "place") 788, Value.ref 435, Value.bool false]) #[]) ::
(nat_lit 437, Obj.mk (Value.type "tuple") none (Data.seq #[Value.ref 434, Value.ref 436]) #[]) ::
(nat_lit 438, Obj.mk (Value.type "tuple") none (Data.seq #[Value.str (Str.ofString "new pointer") 805]) #[]) ::
(nat_lit 439, Obj.mk (Value.type "tuple") none (Data.seq #[Value.str (Str.ofString "pointer") 804, Value.ref 438, Value.bool false]) #[]) ::
(nat_lit 440, Obj.mk (Value.type "tuple") none (Data.seq #[Value.str (Str.ofString "new keyboard") 807]) #[]) ::
(nat_lit 441, Obj.mk (Value.type "tuple") none (Data.seq #[Value.str (Str.ofString "keyboard") 806, Value.ref 440, Value.bool false]) #[]) ::
(nat_lit 442, Obj.mk (Value.type "tuple") none (Data.seq #[Value.ref 439, Value.ref 441]) #[]) ::
(nat_lit 443, Obj.mk (Value.type "tuple") none (Data.seq #[]) #[]) ::
(nat_lit 444, Obj.mk (Value.type "tuple") none (Data.seq #[Value.str (Str.ofString "destroy") 810, Value.ref 443, Value.bool true]) #[]) ::
(nat_lit 445, Obj.mk (Value.type "tuple") none (Data.seq #[Value.str (Str.ofString "uint") 812]) #[]) ::
(nat_lit 446, Obj.mk (Value.type "tuple") none (Data.seq #[Value.str (Str.ofString "cursor") 811, Value.ref 445, Value.bool false]) #[]) ::
(nat_lit 447, Obj.mk (Value.type "tuple") none (Data.seq #[Value.ref 444, Value.ref 446]) #[]) ::
(nat_lit 448, Obj.mk (Value.type "tuple") none (Data.seq #[]) #[]) ::
(nat_lit 449, Obj.mk (Value.type "tuple") none (Data.seq #[Value.str (Str.ofString "destroy") 815, Value.ref 448, Value.bool true]) #[]) ::
(nat_lit 450, Obj.mk (Value.type "tuple") none (Data.seq #[Value.ref 449]) #[]) ::
(nat_lit 452, Obj.mk (Value.type "tuple") none (Data.seq #[Value.str (Str.ofString "new source") 819]) #[]) ::
(nat_lit 453, Obj.mk (Value.type "tuple") none (Data.seq #[Value.str (Str.ofString "source") 818, Value.ref 452, Value.bool false]) #[]) ::
(nat_lit 454, Obj.mk (Value.type "tuple") none (Data.seq #[Value.str (Str.ofString "object source") 821, Value.str (Str.ofString "uint") 822, Value.str (Str.ofString "uint") 823]) #[]) ::
(nat_lit 455, Obj.mk (Value.type "tuple") none (Data.seq #[Value.str (Str.ofString "give") 820, Value.ref 454, Value.bool false]) #[]) ::
(nat_lit 456, Obj.mk (Value.type "tuple") none (Data.seq #[Value.str (Str.ofString "object source") 825, Value.str (Str.ofString "uint") 826]) #[]) ::
(nat_lit 457, Obj.mk (Value.type "tuple") none (Data.seq #[Value.str (Str.ofString "drag") 824, Value.ref 456, Value.bool false]) #[]) ::
(nat_lit 458, Obj.mk (Value.type "tuple") none (Data.seq #[Value.str (Str.ofString "text") 828, Value.str (Str.ofString "octets") 829]) #[]) ::
(nat_lit 459, Obj.mk (Value.type "tuple") none (Data.seq #[Value.str (Str.ofString "send") 827, Value.ref 458, Value.bool false]) #[]) ::
(nat_lit 460, Obj.mk (Value.type "tuple") none (Data.seq #[Value.str (Str.ofString "text") 831]) #[]) ::
(nat_lit 461, Obj.mk (Value.type "tuple") none (Data.seq #[Value.str (Str.ofString "unsend") 830, Value.ref 460, Value.bool false]) #[]) ::
(nat_lit 462, Obj.mk (Value.type "tuple") none (Data.seq #[Value.str (Str.ofString "new capture") 833, Value.str (Str.ofString "object output") 834, Value.str (Str.ofString "int") 835, Value.str (Str.ofString "int") 836, Value.str (Str.ofString "uint") 837, Value.str (Str.ofString "uint") 838]) #[]) ::
(nat_lit 463, Obj.mk (Value.type "tuple") none (Data.seq #[Value.str (Str.ofString "ask") 832, Value.ref 462, Value.bool false]) #[]) ::
(nat_lit 464, Obj.mk (Value.type "tuple") none (Data.seq #[Value.str (Str.ofString "new fetch") 840, Value.str (Str.ofString "text") 841]) #[]) ::
(nat_lit 465, Obj.mk (Value.type "tuple") none (Data.seq #[Value.str (Str.ofString "fetch") 839, Value.ref 464, Value.bool false]) #[]) ::
(nat_lit 466, Obj.mk (Value.type "tuple") none (Data.seq #[Value.str (Str.ofString "new watch") 843, Value.str (Str.ofString "text") 844]) #[]) ::
(nat_lit 467, Obj.mk (Value.type "tuple") none (Data.seq #[Value.str (Str.ofString "watch") 842, Value.ref 466, Value.bool false]) #[]) ::
(nat_lit 468, Obj.mk (Value.type "tuple") none (Data.seq #[]) #[]) ::
(nat_lit 469, Obj.mk (Value.type "tuple") none (Data.seq #[Value.str (Str.ofString "destroy") 845, Value.ref 468, Value.bool true]) #[]) ::
(nat_lit 470, Obj.mk (Value.type "tuple") none (Data.seq #[Value.ref 453, Value.ref 455, Value.ref 457, Value.ref 459, Value.ref 461, Value.ref 463, Value.ref 465, Value.ref 467, Value.ref 469]) #[]) ::
(nat_lit 471, Obj.mk (Value.type "tuple") none (Data.seq #[Value.str (Str.ofString "text") 848, Value.str (Str.ofString "octets") 849]) #[]) ::
(nat_lit 472, Obj.mk (Value.type "tuple") none (Data.seq #[Value.str (Str.ofString "write") 847, Value.ref 471, Value.bool false]) #[]) ::
(nat_lit 473, Obj.mk (Value.type "tuple") none (Data.seq #[]) #[]) ::
(nat_lit 474, Obj.mk (Value.type "tuple") none (Data.seq #[Value.str (Str.ofString "destroy") 850, Value.ref 473, Value.bool true]) #[]) ::
(nat_lit 475, Obj.mk (Value.type "tuple") none (Data.seq #[Value.ref 472, Value.ref 474]) #[]) ::
(nat_lit 476, Obj.mk (Value.type "tuple") none (Data.seq #[Value.str (Str.ofString "text") 853, Value.str (Str.ofString "uint") 854, Value.str (Str.ofString "uint") 855]) #[]) ::
(nat_lit 477, Obj.mk (Value.type "tuple") none (Data.seq #[Value.str (Str.ofString "read") 852, Value.ref 476, Value.bool false]) #[]) ::
(nat_lit 478, Obj.mk (Value.type "tuple") none (Data.seq #[]) #[]) ::
(nat_lit 479, Obj.mk (Value.type "tuple") none (Data.seq #[Value.str (Str.ofString "destroy") 856, Value.ref 478, Value.bool true]) #[]) ::
(nat_lit 480, Obj.mk (Value.type "tuple") none (Data.seq #[Value.ref 477, Value.ref 479]) #[]) ::
(nat_lit 481, Obj.mk (Value.type "tuple") none (Data.seq #[Value.str (Str.ofString "uint") 859, Value.str (Str.ofString "uint") 860]) #[]) ::
(nat_lit 482, Obj.mk (Value.type "tuple") none (Data.seq #[Value.str (Str.ofString "read") 858, Value.ref 481, Value.bool false]) #[]) ::
(nat_lit 483, Obj.mk (Value.type "tuple") none (Data.seq #[]) #[]) ::
(nat_lit 484, Obj.mk (Value.type "tuple") none (Data.seq #[Value.str (Str.ofString "destroy") 861, Value.ref 483, Value.bool true]) #[]) ::
(nat_lit 485, Obj.mk (Value.type "tuple") none (Data.seq #[Value.ref 482, Value.ref 484]) #[]) ::
(nat_lit 486, Obj.mk (Value.type "tuple") none (Data.seq #[Value.str (Str.ofString "uint") 864, Value.str (Str.ofString "uint") 865]) #[]) ::
(nat_lit 487, Obj.mk (Value.type "tuple") none (Data.seq #[Value.str (Str.ofString "read") 863, Value.ref 486, Value.bool false]) #[]) ::
(nat_lit 488, Obj.mk (Value.type "tuple") none (Data.seq #[]) #[]) ::
(nat_lit 489, Obj.mk (Value.type "tuple") none (Data.seq #[Value.str (Str.ofString "destroy") 866, Value.ref 488, Value.bool true]) #[]) ::
(nat_lit 490, Obj.mk (Value.type "tuple") none (Data.seq #[Value.ref 487, Value.ref 489]) #[]) ::
(nat_lit 491, Obj.mk (Value.type "tuple") none (Data.seq #[]) #[]) ::
(nat_lit 492, Obj.mk (Value.type "tuple") none (Data.seq #[Value.str (Str.ofString "destroy") 868, Value.ref 491, Value.bool true]) #[]) ::
(nat_lit 493, Obj.mk (Value.type "tuple") none (Data.seq #[Value.ref 492]) #[]) ::
(nat_lit 494, Obj.mk (Value.type "tuple") none (Data.seq #[]) #[]) ::
(nat_lit 496, Obj.mk (Value.type "tuple") none (Data.seq #[Value.str (Str.ofString "interface") 879, Value.str (Str.ofString "opcode") 880]) #[]) ::
(nat_lit 497, Obj.mk (Value.type "tuple") none (Data.seq #[]) #[]) ::
(nat_lit 499, Obj.mk (Value.type "code") none (Data.fields #[Value.str (Str.ofString "request_row") 876, Value.str (Str.ofString "request_row") 877, Value.str (Str.ofString "/claim/cut.py") 878, Value.int 196 0, Value.int 2 0, Value.int 0 0, Value.int 0 0, Value.int 3 0, Value.ref 494, Value.bool true, Value.int 181 0, Value.ref 495, Value.none, Value.ref 496, Value.ref 497, Value.ref 498, Value.int 881 0, Value.int 196 0, Value.str (Str.ofString "/claim/cut.py") 882]) #[]) ::
(nat_lit 500, Obj.mk (Value.type "function") none (Data.func (FuncData.mk (Str.ofString "request_row") (Str.ofString "request_row") (defArgs (topS 53)) (.stmts (defBody (topS 53))) (defScope (topS 53)) 3 [] Value.none Value.none Value.none (Value.str (Str.ofString "sillwatch.objects.tables") 644) none (Value.ref 499) Value.none 0)) #[]) ::
(nat_lit 501, Obj.mk (Value.type "tuple") none (Data.seq #[]) #[]) ::
(nat_lit 503, Obj.mk (Value.type "tuple") none (Data.seq #[Value.str (Str.ofString "interface") 887, Value.str (Str.ofString "name") 888]) #[]) ::
(nat_lit 504, Obj.mk (Value.type "tuple") none (Data.seq #[]) #[]) ::
(nat_lit 506, Obj.mk (Value.type "code") none (Data.fields #[Value.str (Str.ofString "request_opcode") 884, Value.str (Str.ofString "request_opcode") 885, Value.str (Str.ofString "/claim/cut.py") 886, Value.int 198 0, Value.int 2 0, Value.int 0 0, Value.int 0 0, Value.int 3 0, Value.ref 501, Value.bool true, Value.int 181 0, Value.ref 502, Value.none, Value.ref 503, Value.ref 504, Value.ref 505, Value.int 889 0, Value.int 198 0, Value.str (Str.ofString "/claim/cut.py") 890]) #[]) ::
(nat_lit 507, Obj.mk (Value.type "function") none (Data.func (FuncData.mk (Str.ofString "request_opcode") (Str.ofString "request_opcode") (defArgs (topS 54)) (.stmts (defBody (topS 54))) (defScope (topS 54)) 3 [] Value.none Value.none Value.none (Value.str (Str.ofString "sillwatch.objects.tables") 644) none (Value.ref 506) Value.none 0)) #[]) ::
(nat_lit 508, Obj.mk (Value.type "tuple") none (Data.seq #[]) #[]) ::
(nat_lit 510, Obj.mk (Value.type "tuple") none (Data.seq #[Value.str (Str.ofString "rows") 895, Value.str (Str.ofString "opcode") 896]) #[]) ::
(nat_lit 511, Obj.mk (Value.type "tuple") none (Data.seq #[]) #[]) ::
(nat_lit 513, Obj.mk (Value.type "code") none (Data.fields #[Value.str (Str.ofString "_row_at") 892, Value.str (Str.ofString "_row_at") 893, Value.str (Str.ofString "/claim/cut.py") 894, Value.int 200 0, Value.int 2 0, Value.int 0 0, Value.int 0 0, Value.int 3 0, Value.ref 508, Value.bool true, Value.int 181 0, Value.ref 509, Value.none, Value.ref 510, Value.ref 511, Value.ref 512, Value.int 897 0, Value.int 200 0, Value.str (Str.ofString "/claim/cut.py") 898]) #[]) ::
(nat_lit 514, Obj.mk (Value.type "function") none (Data.func (FuncData.mk (Str.ofString "_row_at") (Str.ofString "_row_at") (defArgs (topS 55)) (.stmts (defBody (topS 55))) (defScope (topS 55)) 3 [] Value.none Value.none Value.none (Value.str (Str.ofString "sillwatch.objects.tables") 644) none (Value.ref 513) Value.none 0)) #[]) ::
(nat_lit 515, Obj.mk (Value.type "tuple") none (Data.seq #[]) #[]) ::
(nat_lit 518, Obj.mk (Value.type "code") none (Data.fields #[Value.str (Str.ofString "_opcode_of") 900, Value.str (Str.ofString "_opcode_of") 901, Value.str (Str.ofString "/claim/cut.py") 902, Value.int 202 0, Value.int 2 0, Value.int 0 0, Value.int 0 0, Value.int 3 0, Value.ref 515, Value.bool true, Value.int 181 0, Value.ref 516, Value.none, Value.none, Value.none, Value.ref 517, Value.int 903 0, Value.int 202 0, Value.str (Str.ofString "/claim/cut.py") 904]) #[]) ::
(nat_lit 519, Obj.mk (Value.type "function") none (Data.func (FuncData.mk (Str.ofString "_opcode_of") (Str.ofString "_opcode_of") (defArgs (topS 56)) (.stmts (defBody (topS 56))) (defScope (topS 56)) 3 [] Value.none Value.none Value.none (Value.str (Str.ofString "sillwatch.objects.tables") 644) none (Value.ref 518) Value.none 0)) #[]) ::
(nat_lit 527, Obj.mk (Value.type "tuple") none (Data.seq #[]) #[]) ::
(nat_lit 529, Obj.mk (Value.type "tuple") none (Data.seq #[Value.str (Str.ofString "self") 923, Value.str (Str.ofString "number") 924, Value.str (Str.ofString "interface") 925, Value.str (Str.ofString "name") 926, Value.str (Str.ofString "arguments") 927, Value.str (Str.ofString "ends") 928]) #[]) ::
(nat_lit 530, Obj.mk (Value.type "tuple") none (Data.seq #[]) #[]) ::
(nat_lit 532, Obj.mk (Value.type "code") none (Data.fields #[Value.str (Str.ofString "__init__") 920, Value.str (Str.ofString "Request.__init__") 921, Value.str (Str.ofString "/claim/cut.py") 922, Value.int 207 0, Value.int 6 0, Value.int 0 0, Value.int 0 0, Value.int 3 0, Value.ref 527, Value.bool true, Value.int 181 0, Value.ref 528, Value.none, Value.ref 529, Value.ref 530, Value.ref 531, Value.int 929 0, Value.int 207 0, Value.str (Str.ofString "/claim/cut.py") 930]) #[]) ::
(nat_lit 533, Obj.mk (Value.type "function") none (Data.func (FuncData.mk (Str.ofString "__init__") (Str.ofString "Request.__init__") (defArgs (inClass (topS 58) 0)) (.stmts (defBody (inClass (topS 58) 0))) (defScope (inClass (topS 58) 0)) 3 [] Value.none Value.none Value.none (Value.str (Str.ofString "sillwatch.objects.requests") 906) none (Value.ref 532) Value.none 0)) #[]) ::
(nat_lit 534, Obj.mk (Value.type "tuple") none (Data.seq #[Value.str (Str.ofString "arguments") 932, Value.str (Str.ofString "ends") 933, Value.str (Str.ofString "interface") 934, Value.str (Str.ofString "name") 935, Value.str (Str.ofString "number") 936]) #[]) ::
(nat_lit 535, Obj.mk (Value.type "dict") none (Data.dict #[DictEntry.mk (PyData.keyHash PP (Str.ofString "__module__")) (Value.str (Str.ofString "__module__") 915) (Value.str (Str.ofString "sillwatch.objects.requests") 906), DictEntry.mk (PyData.keyHash PP (Str.ofString "__firstlineno__")) (Value.str (Str.ofString "__firstlineno__") 919) (Value.int 205 918), DictEntry.mk (PyData.keyHash PP (Str.ofString "__init__")) (Value.str (Str.ofString "__init__") 931) (Value.ref 533), DictEntry.mk (PyData.keyHash PP (Str.ofString "__static_attributes__")) (Value.str (Str.ofString "__static_attributes__") 937) (Value.ref 534), DictEntry.mk (PyData.keyHash PP (Str.ofString "__dict__")) (Value.str (Str.ofString "__dict__") 939) (Value.ref 537), DictEntry.mk (PyData.keyHash PP (Str.ofString "__weakref__")) (Value.str (Str.ofString "__weakref__") 941) (Value.ref 538), DictEntry.mk (PyData.keyHash PP (Str.ofString "__doc__")) (Value.str (Str.ofString "__doc__") 942) Value.none] 4) #[]) ::
(nat_lit 536, Obj.mk (Value.type "type") none (Data.cls (ClassData.mk (Str.ofString "Request") [Value.type "object"] [Value.ref 536, Value.type "object"] 535 (Str.ofString "Request") true [] [] false none false)) #[none, none, some (Value.str (Str.ofString "Request") 908), some (Value.str (Str.ofString "Request") 916), some (Value.builtin "object.__new__"), some (Value.bool true)]) ::
(nat_lit 537, Obj.mk (Value.type "getset_descriptor") none (Data.fields #[Value.str (Str.ofString "__dict__") 938, Value.ref 536, Value.builtin "function.__dict__", Value.builtin "function.__dict__#set"]) #[]) ::
(nat_lit 538, Obj.mk (Value.type "getset_descriptor") none (Data.fields #[Value.str (Str.ofString "__weakref__") 940, Value.ref 536, Value.builtin "ExceptionGroup.__weakref__", Value.none]) #[]) ::
(nat_lit 541, Obj.mk (Value.type "tuple") none (Data.seq #[]) #[]) ::
(nat_lit 543, Obj.mk (Value.type "tuple") none (Data.seq #[Value.str (Str.ofString "objects") 948, Value.str (Str.ofString "message") 949, Value.str (Str.ofString "number") 950, Value.str (Str.ofString "opcode") 951, Value.str (Str.ofString "body") 952, Value.str (Str.ofString "interface") 953, Value.str (Str.ofString "row") 954, Value.str (Str.ofString "name") 955, Value.str (Str.ofString "parts") 956, Value.str (Str.ofString "ends") 957, Value.str (Str.ofString "request") 958]) #[]) ::
(nat_lit 544, Obj.mk (Value.type "tuple") none (Data.seq #[]) #[]) ::
(nat_lit 546, Obj.mk (Value.type "code") none (Data.fields #[Value.str (Str.ofString "look_at") 945, Value.str (Str.ofString "look_at") 946, Value.str (Str.ofString "/claim/cut.py") 947, Value.int 213 0, Value.int 2 0, Value.int 0 0, Value.int 0 0, Value.int 3 0, Value.ref 541, Value.bool true, Value.int 181 0, Value.ref 542, Value.none, Value.ref 543, Value.ref 544, Value.ref 545, Value.int 959 0, Value.int 213 0, Value.str (Str.ofString "/claim/cut.py") 960]) #[]) ::
(nat_lit 547, Obj.mk (Value.type "function") none (Data.func (FuncData.mk (Str.ofString "look_at") (Str.ofString "look_at") (defArgs (topS 59)) (.stmts (defBody (topS 59))) (defScope (topS 59)) 3 [] Value.none Value.none Value.none (Value.str (Str.ofString "sillwatch.objects.requests") 906) none (Value.ref 546) Value.none 0)) #[]) ::
(nat_lit 548, Obj.mk (Value.type "tuple") none (Data.seq #[]) #[]) ::
(nat_lit 550, Obj.mk (Value.type "tuple") none (Data.seq #[Value.str (Str.ofString "request") 965, Value.str (Str.ofString "row") 966, Value.str (Str.ofString "part") 967, Value.str (Str.ofString "value") 968, Value.str (Str.ofString "kind") 969, Value.str (Str.ofString "interface") 970]) #[]) ::
(nat_lit 551, Obj.mk (Value.type "tuple") none (Data.seq #[]) #[]) ::
(nat_lit 553, Obj.mk (Value.type "code") none (Data.fields #[Value.str (Str.ofString "new_object") 962, Value.str (Str.ofString "new_object") 963, Value.str (Str.ofString "/claim/cut.py") 964, Value.int 226 0, Value.int 1 0, Value.int 0 0, Value.int 0 0, Value.int 3 0, Value.ref 548, Value.bool true, Value.int 181 0, Value.ref 549, Value.none, Value.ref 550, Value.ref 551, Value.ref 552, Value.int 971 0, Value.int 226 0, Value.str (Str.ofString "/claim/cut.py") 972]) #[]) ::
(nat_lit 554, Obj.mk (Value.type "function") none (Data.func (FuncData.mk (Str.ofString "new_object") (Str.ofString "new_object") (defArgs (topS 60)) (.stmts (defBody (topS 60))) (defScope (topS 60)) 3 [] Value.none Value.none Value.none (Value.str (Str.ofString "sillwatch.objects.requests") 906) none (Value.ref 553) Value.none 0)) #[]) ::
(nat_lit 555, Obj.mk (Value.type "tuple") none (Data.seq #[]) #[]) ::
(nat_lit 557, Obj.mk (Value.type "tuple") none (Data.seq #[Value.str (Str.ofString "part") 977, Value.str (Str.ofString "kind") 978, Value.str (Str.ofString "_") 979, Value.str (Str.ofString "interface") 980]) #[]) ::
(nat_lit 558, Obj.mk (Value.type "tuple") none (Data.seq #[]) #[]) ::
(nat_lit 560, Obj.mk (Value.type "code") none (Data.fields #[Value.str (Str.ofString "_kind_and_interface") 974, Value.str (Str.ofString "_kind_and_interface") 975, Value.str (Str.ofString "/claim/cut.py") 976, Value.int 235 0, Value.int 1 0, Value.int 0 0, Value.int 0 0, Value.int 3 0, Value.ref 555, Value.bool true, Value.int 181 0, Value.ref 556, Value.none, Value.ref 557, Value.ref 558, Value.ref 559, Value.int 981 0, Value.int 235 0, Value.str (Str.ofString "/claim/cut.py") 982]) #[]) ::
(nat_lit 561, Obj.mk (Value.type "function") none (Data.func (FuncData.mk (Str.ofString "_kind_and_interface") (Str.ofString "_kind_and_interface") (defArgs (topS 61)) (.stmts (defBody (topS 61))) (defScope (topS 61)) 3 [] Value.none Value.none Value.none (Value.str (Str.ofString "sillwatch.objects.requests") 906) none (Value.ref 560) Value.none 0)) #[]) ::
(nat_lit 562, Obj.mk (Value.type "tuple") none (Data.seq #[]) #[]) ::
(nat_lit 565, Obj.mk (Value.type "code") none (Data.fields #[Value.str (Str.ofString "_arguments") 984, Value.str (Str.ofString "_arguments") 985, Value.str (Str.ofString "/claim/cut.py") 986, Value.int 238 0, Value.int 3 0, Value.int 0 0, Value.int 0 0, Value.int 3 0, Value.ref 562, Value.bool true, Value.int 181 0, Value.ref 563, Value.none, Value.none, Value.none, Value.ref 564, Value.int 987 0, Value.int 238 0, Value.str (Str.ofString "/claim/cut.py") 988]) #[]) ::
(nat_lit 566, Obj.mk (Value.type "function") none (Data.func (FuncData.mk (Str.ofString "_arguments") (Str.ofString "_arguments") (defArgs (topS 62)) (.stmts (defBody (topS 62))) (defScope (topS 62)) 3 [] Value.none Value.none Value.none (Value.str (Str.ofString "sillwatch.objects.requests") 906) none (Value.ref 565) Value.none 0)) #[]) ::
(nat_lit 567, Obj.mk (Value.type "tuple") none (Data.seq #[]) #[]) ::
(nat_lit 569, Obj.mk (Value.type "tuple") none (Data.seq #[Value.str (Str.ofString "objects") 993, Value.str (Str.ofString "request") 994, Value.str (Str.ofString "parts") 995, Value.str (Str.ofString "part") 996, Value.str (Str.ofString "value") 997, Value.str (Str.ofString "kind") 998, Value.str (Str.ofString "interfaces") 999, Value.str (Str.ofString "interface") 1000]) #[]) ::
(nat_lit 570, Obj.mk (Value.type "tuple") none (Data.seq #[]) #[]) ::
(nat_lit 572, Obj.mk (Value.type "code") none (Data.fields #[Value.str (Str.ofString "_check_named") 990, Value.str (Str.ofString "_check_named") 991, Value.str (Str.ofString "/claim/cut.py") 992, Value.int 249 0, Value.int 3 0, Value.int 0 0, Value.int 0 0, Value.int 3 0, Value.ref 567, Value.bool true, Value.int 181 0, Value.ref 568, Value.none, Value.ref 569, Value.ref 570, Value.ref 571, Value.int 1001 0, Value.int 249 0, Value.str (Str.ofString "/claim/cut.py") 1002]) #[]) ::
(nat_lit 573, Obj.mk (Value.type "function") none (Data.func (FuncData.mk (Str.ofString "_check_named") (Str.ofString "_check_named") (defArgs (topS 63)) (.stmts (defBody (topS 63))) (defScope (topS 63)) 3 [] Value.none Value.none Value.none (Value.str (Str.ofString "sillwatch.objects.requests") 906) none (Value.ref 572) Value.none 0)) #[]) ::
(nat_lit 574, Obj.mk (Value.type "tuple") none (Data.seq #[]) #[]) ::
(nat_lit 576, Obj.mk (Value.type "tuple") none (Data.seq #[Value.str (Str.ofString "objects") 1007, Value.str (Str.ofString "request") 1008, Value.str (Str.ofString "made") 1009]) #[]) ::
(nat_lit 577, Obj.mk (Value.type "tuple") none (Data.seq #[]) #[]) ::
(nat_lit 579, Obj.mk (Value.type "code") none (Data.fields #[Value.str (Str.ofString "_check_new") 1004, Value.str (Str.ofString "_check_new") 1005, Value.str (Str.ofString "/claim/cut.py") 1006, Value.int 259 0, Value.int 2 0, Value.int 0 0, Value.int 0 0, Value.int 3 0, Value.ref 574, Value.bool true, Value.int 181 0, Value.ref 575, Value.none, Value.ref 576, Value.ref 577, Value.ref 578, Value.int 1010 0, Value.int 259 0, Value.str (Str.ofString "/claim/cut.py") 1011]) #[]) ::
(nat_lit 580, Obj.mk (Value.type "function") none (Data.func (FuncData.mk (Str.ofString "_check_new") (Str.ofString "_check_new") (defArgs (topS 64)) (.stmts (defBody (topS 64))) (defScope (topS 64)) 3 [] Value.none Value.none Value.none (Value.str (Str.ofString "sillwatch.objects.requests") 906) none (Value.ref 579) Value.none 0)) #[]) ::
(nat_lit 581, Obj.mk (Value.type "tuple") none (Data.seq #[]) #[]) ::
(nat_lit 583, Obj.mk (Value.type "tuple") none (Data.seq #[Value.str (Str.ofString "script") 1018, Value.str (Str.ofString "k") 1019, Value.str (Str.ofString "cell") 1020]) #[]) ::
(nat_lit 584, Obj.mk (Value.type "tuple") none (Data.seq #[]) #[]) ::
(nat_lit 586, Obj.mk (Value.type "code") none (Data.fields #[Value.str (Str.ofString "_law_cell") 1015, Value.str (Str.ofString "_law_cell") 1016, Value.str (Str.ofString "/claim/cut.py") 1017, Value.int 268 0, Value.int 2 0, Value.int 0 0, Value.int 0 0, Value.int 3 0, Value.ref 581, Value.bool true, Value.int 181 0, Value.ref 582, Value.none, Value.ref 583, Value.ref 584, Value.ref 585, Value.int 1021 0, Value.int 268 0, Value.str (Str.ofString "/claim/cut.py") 1022]) #[]) ::
(nat_lit 587, Obj.mk (Value.type "function") none (Data.func (FuncData.mk (Str.ofString "_law_cell") (Str.ofString "_law_cell") (defArgs (topS 66)) (.stmts (defBody (topS 66))) (defScope (topS 66)) 3 [] Value.none Value.none Value.none (Value.str (Str.ofString "law_sillwatch_k13_refused_requests") 1013) none (Value.ref 586) Value.none 0)) #[]) ::
(nat_lit 588, Obj.mk (Value.type "tuple") none (Data.seq #[]) #[]) ::
(nat_lit 590, Obj.mk (Value.type "tuple") none (Data.seq #[Value.str (Str.ofString "script") 1027, Value.str (Str.ofString "k") 1028, Value.str (Str.ofString "cell") 1029, Value.str (Str.ofString "one") 1030, Value.str (Str.ofString "two") 1031]) #[]) ::
(nat_lit 591, Obj.mk (Value.type "tuple") none (Data.seq #[]) #[]) ::
(nat_lit 593, Obj.mk (Value.type "code") none (Data.fields #[Value.str (Str.ofString "_law_row") 1024, Value.str (Str.ofString "_law_row") 1025, Value.str (Str.ofString "/claim/cut.py") 1026, Value.int 275 0, Value.int 2 0, Value.int 0 0, Value.int 0 0, Value.int 3 0, Value.ref 588, Value.bool true, Value.int 181 0, Value.ref 589, Value.none, Value.ref 590, Value.ref 591, Value.ref 592, Value.int 1032 0, Value.int 275 0, Value.str (Str.ofString "/claim/cut.py") 1033]) #[]) ::
(nat_lit 594, Obj.mk (Value.type "function") none (Data.func (FuncData.mk (Str.ofString "_law_row") (Str.ofString "_law_row") (defArgs (topS 67)) (.stmts (defBody (topS 67))) (defScope (topS 67)) 3 [] Value.none Value.none Value.none (Value.str (Str.ofString "law_sillwatch_k13_refused_requests") 1013) none (Value.ref 593) Value.none 0)) #[]) ::
(nat_lit 595, Obj.mk (Value.type "tuple") none (Data.seq #[]) #[]) ::
(nat_lit 597, Obj.mk (Value.type "tuple") none (Data.seq #[]) #[]) ::
(nat_lit 598, Obj.mk (Value.type "tuple") none (Data.seq #[]) #[]) ::
(nat_lit 600, Obj.mk (Value.type "code") none (Data.fields #[Value.str (Str.ofString "_law_rows") 1035, Value.str (Str.ofString "_law_rows") 1036, Value.str (Str.ofString "/claim/cut.py") 1037, Value.int 282 0, Value.int 0 0, Value.int 0 0, Value.int 0 0, Value.int 3 0, Value.ref 595, Value.bool true, Value.int 181 0, Value.ref 596, Value.none, Value.ref 597, Value.ref 598, Value.ref 599, Value.int 1038 0, Value.int 282 0, Value.str (Str.ofString "/claim/cut.py") 1039]) #[]) ::
(nat_lit 601, Obj.mk (Value.type "function") none (Data.func (FuncData.mk (Str.ofString "_law_rows") (Str.ofString "_law_rows") (defArgs (topS 68)) (.stmts (defBody (topS 68))) (defScope (topS 68)) 3 [] Value.none Value.none Value.none (Value.str (Str.ofString "law_sillwatch_k13_refused_requests") 1013) none (Value.ref 600) Value.none 0)) #[]) ::
(nat_lit 602, Obj.mk (Value.type "tuple") none (Data.seq #[]) #[]) ::
(nat_lit 604, Obj.mk (Value.type "tuple") none (Data.seq #[Value.str (Str.ofString "text") 1044]) #[]) ::
(nat_lit 605, Obj.mk (Value.type "tuple") none (Data.seq #[]) #[]) ::
(nat_lit 607, Obj.mk (Value.type "code") none (Data.fields #[Value.str (Str.ofString "_law_list") 1041, Value.str (Str.ofString "_law_list") 1042, Value.str (Str.ofString "/claim/cut.py") 1043, Value.int 284 0, Value.int 1 0, Value.int 0 0, Value.int 0 0, Value.int 3 0, Value.ref 602, Value.bool true, Value.int 181 0, Value.ref 603, Value.none, Value.ref 604, Value.ref 605, Value.ref 606, Value.int 1045 0, Value.int 284 0, Value.str (Str.ofString "/claim/cut.py") 1046]) #[]) ::
(nat_lit 608, Obj.mk (Value.type "function") none (Data.func (FuncData.mk (Str.ofString "_law_list") (Str.ofString "_law_list") (defArgs (topS 69)) (.stmts (defBody (topS 69))) (defScope (topS 69)) 3 [] Value.none Value.none Value.none (Value.str (Str.ofString "law_sillwatch_k13_refused_requests") 1013) none (Value.ref 607) Value.none 0)) #[]) ::
(nat_lit 609, Obj.mk (Value.type "tuple") none (Data.seq #[]) #[]) ::
(nat_lit 611, Obj.mk (Value.type "tuple") none (Data.seq #[Value.str (Str.ofString "text") 1051, Value.str (Str.ofString "name") 1052, Value.str (Str.ofString "rest") 1053, Value.str (Str.ofString "ends") 1054, Value.str (Str.ofString "inner") 1055, Value.str (Str.ofString "words") 1056]) #[]) ::
(nat_lit 612, Obj.mk (Value.type "tuple") none (Data.seq #[]) #[]) ::
(nat_lit 614, Obj.mk (Value.type "code") none (Data.fields #[Value.str (Str.ofString "_law_split") 1048, Value.str (Str.ofString "_law_split") 1049, Value.str (Str.ofString "/claim/cut.py") 1050, Value.int 288 0, Value.int 1 0, Value.int 0 0, Value.int 0 0, Value.int 3 0, Value.ref 609, Value.bool true, Value.int 181 0, Value.ref 610, Value.none, Value.ref 611, Value.ref 612, Value.ref 613, Value.int 1057 0, Value.int 288 0, Value.str (Str.ofString "/claim/cut.py") 1058]) #[]) ::
(nat_lit 615, Obj.mk (Value.type "function") none (Data.func (FuncData.mk (Str.ofString "_law_split") (Str.ofString "_law_split") (defArgs (topS 70)) (.stmts (defBody (topS 70))) (defScope (topS 70)) 3 [] Value.none Value.none Value.none (Value.str (Str.ofString "law_sillwatch_k13_refused_requests") 1013) none (Value.ref 614) Value.none 0)) #[]) ::
(nat_lit 616, Obj.mk (Value.type "tuple") none (Data.seq #[]) #[]) ::
(nat_lit 619, Obj.mk (Value.type "code") none (Data.fields #[Value.str (Str.ofString "_law_table") 1060, Value.str (Str.ofString "_law_table") 1061, Value.str (Str.ofString "/claim/cut.py") 1062, Value.int 296 0, Value.int 0 0, Value.int 0 0, Value.int 0 0, Value.int 3 0, Value.ref 616, Value.bool true, Value.int 181 0, Value.ref 617, Value.none, Value.none, Value.none, Value.ref 618, Value.int 1063 0, Value.int 296 0, Value.str (Str.ofString "/claim/cut.py") 1064]) #[]) ::
(nat_lit 620, Obj.mk (Value.type "function") none (Data.func (FuncData.mk (Str.ofString "_law_table") (Str.ofString "_law_table") (defArgs (topS 71)) (.stmts (defBody (topS 71))) (defScope (topS 71)) 3 [] Value.none Value.none Value.none (Value.str (Str.ofString "law_sillwatch_k13_refused_requests") 1013) none (Value.ref 619) Value.none 0)) #[]) ::
(nat_lit 621, Obj.mk (Value.type "tuple") none (Data.seq #[]) #[]) ::
(nat_lit 624, Obj.mk (Value.type "code") none (Data.fields #[Value.str (Str.ofString "_law_world") 1066, Value.str (Str.ofString "_law_world") 1067, Value.str (Str.ofString "/claim/cut.py") 1068, Value.int 302 0, Value.int 2 0, Value.int 0 0, Value.int 0 0, Value.int 3 0, Value.ref 621, Value.bool true, Value.int 181 0, Value.ref 622, Value.none, Value.none, Value.none, Value.ref 623, Value.int 1069 0, Value.int 302 0, Value.str (Str.ofString "/claim/cut.py") 1070]) #[]) ::
(nat_lit 625, Obj.mk (Value.type "function") none (Data.func (FuncData.mk (Str.ofString "_law_world") (Str.ofString "_law_world") (defArgs (topS 72)) (.stmts (defBody (topS 72))) (defScope (topS 72)) 3 [] Value.none Value.none Value.none (Value.str (Str.ofString "law_sillwatch_k13_refused_requests") 1013) none (Value.ref 624) Value.none 0)) #[]) ::
(nat_lit 626, Obj.mk (Value.type "tuple") none (Data.seq #[]) #[]) ::
(nat_lit 629, Obj.mk (Value.type "code") none (Data.fields #[Value.str (Str.ofString "_law_pick") 1072, Value.str (Str.ofString "_law_pick") 1073, Value.str (Str.ofString "/claim/cut.py") 1074, Value.int 314 0, Value.int 3 0, Value.int 0 0, Value.int 0 0, Value.int 3 0, Value.ref 626, Value.bool true, Value.int 181 0, Value.ref 627, Value.none, Value.none, Value.none, Value.ref 628, Value.int 1075 0, Value.int 314 0, Value.str (Str.ofString "/claim/cut.py") 1076]) #[]) ::
(nat_lit 630, Obj.mk (Value.type "function") none (Data.func (FuncData.mk (Str.ofString "_law_pick") (Str.ofString "_law_pick") (defArgs (topS 73)) (.stmts (defBody (topS 73))) (defScope (topS 73)) 3 [] Value.none Value.none Value.none (Value.str (Str.ofString "law_sillwatch_k13_refused_requests") 1013) none (Value.ref 629) Value.none 0)) #[]) ::
(nat_lit 631, Obj.mk (Value.type "tuple") none (Data.seq #[]) #[]) ::
(nat_lit 633, Obj.mk (Value.type "tuple") none (Data.seq #[Value.str (Str.ofString "objects") 1081, Value.str (Str.ofString "row") 1082, Value.str (Str.ofString "number") 1083, Value.str (Str.ofString "step") 1084]) #[]) ::
(nat_lit 634, Obj.mk (Value.type "tuple") none (Data.seq #[]) #[]) ::
(nat_lit 636, Obj.mk (Value.type "code") none (Data.fields #[Value.str (Str.ofString "_law_free") 1078, Value.str (Str.ofString "_law_free") 1079, Value.str (Str.ofString "/claim/cut.py") 1080, Value.int 319 0, Value.int 2 0, Value.int 0 0, Value.int 0 0, Value.int 3 0, Value.ref 631, Value.bool true, Value.int 181 0, Value.ref 632, Value.none, Value.ref 633, Value.ref 634, Value.ref 635, Value.int 1085 0, Value.int 319 0, Value.str (Str.ofString "/claim/cut.py") 1086]) #[]) ::
(nat_lit 637, Obj.mk (Value.type "function") none (Data.func (FuncData.mk (Str.ofString "_law_free") (Str.ofString "_law_free") (defArgs (topS 74)) (.stmts (defBody (topS 74))) (defScope (topS 74)) 3 [] Value.none Value.none Value.none (Value.str (Str.ofString "law_sillwatch_k13_refused_requests") 1013) none (Value.ref 636) Value.none 0)) #[]) ::
(nat_lit 638, Obj.mk (Value.type "tuple") none (Data.seq #[]) #[]) ::
(nat_lit 640, Obj.mk (Value.type "tuple") none (Data.seq #[Value.str (Str.ofString "objects") 1091, Value.str (Str.ofString "argument") 1092, Value.str (Str.ofString "row") 1093, Value.str (Str.ofString "words") 1094]) #[]) ::
(nat_lit 641, Obj.mk (Value.type "tuple") none (Data.seq #[]) #[]) ::
(nat_lit 643, Obj.mk (Value.type "code") none (Data.fields #[Value.str (Str.ofString "_law_argument") 1088, Value.str (Str.ofString "_law_argument") 1089, Value.str (Str.ofString "/claim/cut.py") 1090, Value.int 325 0, Value.int 3 0, Value.int 0 0, Value.int 0 0, Value.int 3 0, Value.ref 638, Value.bool true, Value.int 181 0, Value.ref 639, Value.none, Value.ref 640, Value.ref 641, Value.ref 642, Value.int 1095 0, Value.int 325 0, Value.str (Str.ofString "/claim/cut.py") 1096]) #[]) ::
(nat_lit 644, Obj.mk (Value.type "function") none (Data.func (FuncData.mk (Str.ofString "_law_argument") (Str.ofString "_law_argument") (defArgs (topS 75)) (.stmts (defBody (topS 75))) (defScope (topS 75)) 3 [] Value.none Value.none Value.none (Value.str (Str.ofString "law_sillwatch_k13_refused_requests") 1013) none (Value.ref 643) Value.none 0)) #[]) ::
(nat_lit 645, Obj.mk (Value.type "tuple") none (Data.seq #[]) #[]) ::
(nat_lit 647, Obj.mk (Value.type "tuple") none (Data.seq #[Value.str (Str.ofString "objects") 1101, Value.str (Str.ofString "argument") 1102, Value.str (Str.ofString "value") 1103, Value.str (Str.ofString "row") 1104, Value.str (Str.ofString "kind") 1105, Value.str (Str.ofString "case") 1106]) #[]) ::
(nat_lit 648, Obj.mk (Value.type "tuple") none (Data.seq #[]) #[]) ::
(nat_lit 650, Obj.mk (Value.type "code") none (Data.fields #[Value.str (Str.ofString "_law_bad") 1098, Value.str (Str.ofString "_law_bad") 1099, Value.str (Str.ofString "/claim/cut.py") 1100, Value.int 342 0, Value.int 4 0, Value.int 0 0, Value.int 0 0, Value.int 3 0, Value.ref 645, Value.bool true, Value.int 181 0, Value.ref 646, Value.none, Value.ref 647, Value.ref 648, Value.ref 649, Value.int 1107 0, Value.int 342 0, Value.str (Str.ofString "/claim/cut.py") 1108]) #[]) ::
(nat_lit 651, Obj.mk (Value.type "function") none (Data.func (FuncData.mk (Str.ofString "_law_bad") (Str.ofString "_law_bad") (defArgs (topS 76)) (.stmts (defBody (topS 76))) (defScope (topS 76)) 3 [] Value.none Value.none Value.none (Value.str (Str.ofString "law_sillwatch_k13_refused_requests") 1013) none (Value.ref 650) Value.none 0)) #[]) ::
(nat_lit 652, Obj.mk (Value.type "tuple") none (Data.seq #[]) #[]) ::
(nat_lit 654, Obj.mk (Value.type "tuple") none (Data.seq #[Value.str (Str.ofString "objects") 1113, Value.str (Str.ofString "number") 1114, Value.str (Str.ofString "arguments") 1115, Value.str (Str.ofString "values") 1116, Value.str (Str.ofString "j") 1117, Value.str (Str.ofString "words") 1118, Value.str (Str.ofString "interface") 1119, Value.str (Str.ofString "given") 1120]) #[]) ::
(nat_lit 655, Obj.mk (Value.type "tuple") none (Data.seq #[]) #[]) ::
(nat_lit 657, Obj.mk (Value.type "code") none (Data.fields #[Value.str (Str.ofString "_law_due") 1110, Value.str (Str.ofString "_law_due") 1111, Value.str (Str.ofString "/claim/cut.py") 1112, Value.int 350 0, Value.int 4 0, Value.int 0 0, Value.int 0 0, Value.int 3 0, Value.ref 652, Value.bool true, Value.int 181 0, Value.ref 653, Value.none, Value.ref 654, Value.ref 655, Value.ref 656, Value.int 1121 0, Value.int 350 0, Value.str (Str.ofString "/claim/cut.py") 1122]) #[]) ::
(nat_lit 658, Obj.mk (Value.type "function") none (Data.func (FuncData.mk (Str.ofString "_law_due") (Str.ofString "_law_due") (defArgs (topS 77)) (.stmts (defBody (topS 77))) (defScope (topS 77)) 3 [] Value.none Value.none Value.none (Value.str (Str.ofString "law_sillwatch_k13_refused_requests") 1013) none (Value.ref 657) Value.none 0)) #[]) ::
(nat_lit 659, Obj.mk (Value.type "tuple") none (Data.seq #[]) #[]) ::
(nat_lit 661, Obj.mk (Value.type "tuple") none (Data.seq #[Value.str (Str.ofString "objects") 1127, Value.str (Str.ofString "message") 1128, Value.str (Str.ofString "e") 1129]) #[]) ::
(nat_lit 662, Obj.mk (Value.type "tuple") none (Data.seq #[]) #[]) ::
(nat_lit 664, Obj.mk (Value.type "code") none (Data.fields #[Value.str (Str.ofString "_law_told") 1124, Value.str (Str.ofString "_law_told") 1125, Value.str (Str.ofString "/claim/cut.py") 1126, Value.int 368 0, Value.int 2 0, Value.int 0 0, Value.int 0 0, Value.int 3 0, Value.ref 659, Value.bool true, Value.int 181 0, Value.ref 660, Value.none, Value.ref 661, Value.ref 662, Value.ref 663, Value.int 1130 0, Value.int 368 0, Value.str (Str.ofString "/claim/cut.py") 1131]) #[]) ::
(nat_lit 665, Obj.mk (Value.type "function") none (Data.func (FuncData.mk (Str.ofString "_law_told") (Str.ofString "_law_told") (defArgs (topS 78)) (.stmts (defBody (topS 78))) (defScope (topS 78)) 3 [] Value.none Value.none Value.none (Value.str (Str.ofString "law_sillwatch_k13_refused_requests") 1013) none (Value.ref 664) Value.none 0)) #[]) ::
(nat_lit 666, Obj.mk (Value.type "tuple") none (Data.seq #[]) #[]) ::
(nat_lit 669, Obj.mk (Value.type "code") none (Data.fields #[Value.str (Str.ofString "_law_asked") 1133, Value.str (Str.ofString "_law_asked") 1134, Value.str (Str.ofString "/claim/cut.py") 1135, Value.int 374 0, Value.int 4 0, Value.int 0 0, Value.int 0 0, Value.int 3 0, Value.ref 666, Value.bool true, Value.int 181 0, Value.ref 667, Value.none, Value.none, Value.none, Value.ref 668, Value.int 1136 0, Value.int 374 0, Value.str (Str.ofString "/claim/cut.py") 1137]) #[]) ::
(nat_lit 670, Obj.mk (Value.type "function") none (Data.func (FuncData.mk (Str.ofString "_law_asked") (Str.ofString "_law_asked") (defArgs (topS 79)) (.stmts (defBody (topS 79))) (defScope (topS 79)) 3 [] Value.none Value.none Value.none (Value.str (Str.ofString "law_sillwatch_k13_refused_requests") 1013) none (Value.ref 669) Value.none 0)) #[]) ::
(nat_lit 671, Obj.mk (Value.type "tuple") none (Data.seq #[]) #[]) ::
(nat_lit 673, Obj.mk (Value.type "tuple") none (Data.seq #[Value.str (Str.ofString "script") 1142, Value.str (Str.ofString "objects") 1143, Value.str (Str.ofString "k") 1144]) #[]) ::
(nat_lit 674, Obj.mk (Value.type "tuple") none (Data.seq #[]) #[]) ::
(nat_lit 676, Obj.mk (Value.type "code") none (Data.fields #[Value.str (Str.ofString "law") 1139, Value.str (Str.ofString "law") 1140, Value.str (Str.ofString "/claim/cut.py") 1141, Value.int 400 0, Value.int 1 0, Value.int 0 0, Value.int 0 0, Value.int 3 0, Value.ref 671, Value.bool true, Value.int 181 0, Value.ref 672, Value.none, Value.ref 673, Value.ref 674, Value.ref 675, Value.int 1145 0, Value.int 400 0, Value.str (Str.ofString "/claim/cut.py") 1146]) #[]) ::
(nat_lit 677, Obj.mk (Value.type "function") none (Data.func (FuncData.mk (Str.ofString "law") (Str.ofString "law") (defArgs (topS 80)) (.stmts (defBody (topS 80))) (defScope (topS 80)) 3 [] Value.none Value.none Value.none (Value.str (Str.ofString "law_sillwatch_k13_refused_requests") 1013) none (Value.ref 676) Value.none 0)) #[]) :: []
def KA : List Addr := [2, 3, 15, 22, 23, 24, 25, 28, 35, 36, 37, 40, 47, 48, 49, 52, 59, 60, 61, 64, 71, 72, 73, 76, 83, 84, 85, 88, 95, 96, 97, 100, 107, 108, 109, 112, 115, 120, 121, 123, 124, 126, 127, 128, 129, 130, 140, 142, 143, 145, 146, 147, 149, 150, 152, 153, 154, 156, 157, 159, 160, 161, 163, 164, 166, 167, 168, 170, 171, 173, 174, 175, 177, 178, 180, 181, 182, 184, 185, 187, 188, 189, 191, 192, 194, 195, 196, 197, 198, 199, 200, 203, 205, 206, 208, 209, 210, 213, 214, 215, 218, 219, 220, 223, 224, 225, 227, 228, 230, 231, 232, 234, 235, 237, 238, 239, 241, 242, 244, 245, 246, 248, 249, 251, 252, 253, 256, 257, 258, 260, 261, 263, 264, 265, 268, 269, 270, 272, 273, 275, 276, 277, 279, 280, 282, 283, 284, 286, 287, 289, 290, 291, 293, 294, 296, 297, 298, 301, 302, 303, 305, 306, 308, 309, 310, 312, 313, 315, 316, 317, 319, 320, 322, 323, 324, 326, 327, 329, 330, 331, 332, 333, 334, 335, 336, 337, 338, 339, 340, 341, 342, 343, 344, 345, 346, 347, 348, 349, 350, 351, 352, 353, 354, 355, 356, 357, 358, 359, 360, 361, 362, 363, 364, 365, 366, 367, 368, 369, 370, 371, 372, 373, 374, 375, 376, 377, 378, 379, 380, 381, 382, 383, 384, 385, 386, 387, 388, 389, 390, 391, 392, 393, 394, 395, 396, 397, 398, 399, 400, 401, 402, 403, 404, 405, 406, 407, 408, 409, 410, 411, 412, 413, 414, 415, 416, 417, 418, 419, 420, 421, 422, 423, 424, 425, 426, 427, 428, 429, 430, 431, 432, 433, 434, 435, 436, 437, 438, 439, 440, 441, 442, 443, 444, 445, 446, 447, 448, 449, 450, 452, 453, 454, 455, 456, 457, 458, 459, 460, 461, 462, 463, 464, 465, 466, 467, 468, 469, 470, 471, 472, 473, 474, 475, 476, 477, 478, 479, 480, 481, 482, 483, 484, 485, 486, 487, 488, 489, 490, 491, 492, 493, 494, 496, 497, 499, 500, 501, 503, 504, 506, 507, 508, 510, 511, 513, 514, 515, 518, 519, 527, 529, 530, 532, 533, 534, 535, 536, 537, 538, 541, 543, 544, 546, 547, 548, 550, 551, 553, 554, 555, 557, 558, 560, 561, 562, 565, 566, 567, 569, 570, 572, 573, 574, 576, 577, 579, 580, 581, 583, 584, 586, 587, 588, 590, 591, 593, 594, 595, 597, 598, 600, 601, 602, 604, 605, 607, 608, 609, 611, 612, 614, 615, 616, 619, 620, 621, 624, 625, 626, 629, 630, 631, 633, 634, 636, 637, 638, 640, 641, 643, 644, 645, 647, 648, 650, 651, 652, 654, 655, 657, 658, 659, 661, 662, 664, 665, 666, 669, 670, 671, 673, 674, 676, 677]
abbrev RR : PySem.W.OpenRow := PySem.W.OpenLaw.row PySem.Challenge.rw_sillwatch_k13_refused_requests
def qv : Program := PySem.W.view RR.prog [80]
def looseN : List Str := ([Str.ofString "DisplayError", Str.ofString "BadMessage", Str.ofString "MessageTooLong", Str.ofString "BadArguments", Str.ofString "BadLength", Str.ofString "BadText", Str.ofString "BadPadding", Str.ofString "ObjectMissing", Str.ofString "Fault", Str.ofString "DISPLAY", Str.ofString "LEAST_GIVEN", Str.ofString "GREATEST_GIVEN", Str.ofString "MOST_OBJECTS", Str.ofString "Objects", Str.ofString "GREATEST_NUMBER", Str.ofString "LEAST_INT", Str.ofString "GREATEST_INT", Str.ofString "LONGEST_TEXT", Str.ofString "MOST_OCTETS", Str.ofString "_FIRST_CODE", Str.ofString "_LAST_CODE", Str.ofString "_PERCENT_CODE", Str.ofString "_CHARACTERS", Str.ofString "is_integer", Str.ofString "is_text", Str.ofString "number_octets", Str.ofString "number_at", Str.ofString "field_octets", Str.ofString "read_arguments", Str.ofString "_is_code", Str.ofString "_is_of", Str.ofString "_are_octets", Str.ofString "_is_bound", Str.ofString "_text_octets", Str.ofString "_padded", Str.ofString "_read", Str.ofString "_read_number", Str.ofString "_read_named", Str.ofString "_read_text", Str.ofString "_read_octets"] : List Str) ++ ([Str.ofString "_demand", Str.ofString "_behind_padding", Str.ofString "HEADER_SIZE", Str.ofString "GREATEST_SIZE", Str.ofString "GREATEST_OPCODE", Str.ofString "MOST_ARGUMENTS", Str.ofString "encode_message", Str.ofString "_REQUESTS", Str.ofString "request_row", Str.ofString "request_opcode", Str.ofString "_row_at", Str.ofString "_opcode_of", Str.ofString "Request", Str.ofString "look_at", Str.ofString "new_object", Str.ofString "_kind_and_interface", Str.ofString "_arguments", Str.ofString "_check_named", Str.ofString "_check_new", Str.ofString "_law_cell", Str.ofString "_law_row", Str.ofString "_law_rows", Str.ofString "_law_list", Str.ofString "_law_split", Str.ofString "_law_table", Str.ofString "_law_world", Str.ofString "_law_pick", Str.ofString "_law_free", Str.ofString "_law_argument", Str.ofString "_law_bad", Str.ofString "_law_due", Str.ofString "_law_told", Str.ofString "_law_asked"] : List Str)
theorem kae : ∀ P : Params, KA = (KF P).map (·.1) := fun _ => by kernel_rfl
def hkK : PySem.W.Hook := PySem.W.kHook KF KA kae
def obK (s : PySem.W.SharedT) : List (Option Obj) := KA.map (HandSHeadRun.getT s)
theorem obK_eq (s : PySem.W.SharedT) : obK s = hkK.obs s.abs := List.map_congr_left fun a _ => HandSHeadRun.getT_eq s a
theorem map3 {α β γ δ : Type} {o : Option α} {a : α → β} {b : α → γ} {c : α → δ} {x : β} {y : γ} {z : δ} (h1 : o.map (fun s => (a s, c s)) = some (x, z)) (h2 : o.map b = some y) : o.map (fun s => (a s, b s, c s)) = some (x, y, z) := by
  cases o with
  | none => cases h1
  | some s => cases h1; cases h2; rfl
abbrev LkP (w : World) : Prop := ∀ os : OsState, (HandSHeadRun.endF (HandSHeadRun.stepQ (HandSHeadRun.denQ HandSHeadRun.tabQ) RR.prog w) 11106 RR.prog w os).map (fun s => (HandSHeadRun.looksF RR.prog (PySem.W.boot_heap w.params) s.abs, obK s)) = some ((true, hkK.val w))
set_option maxHeartbeats 0 in
theorem falseLk (w : World) : LkP (w.withFollow "special-get-raises" false) := by intro os; kernel_rfl
set_option maxHeartbeats 0 in
theorem trueLk (w : World) : LkP (w.withFollow "special-get-raises" true) := by intro os; kernel_rfl
theorem allLk (w : World) : LkP w := PySem.W.byRow2 "special-get-raises" falseLk trueLk w
abbrev SaP (w : World) : Prop := ∀ os : OsState, (HandSHeadRun.endF (HandSHeadRun.stepQ (HandSHeadRun.denQ HandSHeadRun.tabQ) RR.prog w) 11106 RR.prog w os).map (fun s => HandSHeadRun.seenQ qv looseN (importedModules RR.prog.main.body) (fun s => PySem.W.xlAt qv [] s && PySem.W.recOk RR.toRowW.records s) s.abs) = some (PySem.W.openGood qv looseN)
set_option maxHeartbeats 0 in
theorem falseSa (w : World) : SaP (w.withFollow "special-get-raises" false) := by intro os; kernel_rfl
set_option maxHeartbeats 0 in
theorem trueSa (w : World) : SaP (w.withFollow "special-get-raises" true) := by intro os; kernel_rfl
theorem allSa (w : World) : SaP w := PySem.W.byRow2 "special-get-raises" falseSa trueSa w
theorem runK (w : World) : HandSHeadRun.RunEq RR qv hkK obK 11106 looseN w := fun os => map3 (allLk w os) (allSa w os)
end My
open PySem PySem.W PyProof.Rows
set_option maxRecDepth 100000 in
set_option maxHeartbeats 0 in
theorem PySem.Challenge.cw_sillwatch_k13_refused_requests_holds : PySem.Challenge.rw_sillwatch_k13_refused_requests.Holds := by
  w_on; o_law
  refine HandSHeadRun.head_any (r := PySem.W.OpenLaw.row PySem.Challenge.rw_sillwatch_k13_refused_requests) (q := My.qv) (H := PySem.W.kHook My.KF My.KA My.kae) (ob := My.obK) (M := _) (loose := My.looseN) (kwd := []) My.obK_eq (by kernel_rfl) (fun s => by kernel_rfl) My.runK (by rfl) (by rfl) (by rfl) (by rfl) (by first | assumption | decide +kernel) (by decide +kernel) ⟨rfl, rfl, rfl, rfl, rfl, by decide +kernel⟩ ?hw ?hc
  (case hw => w_witness2)
  k_fill
  refine My.walk (l := PySem.Challenge.rw_sillwatch_k13_refused_requests) rfl rfl (fun w h Y => PySem.W.kIn_of Y) ?F
  case F =>
    intro w mg fa h KX G hmg
    refine' My.all_mk (P := PySem.Challenge.rw_sillwatch_k13_refused_requests.prog) ⟨by first | rfl | decide +kernel, by first | rfl | decide +kernel⟩ KX G hmg ?a1 ?l1 ?c1 ?k1 ?a2 ?l2 ?c2 ?k2 ?a3 ?l3 ?c3 ?k3 ?a4 ?l4 ?c4 ?k4 ?a5 ?l5 ?c5 ?k5 ?a6 ?l6 ?c6 ?k6 ?a7 ?l7 ?c7 ?k7 ?a8 ?l8 ?c8 ?k8 ?a9 ?l9 ?c9 ?k9 ?a10 ?l10 ?c10 ?k10 ?a11 ?l11 ?c11 ?k11 ?a12 ?l12 ?c12 ?k12 ?a13 ?l13 ?c13 ?k13 ?a14 ?l14 ?c14 ?k14 ?a15 ?l15 ?c15 ?k15 ?a16 ?l16 ?c16 ?k16 ?a17 ?l17 ?c17 ?k17 ?a18 ?l18 ?c18 ?k18 ?a19 ?l19 ?c19 ?k19 ?a20 ?l20 ?c20 ?k20 ?a21 ?l21 ?c21 ?k21 ?a22 ?l22 ?c22 ?k22 ?a23 ?l23 ?c23 ?k23 ?a24 ?l24 ?c24 ?k24 ?a25 ?l25 ?c25 ?k25 ?a26 ?l26 ?c26 ?k26 ?a27 ?l27 ?c27 ?k27 ?a28 ?l28 ?c28 ?k28 ?a29 ?l29 ?c29 ?k29 ?a30 ?l30 ?c30 ?k30 ?a31 ?l31 ?c31 ?k31 ?a32 ?l32 ?c32 ?k32 ?a33 ?l33 ?c33 ?k33 ?a34 ?l34 ?c34 ?k34 ?a35 ?l35 ?c35 ?k35 ?a36 ?l36 ?c36 ?k36 ?a37 ?l37 ?c37 ?k37 ?a38 ?l38 ?c38 ?k38 ?a39 ?l39 ?c39 ?k39 ?a40 ?l40 ?c40 ?k40 ?a41 ?l41 ?c41 ?k41 ?a42 ?l42 ?c42 ?k42 ?a43 ?l43 ?c43 ?k43 ?a44 ?l44 ?c44 ?k44 ?a45 ?l45 ?c45 ?k45 ?a46 ?i46 ?l46 ?c46 ?k46 ?lc46 ?ld46 ?rv46 ?lD46 ?ty46 ?a47 ?i47 ?l47 ?c47 ?k47 ?a48 ?i48 ?l48 ?c48 ?k48 ?a49 ?i49 ?l49 ?c49 ?k49 ?a50 ?i50 ?l50 ?c50 ?k50 ?a51 ?i51 ?l51 ?c51 ?k51 ?a52 ?i52 ?l52 ?c52 ?k52 ?a53 ?i53 ?l53 ?c53 ?k53 ?a54 ?i54 ?l54 ?c54 ?k54 ?z_all ?z_any ?z_bool ?z_int ?z_isinstance ?z_len ?z_list ?z_min ?z_ord ?z_range ?z_str ?z_sum ?z_super ?z_tuple ?z_zip ?q_DISPLAY ?q_LEAST_GIVEN ?q_GREATEST_GIVEN ?q_MOST_OBJECTS ?q_GREATEST_NUMBER ?q_LEAST_INT ?q_GREATEST_INT ?q_LONGEST_TEXT ?q_MOST_OCTETS ?q__FIRST_CODE ?q__LAST_CODE ?q__PERCENT_CODE ?q__CHARACTERS ?q_HEADER_SIZE ?q_GREATEST_SIZE ?q_GREATEST_OPCODE ?q_MOST_ARGUMENTS ?q__REQUESTS ?dl_REQUESTS ?dk_REQUESTS ?dv_REQUESTS ?dy_REQUESTS ?de_REQUESTS_k0 ?de_REQUESTS_k1 ?de_REQUESTS_k2 ?de_REQUESTS_k3 ?de_REQUESTS_k4 ?de_REQUESTS_k5 ?de_REQUESTS_k6 ?de_REQUESTS_k7 ?de_REQUESTS_k8 ?de_REQUESTS_k9 ?de_REQUESTS_k10 ?de_REQUESTS_k11 ?de_REQUESTS_k12 ?de_REQUESTS_k13 ?de_REQUESTS_k14 ?de_REQUESTS_k15 ?de_REQUESTS_k16 ?de_REQUESTS_k17 ?de_REQUESTS_k18 ?de_REQUESTS_k19 ?de_REQUESTS_k20 ?de_REQUESTS_k21 ?de_REQUESTS_k22 ?w_REQUESTS_k0 ?w_REQUESTS_k0_0 ?w_REQUESTS_k0_0_1 ?w_REQUESTS_k0_1 ?w_REQUESTS_k0_1_1 ?w_REQUESTS_k1 ?w_REQUESTS_k2 ?w_REQUESTS_k2_0 ?w_REQUESTS_k2_0_1 ?w_REQUESTS_k3 ?w_REQUESTS_k3_0 ?w_REQUESTS_k3_0_1 ?w_REQUESTS_k3_1 ?w_REQUESTS_k3_1_1 ?w_REQUESTS_k4 ?w_REQUESTS_k4_0 ?w_REQUESTS_k4_0_1 ?w_REQUESTS_k4_1 ?w_REQUESTS_k4_1_1 ?w_REQUESTS_k4_2 ?w_REQUESTS_k4_2_1 ?w_REQUESTS_k5 ?w_REQUESTS_k5_0 ?w_REQUESTS_k5_0_1 ?w_REQUESTS_k5_1 ?w_REQUESTS_k5_1_1 ?w_REQUESTS_k5_2 ?w_REQUESTS_k5_2_1 ?w_REQUESTS_k6 ?w_REQUESTS_k6_0 ?w_REQUESTS_k6_0_1 ?w_REQUESTS_k6_1 ?w_REQUESTS_k6_1_1 ?w_REQUESTS_k6_2 ?w_REQUESTS_k6_2_1 ?w_REQUESTS_k7 ?w_REQUESTS_k7_0 ?w_REQUESTS_k7_0_1 ?w_REQUESTS_k7_1 ?w_REQUESTS_k7_1_1 ?w_REQUESTS_k7_2 ?w_REQUESTS_k7_2_1 ?w_REQUESTS_k7_3 ?w_REQUESTS_k7_3_1 ?w_REQUESTS_k7_4 ?w_REQUESTS_k7_4_1 ?w_REQUESTS_k7_5 ?w_REQUESTS_k7_5_1 ?w_REQUESTS_k7_6 ?w_REQUESTS_k7_6_1 ?w_REQUESTS_k8 ?w_REQUESTS_k8_0 ?w_REQUESTS_k8_0_1 ?w_REQUESTS_k8_1 ?w_REQUESTS_k8_1_1 ?w_REQUESTS_k9 ?w_REQUESTS_k9_0 ?w_REQUESTS_k9_0_1 ?w_REQUESTS_k9_1 ?w_REQUESTS_k9_1_1 ?w_REQUESTS_k9_2 ?w_REQUESTS_k9_2_1 ?w_REQUESTS_k9_3 ?w_REQUESTS_k9_3_1 ?w_REQUESTS_k9_4 ?w_REQUESTS_k9_4_1 ?w_REQUESTS_k9_5 ?w_REQUESTS_k9_5_1 ?w_REQUESTS_k10 ?w_REQUESTS_k10_0 ?w_REQUESTS_k10_0_1 ?w_REQUESTS_k11 ?w_REQUESTS_k11_0 ?w_REQUESTS_k11_0_1 ?w_REQUESTS_k11_1 ?w_REQUESTS_k11_1_1 ?w_REQUESTS_k12 ?w_REQUESTS_k12_0 ?w_REQUESTS_k12_0_1 ?w_REQUESTS_k12_1 ?w_REQUESTS_k12_1_1 ?w_REQUESTS_k12_2 ?w_REQUESTS_k12_2_1 ?w_REQUESTS_k12_3 ?w_REQUESTS_k12_3_1 ?w_REQUESTS_k12_4 ?w_REQUESTS_k12_4_1 ?w_REQUESTS_k12_5 ?w_REQUESTS_k12_5_1 ?w_REQUESTS_k12_6 ?w_REQUESTS_k12_6_1 ?w_REQUESTS_k12_7 ?w_REQUESTS_k12_7_1 ?w_REQUESTS_k12_8 ?w_REQUESTS_k12_8_1 ?w_REQUESTS_k12_9 ?w_REQUESTS_k12_9_1 ?w_REQUESTS_k12_10 ?w_REQUESTS_k12_10_1 ?w_REQUESTS_k12_11 ?w_REQUESTS_k12_11_1 ?w_REQUESTS_k13 ?w_REQUESTS_k13_0 ?w_REQUESTS_k13_0_1 ?w_REQUESTS_k13_1 ?w_REQUESTS_k13_1_1 ?w_REQUESTS_k14 ?w_REQUESTS_k14_0 ?w_REQUESTS_k14_0_1 ?w_REQUESTS_k14_1 ?w_REQUESTS_k14_1_1 ?w_REQUESTS_k15 ?w_REQUESTS_k15_0 ?w_REQUESTS_k15_0_1 ?w_REQUESTS_k15_1 ?w_REQUESTS_k15_1_1 ?w_REQUESTS_k16 ?w_REQUESTS_k16_0 ?w_REQUESTS_k16_0_1 ?w_REQUESTS_k17 ?w_REQUESTS_k17_0 ?w_REQUESTS_k17_0_1 ?w_REQUESTS_k17_1 ?w_REQUESTS_k17_1_1 ?w_REQUESTS_k17_2 ?w_REQUESTS_k17_2_1 ?w_REQUESTS_k17_3 ?w_REQUESTS_k17_3_1 ?w_REQUESTS_k17_4 ?w_REQUESTS_k17_4_1 ?w_REQUESTS_k17_5 ?w_REQUESTS_k17_5_1 ?w_REQUESTS_k17_6 ?w_REQUESTS_k17_6_1 ?w_REQUESTS_k17_7 ?w_REQUESTS_k17_7_1 ?w_REQUESTS_k17_8 ?w_REQUESTS_k17_8_1 ?w_REQUESTS_k18 ?w_REQUESTS_k18_0 ?w_REQUESTS_k18_0_1 ?w_REQUESTS_k18_1 ?w_REQUESTS_k18_1_1 ?w_REQUESTS_k19 ?w_REQUESTS_k19_0 ?w_REQUESTS_k19_0_1 ?w_REQUESTS_k19_1 ?w_REQUESTS_k19_1_1 ?w_REQUESTS_k20 ?w_REQUESTS_k20_0 ?w_REQUESTS_k20_0_1 ?w_REQUESTS_k20_1 ?w_REQUESTS_k20_1_1 ?w_REQUESTS_k21 ?w_REQUESTS_k21_0 ?w_REQUESTS_k21_0_1 ?w_REQUESTS_k21_1 ?w_REQUESTS_k21_1_1 ?w_REQUESTS_k22 ?w_REQUESTS_k22_0 ?w_REQUESTS_k22_0_1 ?uObjects ?pgObjects ?hdObjects ?poObjects ?saObjects ?mkObjects ?kcObjects ?nObjects__interfaces ?nObjects__next_made ?uRequest ?pgRequest ?hdRequest ?poRequest ?saRequest ?mkRequest ?kcRequest ?nRequest_number ?nRequest_interface ?nRequest_name ?nRequest_arguments ?nRequest_ends ?uBadMessage ?xBadMessage ?keBadMessage ?bxBadMessage ?txBadMessage ?ixBadMessage ?sxBadMessage ?uMessageTooLong ?xMessageTooLong ?keMessageTooLong ?bxMessageTooLong ?txMessageTooLong ?ixMessageTooLong ?sxMessageTooLong ?uBadLength ?xBadLength ?keBadLength ?bxBadLength ?txBadLength ?ixBadLength ?sxBadLength ?uBadText ?xBadText ?keBadText ?bxBadText ?txBadText ?ixBadText ?sxBadText ?uBadPadding ?xBadPadding ?keBadPadding ?bxBadPadding ?txBadPadding ?ixBadPadding ?sxBadPadding ?uObjectMissing ?xObjectMissing ?keObjectMissing ?bxObjectMissing ?txObjectMissing ?ixObjectMissing ?sxObjectMissing ?uFault ?loFault ?rmFault ?keFault ?bxFault ?txFault ?ixFault ?sxFault ?saFault ?mrFault ?ksFault ?veFault ?tpFault ?gaFault ?gtFault ?hxFault ?fcFault ?moFault ?sgFault ?tkFault ?nFault_number ?nFault_code ?nFault_words ?subBadMessage_MessageTooLong ?subBadMessage_BadLength ?subBadMessage_BadText ?subBadMessage_BadPadding ?subBadMessage_ObjectMissing ?subBadMessage_Fault ?subMessageTooLong_BadMessage ?subMessageTooLong_BadLength ?subMessageTooLong_BadText ?subMessageTooLong_BadPadding ?subMessageTooLong_ObjectMissing ?subMessageTooLong_Fault ?subBadLength_BadMessage ?subBadLength_MessageTooLong ?subBadLength_BadText ?subBadLength_BadPadding ?subBadLength_ObjectMissing ?subBadLength_Fault ?subBadText_BadMessage ?subBadText_MessageTooLong ?subBadText_BadLength ?subBadText_BadPadding ?subBadText_ObjectMissing ?subBadText_Fault ?subBadPadding_BadMessage ?subBadPadding_MessageTooLong ?subBadPadding_BadLength ?subBadPadding_BadText ?subBadPadding_ObjectMissing ?subBadPadding_Fault ?subObjectMissing_BadMessage ?subObjectMissing_MessageTooLong ?subObjectMissing_BadLength ?subObjectMissing_BadText ?subObjectMissing_BadPadding ?subObjectMissing_Fault ?subFault_BadMessage ?subFault_MessageTooLong ?subFault_BadLength ?subFault_BadText ?subFault_BadPadding ?subFault_ObjectMissing
    (case uObjects => k_is)
    (case uRequest => k_is)
    (case uBadMessage => k_is)
    (case uMessageTooLong => k_is)
    (case uBadLength => k_is)
    (case uBadText => k_is)
    (case uBadPadding => k_is)
    (case uObjectMissing => k_is)
    (case uFault => k_is)
    (case a1 => k_is)
    (case l1 => k_is)
    (case c1 => k_is)
    (case k1 => k_is)
    (case a2 => k_is)
    (case l2 => k_is)
    (case c2 => k_is)
    (case k2 => k_is)
    (case a3 => k_is)
    (case l3 => k_is)
    (case c3 => k_is)
    (case k3 => k_is)
    (case a4 => k_is)
    (case l4 => k_is)
    (case c4 => k_is)
    (case k4 => k_is)
    (case a5 => k_is)
    (case l5 => k_is)
    (case c5 => k_is)
    (case k5 => k_is)
    (case a6 => k_is)
    (case l6 => k_is)
    (case c6 => k_is)
    (case k6 => k_is)
    (case a7 => k_is)
    (case l7 => k_is)
    (case c7 => k_is)
    (case k7 => k_is)
    (case a8 => k_is)
    (case l8 => k_is)
    (case c8 => k_is)
    (case k8 => k_is)
    (case a9 => k_is)
    (case l9 => k_is)
    (case c9 => k_is)
    (case k9 => k_is)
    (case a10 => k_is)
    (case l10 => k_is)
    (case c10 => k_is)
    (case k10 => k_is)
    (case a11 => k_is)
    (case l11 => k_is)
    (case c11 => k_is)
    (case k11 => k_is)
    (case a12 => k_is)
    (case l12 => k_is)
    (case c12 => k_is)
    (case k12 => k_is)
    (case a13 => k_is)
    (case l13 => k_is)
    (case c13 => k_is)
    (case k13 => k_is)
    (case a14 => k_is)
    (case l14 => k_is)
    (case c14 => k_is)
    (case k14 => k_is)
    (case a15 => k_is)
    (case l15 => k_is)
    (case c15 => k_is)
    (case k15 => k_is)
    (case a16 => k_is)
    (case l16 => k_is)
    (case c16 => k_is)
    (case k16 => k_is)
    (case a17 => k_is)
    (case l17 => k_is)
    (case c17 => k_is)
    (case k17 => k_is)
    (case a18 => k_is)
    (case l18 => k_is)
    (case c18 => k_is)
    (case k18 => k_is)
    (case a19 => k_is)
    (case l19 => k_is)
    (case c19 => k_is)
    (case k19 => k_is)
    (case a20 => k_is)
    (case l20 => k_is)
    (case c20 => k_is)
    (case k20 => k_is)
    (case a21 => k_is)
    (case l21 => k_is)
    (case c21 => k_is)
    (case k21 => k_is)
    (case a22 => k_is)
    (case l22 => k_is)
    (case c22 => k_is)
    (case k22 => k_is)
    (case a23 => k_is)
    (case l23 => k_is)
    (case c23 => k_is)
    (case k23 => k_is)
    (case a24 => k_is)
    (case l24 => k_is)
    (case c24 => k_is)
    (case k24 => k_is)
    (case a25 => k_is)
    (case l25 => k_is)
    (case c25 => k_is)
    (case k25 => k_is)
    (case a26 => k_is)
    (case l26 => k_is)
    (case c26 => k_is)
    (case k26 => k_is)
    (case a27 => k_is)
    (case l27 => k_is)
    (case c27 => k_is)
    (case k27 => k_is)
    (case a28 => k_is)
    (case l28 => k_is)
    (case c28 => k_is)
    (case k28 => k_is)
    (case a29 => k_is)
    (case l29 => k_is)
    (case c29 => k_is)
    (case k29 => k_is)
    (case a30 => k_is)
    (case l30 => k_is)
    (case c30 => k_is)
    (case k30 => k_is)
    (case a31 => k_is)
    (case l31 => k_is)
    (case c31 => k_is)
    (case k31 => k_is)
    (case a32 => k_is)
    (case l32 => k_is)
    (case c32 => k_is)
    (case k32 => k_is)
    (case a33 => k_is)
    (case l33 => k_is)
    (case c33 => k_is)
    (case k33 => k_is)
    (case a34 => k_is)
    (case l34 => k_is)
    (case c34 => k_is)
    (case k34 => k_is)
    (case a35 => k_is)
    (case l35 => k_is)
    (case c35 => k_is)
    (case k35 => k_is)
    (case a36 => k_is)
    (case l36 => k_is)
    (case c36 => k_is)
    (case k36 => k_is)
    (case a37 => k_is)
    (case l37 => k_is)
    (case c37 => k_is)
    (case k37 => k_is)
    (case a38 => k_is)
    (case l38 => k_is)
    (case c38 => k_is)
    (case k38 => k_is)
    (case a39 => k_is)
    (case l39 => k_is)
    (case c39 => k_is)
    (case k39 => k_is)
    (case a40 => k_is)
    (case l40 => k_is)
    (case c40 => k_is)
    (case k40 => k_is)
    (case a41 => k_is)
    (case l41 => k_is)
    (case c41 => k_is)
    (case k41 => k_is)
    (case a42 => k_is)
    (case l42 => k_is)
    (case c42 => k_is)
    (case k42 => k_is)
    (case a43 => k_is)
    (case l43 => k_is)
    (case c43 => k_is)
    (case k43 => k_is)
    (case a44 => k_is)
    (case l44 => k_is)
    (case c44 => k_is)
    (case k44 => k_is)
    (case a45 => k_is)
    (case l45 => k_is)
    (case c45 => k_is)
    (case k45 => k_is)
    (case a46 => k_is)
    (case i46 => k_is)
    (case l46 => k_is)
    (case c46 => k_is)
    (case k46 => k_is)
    (case lc46 => k_is)
    (case ld46 => k_is)
    (case rv46 => first | rfl | decide +kernel)
    (case lD46 => k_is)
    (case ty46 => k_is)
    (case a47 => k_is)
    (case i47 => k_is)
    (case l47 => k_is)
    (case c47 => k_is)
    (case k47 => k_is)
    (case a48 => k_is)
    (case i48 => k_is)
    (case l48 => k_is)
    (case c48 => k_is)
    (case k48 => k_is)
    (case a49 => k_is)
    (case i49 => k_is)
    (case l49 => k_is)
    (case c49 => k_is)
    (case k49 => k_is)
    (case a50 => k_is)
    (case i50 => k_is)
    (case l50 => k_is)
    (case c50 => k_is)
    (case k50 => k_is)
    (case a51 => k_is)
    (case i51 => k_is)
    (case l51 => k_is)
    (case c51 => k_is)
    (case k51 => k_is)
    (case a52 => k_is)
    (case i52 => k_is)
    (case l52 => k_is)
    (case c52 => k_is)
    (case k52 => k_is)
    (case a53 => k_is)
    (case i53 => k_is)
    (case l53 => k_is)
    (case c53 => k_is)
    (case k53 => k_is)
    (case a54 => k_is)
    (case i54 => k_is)
    (case l54 => k_is)
    (case c54 => k_is)
    (case k54 => k_is)
    (case z_all => k_is)
    (case z_any => k_is)
    (case z_bool => k_is)
    (case z_int => k_is)
    (case z_isinstance => k_is)
    (case z_len => k_is)
    (case z_list => k_is)
    (case z_min => k_is)
    (case z_ord => k_is)
    (case z_range => k_is)
    (case z_str => k_is)
    (case z_sum => k_is)
    (case z_super => k_is)
    (case z_tuple => k_is)
    (case z_zip => k_is)
    (case q_DISPLAY => k_is)
    (case q_LEAST_GIVEN => k_is)
    (case q_GREATEST_GIVEN => k_is)
    (case q_MOST_OBJECTS => k_is)
    (case q_GREATEST_NUMBER => k_is)
    (case q_LEAST_INT => k_is)
    (case q_GREATEST_INT => k_is)
    (case q_LONGEST_TEXT => k_is)
    (case q_MOST_OCTETS => k_is)
    (case q__FIRST_CODE => k_is)
    (case q__LAST_CODE => k_is)
    (case q__PERCENT_CODE => k_is)
    (case q__CHARACTERS => k_is)
    (case q_HEADER_SIZE => k_is)
    (case q_GREATEST_SIZE => k_is)
    (case q_GREATEST_OPCODE => k_is)
    (case q_MOST_ARGUMENTS => k_is)
    (case q__REQUESTS => k_is)
    (case dl_REQUESTS => k_is)
    (case dk_REQUESTS => k_keys)
    (case dv_REQUESTS => first | rfl | decide +kernel)
    (case dy_REQUESTS => first | rfl | decide +kernel)
    (case de_REQUESTS_k0 => k_is)
    (case de_REQUESTS_k1 => k_is)
    (case de_REQUESTS_k2 => k_is)
    (case de_REQUESTS_k3 => k_is)
    (case de_REQUESTS_k4 => k_is)
    (case de_REQUESTS_k5 => k_is)
    (case de_REQUESTS_k6 => k_is)
    (case de_REQUESTS_k7 => k_is)
    (case de_REQUESTS_k8 => k_is)
    (case de_REQUESTS_k9 => k_is)
    (case de_REQUESTS_k10 => k_is)
    (case de_REQUESTS_k11 => k_is)
    (case de_REQUESTS_k12 => k_is)
    (case de_REQUESTS_k13 => k_is)
    (case de_REQUESTS_k14 => k_is)
    (case de_REQUESTS_k15 => k_is)
    (case de_REQUESTS_k16 => k_is)
    (case de_REQUESTS_k17 => k_is)
    (case de_REQUESTS_k18 => k_is)
    (case de_REQUESTS_k19 => k_is)
    (case de_REQUESTS_k20 => k_is)
    (case de_REQUESTS_k21 => k_is)
    (case de_REQUESTS_k22 => k_is)
    (case w_REQUESTS_k0 => k_is)
    (case w_REQUESTS_k0_0 => k_is)
    (case w_REQUESTS_k0_0_1 => k_is)
    (case w_REQUESTS_k0_1 => k_is)
    (case w_REQUESTS_k0_1_1 => k_is)
    (case w_REQUESTS_k1 => k_is)
    (case w_REQUESTS_k2 => k_is)
    (case w_REQUESTS_k2_0 => k_is)
    (case w_REQUESTS_k2_0_1 => k_is)
    (case w_REQUESTS_k3 => k_is)
    (case w_REQUESTS_k3_0 => k_is)
    (case w_REQUESTS_k3_0_1 => k_is)
    (case w_REQUESTS_k3_1 => k_is)
    (case w_REQUESTS_k3_1_1 => k_is)
    (case w_REQUESTS_k4 => k_is)
    (case w_REQUESTS_k4_0 => k_is)
    (case w_REQUESTS_k4_0_1 => k_is)
    (case w_REQUESTS_k4_1 => k_is)
    (case w_REQUESTS_k4_1_1 => k_is)
    (case w_REQUESTS_k4_2 => k_is)
    (case w_REQUESTS_k4_2_1 => k_is)
    (case w_REQUESTS_k5 => k_is)
    (case w_REQUESTS_k5_0 => k_is)
    (case w_REQUESTS_k5_0_1 => k_is)
    (case w_REQUESTS_k5_1 => k_is)
    (case w_REQUESTS_k5_1_1 => k_is)
    (case w_REQUESTS_k5_2 => k_is)
    (case w_REQUESTS_k5_2_1 => k_is)
    (case w_REQUESTS_k6 => k_is)
    (case w_REQUESTS_k6_0 => k_is)
    (case w_REQUESTS_k6_0_1 => k_is)
    (case w_REQUESTS_k6_1 => k_is)
    (case w_REQUESTS_k6_1_1 => k_is)
    (case w_REQUESTS_k6_2 => k_is)
    (case w_REQUESTS_k6_2_1 => k_is)
    (case w_REQUESTS_k7 => k_is)
    (case w_REQUESTS_k7_0 => k_is)
    (case w_REQUESTS_k7_0_1 => k_is)
    (case w_REQUESTS_k7_1 => k_is)
    (case w_REQUESTS_k7_1_1 => k_is)
    (case w_REQUESTS_k7_2 => k_is)
    (case w_REQUESTS_k7_2_1 => k_is)
    (case w_REQUESTS_k7_3 => k_is)
    (case w_REQUESTS_k7_3_1 => k_is)
    (case w_REQUESTS_k7_4 => k_is)
    (case w_REQUESTS_k7_4_1 => k_is)
    (case w_REQUESTS_k7_5 => k_is)
    (case w_REQUESTS_k7_5_1 => k_is)
    (case w_REQUESTS_k7_6 => k_is)
    (case w_REQUESTS_k7_6_1 => k_is)
    (case w_REQUESTS_k8 => k_is)
    (case w_REQUESTS_k8_0 => k_is)
    (case w_REQUESTS_k8_0_1 => k_is)
    (case w_REQUESTS_k8_1 => k_is)
    (case w_REQUESTS_k8_1_1 => k_is)
    (case w_REQUESTS_k9 => k_is)
    (case w_REQUESTS_k9_0 => k_is)
    (case w_REQUESTS_k9_0_1 => k_is)
    (case w_REQUESTS_k9_1 => k_is)
    (case w_REQUESTS_k9_1_1 => k_is)
    (case w_REQUESTS_k9_2 => k_is)
    (case w_REQUESTS_k9_2_1 => k_is)
    (case w_REQUESTS_k9_3 => k_is)
    (case w_REQUESTS_k9_3_1 => k_is)
    (case w_REQUESTS_k9_4 => k_is)
    (case w_REQUESTS_k9_4_1 => k_is)
    (case w_REQUESTS_k9_5 => k_is)
    (case w_REQUESTS_k9_5_1 => k_is)
    (case w_REQUESTS_k10 => k_is)
    (case w_REQUESTS_k10_0 => k_is)
    (case w_REQUESTS_k10_0_1 => k_is)
    (case w_REQUESTS_k11 => k_is)
    (case w_REQUESTS_k11_0 => k_is)
    (case w_REQUESTS_k11_0_1 => k_is)
    (case w_REQUESTS_k11_1 => k_is)
    (case w_REQUESTS_k11_1_1 => k_is)
    (case w_REQUESTS_k12 => k_is)
    (case w_REQUESTS_k12_0 => k_is)
    (case w_REQUESTS_k12_0_1 => k_is)
    (case w_REQUESTS_k12_1 => k_is)
    (case w_REQUESTS_k12_1_1 => k_is)
    (case w_REQUESTS_k12_2 => k_is)
    (case w_REQUESTS_k12_2_1 => k_is)
    (case w_REQUESTS_k12_3 => k_is)
    (case w_REQUESTS_k12_3_1 => k_is)
    (case w_REQUESTS_k12_4 => k_is)
    (case w_REQUESTS_k12_4_1 => k_is)
    (case w_REQUESTS_k12_5 => k_is)
    (case w_REQUESTS_k12_5_1 => k_is)
    (case w_REQUESTS_k12_6 => k_is)
    (case w_REQUESTS_k12_6_1 => k_is)
    (case w_REQUESTS_k12_7 => k_is)
    (case w_REQUESTS_k12_7_1 => k_is)
    (case w_REQUESTS_k12_8 => k_is)
    (case w_REQUESTS_k12_8_1 => k_is)
    (case w_REQUESTS_k12_9 => k_is)
    (case w_REQUESTS_k12_9_1 => k_is)
    (case w_REQUESTS_k12_10 => k_is)
    (case w_REQUESTS_k12_10_1 => k_is)
    (case w_REQUESTS_k12_11 => k_is)
    (case w_REQUESTS_k12_11_1 => k_is)
    (case w_REQUESTS_k13 => k_is)
    (case w_REQUESTS_k13_0 => k_is)
    (case w_REQUESTS_k13_0_1 => k_is)
    (case w_REQUESTS_k13_1 => k_is)
    (case w_REQUESTS_k13_1_1 => k_is)
    (case w_REQUESTS_k14 => k_is)
    (case w_REQUESTS_k14_0 => k_is)
    (case w_REQUESTS_k14_0_1 => k_is)
    (case w_REQUESTS_k14_1 => k_is)
    (case w_REQUESTS_k14_1_1 => k_is)
    (case w_REQUESTS_k15 => k_is)
    (case w_REQUESTS_k15_0 => k_is)
    (case w_REQUESTS_k15_0_1 => k_is)
    (case w_REQUESTS_k15_1 => k_is)
    (case w_REQUESTS_k15_1_1 => k_is)
    (case w_REQUESTS_k16 => k_is)
    (case w_REQUESTS_k16_0 => k_is)
    (case w_REQUESTS_k16_0_1 => k_is)
    (case w_REQUESTS_k17 => k_is)
    (case w_REQUESTS_k17_0 => k_is)
    (case w_REQUESTS_k17_0_1 => k_is)
    (case w_REQUESTS_k17_1 => k_is)
    (case w_REQUESTS_k17_1_1 => k_is)
    (case w_REQUESTS_k17_2 => k_is)
    (case w_REQUESTS_k17_2_1 => k_is)
    (case w_REQUESTS_k17_3 => k_is)
    (case w_REQUESTS_k17_3_1 => k_is)
    (case w_REQUESTS_k17_4 => k_is)
    (case w_REQUESTS_k17_4_1 => k_is)
    (case w_REQUESTS_k17_5 => k_is)
    (case w_REQUESTS_k17_5_1 => k_is)
    (case w_REQUESTS_k17_6 => k_is)
    (case w_REQUESTS_k17_6_1 => k_is)
    (case w_REQUESTS_k17_7 => k_is)
    (case w_REQUESTS_k17_7_1 => k_is)
    (case w_REQUESTS_k17_8 => k_is)
    (case w_REQUESTS_k17_8_1 => k_is)
    (case w_REQUESTS_k18 => k_is)
    (case w_REQUESTS_k18_0 => k_is)
    (case w_REQUESTS_k18_0_1 => k_is)
    (case w_REQUESTS_k18_1 => k_is)
    (case w_REQUESTS_k18_1_1 => k_is)
    (case w_REQUESTS_k19 => k_is)
    (case w_REQUESTS_k19_0 => k_is)
    (case w_REQUESTS_k19_0_1 => k_is)
    (case w_REQUESTS_k19_1 => k_is)
    (case w_REQUESTS_k19_1_1 => k_is)
    (case w_REQUESTS_k20 => k_is)
    (case w_REQUESTS_k20_0 => k_is)
    (case w_REQUESTS_k20_0_1 => k_is)
    (case w_REQUESTS_k20_1 => k_is)
    (case w_REQUESTS_k20_1_1 => k_is)
    (case w_REQUESTS_k21 => k_is)
    (case w_REQUESTS_k21_0 => k_is)
    (case w_REQUESTS_k21_0_1 => k_is)
    (case w_REQUESTS_k21_1 => k_is)
    (case w_REQUESTS_k21_1_1 => k_is)
    (case w_REQUESTS_k22 => k_is)
    (case w_REQUESTS_k22_0 => k_is)
    (case w_REQUESTS_k22_0_1 => k_is)
    (case pgObjects => k_is)
    (case hdObjects => k_is)
    (case poObjects => k_is)
    (case saObjects => k_is)
    (case mkObjects => k_is)
    (case kcObjects => k_is)
    (case nObjects__interfaces => k_is)
    (case nObjects__next_made => k_is)
    (case pgRequest => k_is)
    (case hdRequest => k_is)
    (case poRequest => k_is)
    (case saRequest => k_is)
    (case mkRequest => k_is)
    (case kcRequest => k_is)
    (case nRequest_number => k_is)
    (case nRequest_interface => k_is)
    (case nRequest_name => k_is)
    (case nRequest_arguments => k_is)
    (case nRequest_ends => k_is)
    (case xBadMessage => k_exc)
    (case keBadMessage => k_is)
    (case bxBadMessage => k_is)
    (case txBadMessage => k_is)
    (case ixBadMessage => k_is)
    (case sxBadMessage => first | rfl | k_is)
    (case xMessageTooLong => k_exc)
    (case keMessageTooLong => k_is)
    (case bxMessageTooLong => k_is)
    (case txMessageTooLong => k_is)
    (case ixMessageTooLong => k_is)
    (case sxMessageTooLong => first | rfl | k_is)
    (case xBadLength => k_exc)
    (case keBadLength => k_is)
    (case bxBadLength => k_is)
    (case txBadLength => k_is)
    (case ixBadLength => k_is)
    (case sxBadLength => first | rfl | k_is)
    (case xBadText => k_exc)
    (case keBadText => k_is)
    (case bxBadText => k_is)
    (case txBadText => k_is)
    (case ixBadText => k_is)
    (case sxBadText => first | rfl | k_is)
    (case xBadPadding => k_exc)
    (case keBadPadding => k_is)
    (case bxBadPadding => k_is)
    (case txBadPadding => k_is)
    (case ixBadPadding => k_is)
    (case sxBadPadding => first | rfl | k_is)
    (case xObjectMissing => k_exc)
    (case keObjectMissing => k_is)
    (case bxObjectMissing => k_is)
    (case txObjectMissing => k_is)
    (case ixObjectMissing => k_is)
    (case sxObjectMissing => first | rfl | k_is)
    (case loFault => k_is)
    (case rmFault => first | rfl | decide +kernel)
    (case keFault => k_is)
    (case bxFault => k_is)
    (case txFault => k_is)
    (case ixFault => k_is)
    (case sxFault => first | rfl | k_is)
    (case saFault => k_is)
    (case mrFault => k_is)
    (case ksFault => ks_is)
    (case veFault => k_is)
    (case tpFault => k_is)
    (case gaFault => k_is)
    (case gtFault => k_is)
    (case hxFault => k_is)
    (case fcFault => k_is)
    (case moFault => k_is)
    (case sgFault => k_is)
    (case tkFault => k_is)
    (case nFault_number => k_is)
    (case nFault_code => k_is)
    (case nFault_words => k_is)
    (case subBadMessage_MessageTooLong => k_is)
    (case subBadMessage_BadLength => k_is)
    (case subBadMessage_BadText => k_is)
    (case subBadMessage_BadPadding => k_is)
    (case subBadMessage_ObjectMissing => k_is)
    (case subBadMessage_Fault => k_is)
    (case subMessageTooLong_BadMessage => k_is)
    (case subMessageTooLong_BadLength => k_is)
    (case subMessageTooLong_BadText => k_is)
    (case subMessageTooLong_BadPadding => k_is)
    (case subMessageTooLong_ObjectMissing => k_is)
    (case subMessageTooLong_Fault => k_is)
    (case subBadLength_BadMessage => k_is)
    (case subBadLength_MessageTooLong => k_is)
    (case subBadLength_BadText => k_is)
    (case subBadLength_BadPadding => k_is)
    (case subBadLength_ObjectMissing => k_is)
    (case subBadLength_Fault => k_is)
    (case subBadText_BadMessage => k_is)
    (case subBadText_MessageTooLong => k_is)
    (case subBadText_BadLength => k_is)
    (case subBadText_BadPadding => k_is)
    (case subBadText_ObjectMissing => k_is)
    (case subBadText_Fault => k_is)
    (case subBadPadding_BadMessage => k_is)
    (case subBadPadding_MessageTooLong => k_is)
    (case subBadPadding_BadLength => k_is)
    (case subBadPadding_BadText => k_is)
    (case subBadPadding_ObjectMissing => k_is)
    (case subBadPadding_Fault => k_is)
    (case subObjectMissing_BadMessage => k_is)
    (case subObjectMissing_MessageTooLong => k_is)
    (case subObjectMissing_BadLength => k_is)
    (case subObjectMissing_BadText => k_is)
    (case subObjectMissing_BadPadding => k_is)
    (case subObjectMissing_Fault => k_is)
    (case subFault_BadMessage => k_is)
    (case subFault_MessageTooLong => k_is)
    (case subFault_BadLength => k_is)
    (case subFault_BadText => k_is)
    (case subFault_BadPadding => k_is)
    (case subFault_ObjectMissing => k_is)
