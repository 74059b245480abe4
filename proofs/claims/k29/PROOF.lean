import PyProof.Rows.All
import Wide.All
import OpenK.AllK
import Wide.FinOn
import HandS.ForMost
import HandS.Exc
import HandS.TryOnly
import HandS.ExcOwn
import HandS.WordsExc
import HandS.IsInst
import HandS.Wide
import HandS.Flow
import HandS.More
import HandS.Codes
import HandS.Walk
import HandS.TupLe
import HandS.WordsDict
import HandS.Conv
import HandS.TryMany
import HandS.ExcIs
import KE.KBits
import HandS.CallLocal
import HandS.Strs
import HandS.SetFor
import HandS.Set
import HandS.Property
import KE.GoesMore
import KE.KTurns
import KE.KDictZip
import HandS.SetKeys
import HandS.Keys
import HandS.Remove
import HandS.Rev
import HandS.NoneIn
import HandS.Deep
import KE.KExcSuper
import KE.RegKSuper
import KE.KExcIs
import HandS.ExcInit
import HandS.ExcField
import HandS.Star
import HandS.SortInts
import KE.KStateDown
import HandS.Head0
import HandS.Head1
import HandS.Head2
import PySem.Challenge.RW_sillwatch_k29_buffers_and_regions_bounds
set_option Elab.async false
set_option linter.all false
set_option maxRecDepth 100000
set_option maxHeartbeats 4000000
namespace My
open PySem L2
section
/-! ### a def whose first statement is super().__init__(e, ..), in an own exception (our own rule) -/
open PySem PySem.Spec PyProof.Rows
structure SupScope (N P : List Str) (sc : Scope) : Prop where
  kind : sc.kind = .function
  co : sc.isCoroutine = false
  gen : sc.isGenerator = false
  nd : N.Nodup
  pre : N.take P.length = P
  par : ∀ x ∈ P, sc.names.lookup x = some .local
  nocell : ∀ y ∈ sc.names, y.2 ≠ .cell
  free : ∀ y ∈ sc.names, y.2 = .free → y.1 = "__class__"
  cls : sc.names.lookup ("__class__" : Str) = some .free
  sup : sc.names.lookup ("super" : Str) = some .globalImplicit
abbrev envSup (qual : Str) (scope : Scope) (L f : Addr) (cd : Value) (cc : Addr) : Env := PySem.W.envX qual scope L f cd [("__class__", cc)]
def cxSup (CX : CXT) (P : Program) (w : World) (K : PySem.W.Frag) (mg : Str → Option Value) (base : Heap) (N : List Str) (qual : Str) (scope : Scope) (f : Addr) (cd : Value) (cc : Addr) (A : Around) (outer : List Env) (s : Shared) (H : Hp) (E : XK) : Cx where
  prog := P
  w := w
  K := K
  mg := mg
  base := base
  A := A.deeper (envSup qual scope s.heap.objs.size f cd cc)
  N := N
  s_0 := s
  H_0 := H
  env := envSup qual scope s.heap.objs.size f cd cc
  outer := outer
  stack := envSup qual scope s.heap.objs.size f cd cc :: outer
  ex := []
  calm := true
  fn := fun x => x != ("__class__" : Str)
  pn := []
  xe := fun e s' => wpAny (model P w) (A.deeper (envSup qual scope s.heap.objs.size f cd cc)) (leaving (envSup qual scope s.heap.objs.size f cd cc) e) (fun _ s'' => CX outer H s E e s'') (fun e' s'' => CX outer H s E e' s'') s'
theorem zip_rev_out {x : Str} : ∀ {ps : List Str} {us : List Value}, x ∉ ps → ((ps.zip us).reverse.lookup x) = none := by
  intro ps us h
  rw [List.lookup_eq_none_iff]
  intro p hp
  rw [List.mem_reverse] at hp
  have := (List.of_mem_zip (a := p.1) (b := p.2) hp).1
  simp only [beq_eq_false_iff_ne, bne_iff_ne, ne_eq]
  intro e
  rw [e] at h
  exact h this
theorem zip_rev_get {x : Str} {u : Value} : ∀ {ps : List Str} {us : List Value} {i : Nat}, ps.Nodup → ps[i]? = some x → us[i]? = some u → (ps.zip us).reverse.lookup x = some u
  | [], _, _, _, h, _ => by simp at h
  | _ :: _, [], _, _, _, h => by simp at h
  | p :: ps, v :: us, 0, nd, h1, h2 => by
    simp at h1 h2; subst h1; subst h2
    rw [List.zip_cons_cons, List.reverse_cons, List.lookup_append, zip_rev_out (List.nodup_cons.mp nd).1]
    simp [List.lookup]
  | p :: ps, v :: us, i + 1, nd, h1, h2 => by
    rw [List.zip_cons_cons, List.reverse_cons, List.lookup_append, zip_rev_get (i := i) (List.nodup_cons.mp nd).2 (by simpa using h1) (by simpa using h2)]
    rfl
theorem sup_cell {x : Str} {c cc : Addr} (h : List.lookup x [(("__class__" : Str), cc)] = some c) : x = "__class__" ∧ c = cc := by
  rw [List.lookup_cons] at h
  cases e : (x == ("__class__" : Str)) with
  | true =>
    rw [e] at h
    exact ⟨by simpa using e, by cases h; rfl⟩
  | false => rw [e] at h; cases h
theorem inv_sup {CX : CXT} {P : Program} {w : World} {K : PySem.W.Frag} {mg : Str → Option Value} {base : Heap} {N ps : List Str} {qual : Str} {scope : Scope} {f cc : Addr} {cd : Value} {A : Around} {outer : List Env} {s : Shared} {H : Hp} {E : XK} {us : List Value} {vs : List V} {h1 : Heap} {tk : Nat}
    {cl : Value} {cld : Option Addr} {cv : Option Value} {csl : Array (Option Value)} (S : SupScope N ps scope) (hd : A.handled = none) (e0 : Env0 P w K mg base A outer s H) (hl : vs.length = ps.length) (r : Vals vs us) (hcc : K.lookup cc = some ⟨cl, cld, .cell cv, csl⟩)
    (hns : h1.Ns s.heap.objs.size (fun x => (ps.zip us).reverse.lookup x)) (hk : ∀ b o, s.heap.get? b = some o → h1.get? b = some o) :
    Inv (cxSup CX P w K mg base N qual scope f cd cc A outer s H E) [] (L2.start N vs) H { s with heap := h1, toks := tk } := by
  have hpl : ps.length ≤ N.length := by have := congrArg List.length S.pre; rw [List.length_take] at this; omega
  have noA : ∀ b : Addr, b ∉ (cxSup CX P w K mg base N qual scope f cd cc A outer s H E).ex := fun b z => absurd (show b ∈ ([] : List Addr) from z) (by simp)
  have hcb : base.get? cc = some ⟨cl, cld, .cell cv, csl⟩ := e0.mod.kin _ _ hcc
  have hcs := (e0.bs _ _ hcb).1
  refine ⟨⟨e0.mod, S.kind, rfl, rfl, Nat.le_refl _, fun y z c a b => ?_, fun y hy => ?_, fun y c hf h => ?_, fun _ => hd, Around.frames_deeper e0.frames, .inr ⟨rfl, rfl⟩, fun b z => absurd z (noA b), e0.bs, e0.bsz, fun b _ _ => noA b, fun b z => absurd z (noA b), e0.funs, e0.frf⟩,
    rfl, e0.bare, Un.kept hk, ⟨_, hns, fun i y v a b c => ?_⟩, fun y c h => ?_, e0.hok.fresh (Nat.le_refl _), fun y c h => ?_, fun p hp => absurd (show p ∈ ([] : List (Addr × Obj)) from hp) (by simp), e0.hok.kept hk, ?_⟩
  · rw [(sup_cell a).1, (sup_cell b).1]
  · have hy : scope.names.lookup y = some .cell ∨ scope.names.lookup y = some .free := hy
    rcases hy with hy | hy
    · exact absurd rfl (S.nocell _ (PySem.mem_of_lookup hy))
    · have e := S.free _ (PySem.mem_of_lookup hy) rfl
      refine ⟨cc, ?_⟩
      show List.lookup y [(("__class__" : Str), cc)] = some cc
      rw [show y = "__class__" from e]
      exact List.lookup_cons_self
  · have := (sup_cell h).1
    subst this
    exact absurd hf (by show ¬ ((("__class__" : Str) != ("__class__" : Str)) = true); decide)
  · have hi : i < vs.length := by
      unfold L2.start at b
      by_cases hi : i < vs.length
      · exact hi
      · rw [List.getElem?_append_right (by simpa using hi)] at b
        rw [List.getElem?_replicate] at b
        split at b <;> cases b
    have ha : vs[i]? = some v := by
      unfold L2.start at b
      rw [List.getElem?_append_left (by simpa using hi), List.getElem?_map] at b
      cases e : vs[i]? with
      | none => rw [e] at b; cases b
      | some a => rw [e] at b; cases b; rfl
    obtain ⟨u, hu, rv⟩ := r.get ha
    have hp : ps[i]? = some y := by
      rw [← S.pre, List.getElem?_take_of_lt (by omega)]; exact a
    have ndP : ps.Nodup := by rw [← S.pre]; exact S.nd.sublist (List.take_sublist _ _)
    exact ⟨u, rv, .inl ⟨S.par y (List.mem_of_getElem? hp), zip_rev_get ndP hp hu⟩⟩
  · obtain ⟨_, rfl⟩ := sup_cell h
    exact ⟨cv, _, hk _ _ hcs, rfl⟩
  · obtain ⟨_, rfl⟩ := sup_cell h
    exact (e0.bs _ _ hcb).2
  · unfold L2.start
    show _ = N.length
    rw [List.length_append, List.length_map, List.length_replicate]
    omega
/-- ValueError's __init__ called through the wrapper that super() gave -/
theorem sup_call {X : Cx} {pins : List (Addr × Obj)} {σ : L2.St} {H : Hp} {s : Shared} {a C u : Addr} {us : List Value} {Q : Value → Shared → Prop} {E : Value → Shared → Prop} {A : Around} (T : OexC X.K C) (I : Inv X pins σ H s) (e : H a = some (exo a C none))
    (hu : s.heap.get? u = some (PySem.W.kxs_mw "ValueError.__init__" a)) (hl : us.length ≤ sizeLine) (h : ∀ s', Inv X pins σ H s' → Q .none s') :
    wpAny (model X.prog X.w) A (call (.ref u) us) Q E s := by
  obtain ⟨nm, q, N, bs, bm, sn, sub, ab, col, dd, k0, k1, k2, k3, k5, hC, hbm⟩ := T.cls
  obtain ⟨t1, ho⟩ := exo_at I.hok e
  have hCs := I.kIn _ _ hC
  obtain ⟨hp, g, d, t, os⟩ := s
  refine wpAny_call (codeAny_of_tree ?_)
  show wpAny _ A.in1 (callAny (.ref u) ⟨us, []⟩) _ _ _
  simp only [callAny]
  refine wpAny_bind (wpAny_load hu ?_)
  simp only [PySem.W.kxs_mw, show (Value.type "method-wrapper" == Value.type "method" || Value.type "method-wrapper" == Value.type "builtin_function_or_method" || Value.type "method-wrapper" == Value.type "method-wrapper") = true by decide, if_true]
  refine PySem.W.KFB.if_so (by decide) ?_
  refine wpAny_bind (PySem.W.check_bound_init F.excBase_ValueError.toExcCallFacts hCs ho rfl ?_)
  refine wpAny_bind (wpAny_pure (wpAny_pure ?_))
  refine ⟨PySem.plainId_quiet F.excBase_ValueError.init.plain _, codeAny_builtin F.excBase_ValueError.initEntry ?_⟩
  refine PySem.W.exc_init_tree (cls := .ref C) (t0 := t1) (dv := none) (c2 := .none) (c3 := .none) (b4 := .bool false) ho hl (fun h' k hx _ => ?_)
  have J := I.write (t' := t) (x := a) (e := a) (o := exo a C none) (by rw [e]; exact True.intro) (.inl rfl) k ⟨_, hx⟩ (exo_ok hx)
  have eu : upd H a (exo a C none) = H := by
    funext b
    by_cases hb : b = a
    · rw [hb, upd_same, e]
    · rw [upd_ne hb]
  rw [eu] at J
  exact h _ J
/-- what the written part says of an own exception's class C whose __init__ D has -/
structure SupC (K : PySem.W.Frag) (C D : Addr) : Prop where
  ox : OexC K C
  up : PySem.W.mroIn K C (.ref D) = some true
  get : PySem.W.ks_superIn K C D "__init__" = some (some (.builtin "ValueError.__init__"))
  ve : PySem.W.subIn K (.ref C) (.type "ValueError") = some true
  tp : PySem.W.nsIn K PySem.cStatics "thirdparty.any" = some none
theorem fn_sup {CX : CXT} {P : Program} {w : World} {K : PySem.W.Frag} {mg : Str → Option Value} {base : Heap} {k : Nat} {f cc cda D : Addr} {name qual : Str} {params : Arguments} {e : Expr} {es : List Expr} {p0 p1 p2 p3 p4 : Pos} {rest : List Stmt} {scope : Scope} {dV kV doc pm ct oc cl ccl : Value} {an od cld cdd : Option Addr}
    {osl csl ccs : Array (Option Value)} {N ps : List Str} {sp : Sp} {ar : Arg} {fvs : Array Value} {file : Str} {tf : Tok} {cdD : ClassData}
    (lk : K.lookup f = some ⟨oc, od, .func (PySem.W.fnX name qual params (.Expr (.Call (.Attribute (.Call (.Name "super" p0) [] [] p1) "__init__" p2) (e :: es) [] p3) p4 :: rest) scope [("__class__", cc)] dV kV doc pm an (.ref cda) ct), osl⟩)
    (hcd : PySem.W.codeIn K (.ref cda) qual = true) (S : SupScope N ps scope) (len : ∀ vs H Q E, sp vs H Q E → vs.length = ps.length)
    (hpar : (params.posonlyargs ++ params.args).head? = some ar) (har : ps[0]? = some ar.arg)
    (hcode : K.lookup cda = some ⟨ccl, cdd, .fields fvs, ccs⟩) (hvs : fvs[2]? = some (.str file tf)) (hfile : ((P.main.file : Str) == file) = true)
    (hcc : K.lookup cc = some ⟨cl, cld, .cell (some (.ref D)), csl⟩) (hD : PySem.W.clsIn K D = some cdD) (hsuper : mg "super" = none) (htop : (P.main.scope.names.lookup ("super" : Str)).isSome = false)
    (pl : Addr → Sem Bool) (hev : ∀ L : Addr, eval (.Call (.Attribute (.Call (.Name "super" p0) [] [] p1) "__init__" p2) (e :: es) [] p3) (envSup qual scope L f (.ref cda) cc) = (do
      let ov ← attributeBase (.Call (.Name "super" p0) [] [] p1) "__init__" (envSup qual scope L f (.ref cda) cc) (eval (.Call (.Name "super" p0) [] [] p1) (envSup qual scope L f (.ref cda) cc))
      standAt p2.atName
      let (fx, first) ← holding [ov] (getMethod ov "__init__" (pl L))
      callWith p3 fx first (backTo p3 (starEach (e :: es) (envSup qual scope L f (.ref cda) cc))) []))
    (he : ∀ X : Cx, starEach (e :: es) X.env = (false, eval e X.env) :: starEach es X.env) (hpl : ∀ X : Cx, (backTo p3 (starEach es X.env)).any (·.1) = false)
    (hbody : ∀ (A : Around) (outer : List Env) (s : Shared) (H : Hp) (vs : List V) (Q : VK) (E : XK), Room k (A.deeper (envSup qual scope s.heap.objs.size f (.ref cda) cc)) → sp vs H Q E →
      ∃ (ta : TA) (t : TS) (a C : Addr) (ws : List V), PA (cxSup CX P w K mg base N qual scope f (.ref cda) cc A outer s H E) (e :: es) ta ∧ PSs (cxSup CX P w K mg base N qual scope f (.ref cda) cc A outer s H E) rest t ∧ vs = .ref a :: ws ∧ H a = some (exo a C none) ∧ SupC K C D ∧
        ta (L2.start N vs) H fun us H1 => us.length ≤ 1000 ∧ H1 a = some (exo a C none) ∧ t { nx := fun _ H' => Q .non H', rt := Q } (L2.start N vs) H1) :
    FnOk P w K mg base CX (k + 1) f (PySem.W.fnX name qual params (.Expr (.Call (.Attribute (.Call (.Name "super" p0) [] [] p1) "__init__" p2) (e :: es) [] p3) p4 :: rest) scope [("__class__", cc)] dV kV doc pm an (.ref cda) ct) ps sp := by
  refine ⟨len, fun A outer s H args us vs Q E hr e0 hb r hsp => ?_⟩
  have hl := len _ _ _ _ hsp
  have KX : K.In s.heap := e0.mod.kin.keeps fun b o e => (e0.bs b o e).1
  have lim : s.heap.NoLimit := e0.mod.nolimit.keeps fun b o e => (e0.bs b o e).1
  refine PySem.ks_codeAny_call_defAt (fd := PySem.W.fnX name qual params (.Expr (.Call (.Attribute (.Call (.Name "super" p0) [] [] p1) "__init__" p2) (e :: es) [] p3) p4 :: rest) scope [("__class__", cc)] dV kV doc pm an (.ref cda) ct) (binds := ps.zip us)
    hr.depth (KX _ _ lk) rfl lim (PySem.W.codeRec_of KX hcd) rfl hb S.nocell (fun ⟨n, v⟩ hy => S.par n (List.of_mem_zip hy).1) (fun h₀ hns hk => ?_) S.co S.gen S.kind
  obtain ⟨ta, t, a, C, ws, hPA, hPS, rfl, ea, T, hq⟩ := hbody A outer s H vs Q E (hr.deeper _) hsp
  have I : Inv (cxSup CX P w K mg base N qual scope f (.ref cda) cc A outer s H E) [] (L2.start N (.ref a :: ws)) H { s with heap := h₀, toks := s.toks + (ps.zip us).length } := inv_sup S hr.hd e0 hl r hcc hns hk
  have ndP : ps.Nodup := by rw [← S.pre]; exact S.nd.sublist (List.take_sublist _ _)
  have hus : ∃ ur, us = .ref a :: ur := by
    cases r with
    | cons h _ => obtain rfl := (show _ = Value.ref a from h); exact ⟨_, rfl⟩
  obtain ⟨ur, rfl⟩ := hus
  have hself : (ps.zip (.ref a :: ur)).reverse.lookup ar.arg = some (.ref a) := zip_rev_get (i := 0) ndP har rfl
  obtain ⟨t1, ho⟩ := exo_at I.hok ea
  have K0 : K.In h₀ := I.kIn
  obtain ⟨oD, hD1, hD2⟩ : ∃ oD, h₀.get? D = some oD ∧ oD.data = .cls cdD := by
    unfold PySem.W.clsIn at hD
    split at hD
    · rename_i c d cd' sl ho
      cases hD
      exact ⟨_, K0 _ _ ho, rfl⟩
    · cases hD
  show PySem.wpAt (model P w) (A.deeper (envSup qual scope s.heap.objs.size f (.ref cda) cc)) (.func (.Expr (.Call (.Attribute (.Call (.Name "super" p0) [] [] p1) "__init__" p2) (e :: es) [] p3) p4 :: rest) (envSup qual scope s.heap.objs.size f (.ref cda) cc)) (execs (.Expr (.Call (.Attribute (.Call (.Name "super" p0) [] [] p1) "__init__" p2) (e :: es) [] p3) p4 :: rest) (envSup qual scope s.heap.objs.size f (.ref cda) cc)) _ _ _
  refine PySem.ks_wpAt_execs_cons (PySem.ks_wpAt_Expr_any (PySem.ks_wpAt_MethodCall ?_ (hev _)) I.quiet)
  refine PySem.ks_wpAt_super_base (f := f) (cc := cda) (ar := ar) (vs := fvs) (file := file) (tf := tf) (env := envSup qual scope s.heap.objs.size f (.ref cda) cc) S.sup S.cls (by decide) rfl (K0 _ _ lk) rfl hpar rfl (K0 _ _ hcode) rfl hvs hfile htop ?_
  obtain ⟨mb, hb1, hb2⟩ := I.mod.blt
  refine PySem.W.ks_loadName_global S.kind S.sup (Calls.loadGlobal_builtin (I.mod.glob.keeps I.bk) hsuper (hb1.keeps I.bk) ((hb2 _ (by decide)).trans (by first | rfl | kernel_rfl | decide +kernel)) ⟨rfl, ?_⟩)
  refine wpAny_loadName_free S.kind S.cls (c := cc) rfl ⟨_, K0 _ _ hcc, rfl⟩ ?_
  refine wpAny_loadName_local S.kind (S.par _ (List.mem_of_getElem? har)) hns hself ?_
  refine PySem.ks_wpAny_isType_cls hD1 hD2 ⟨rfl, ?_⟩
  refine PySem.ks_wpAny_call_super hD1 hD2 ho rfl (fun c z => by cases z) (PySem.W.looks_mroIn K0 T.up) (fun h' eso k => ?_)
  have I' := I.kept (t' := s.toks + (ps.zip (Value.ref a :: ur)).length) k
  have K' : K.In h' := I'.kIn
  have ho' := k _ _ ho
  obtain ⟨nm, q, N', bs, bm, sn, sub, ab, col, dd, k0, k1, k2, k3, k5, hC, hbm⟩ := T.ox.cls
  have hcl : PySem.W.clsIn K C = some { name := nm, bases := bs, mro := .ref C :: bm, ns := N', qualname := q, hasDict := true, slotNames := sn, subclasses := sub, abstract := ab, collection := col, hasDel := false } := by unfold PySem.W.clsIn; rw [hC] <;> rfl
  have hget := T.get
  unfold PySem.W.ks_superIn at hget
  rw [hcl, Option.bind_some] at hget
  have haC : a ≠ C := fun z => by
    have := (e0.bs _ _ (e0.mod.kin _ _ hC)).2
    rw [← z, ea] at this; cases this
  have IA : PySem.W.InstAt h' a { cls := .ref C, dict := none, data := .fields #[.ref t1, .none, .none, .none, .bool false, .none] } C none := ⟨ho', rfl, rfl, trivial⟩
  refine PySem.W.kxs_getMethod PySem.W.kxs_ValueError eso (PySem.W.looks_opaque K' T.tp) ((PySem.W.looks_clsIn K' hcl).andThen .now) rfl K' hget (IA.type.andThen (PySem.W.looks_subIn K' T.ve)) haC (by decide) ?_
  have I2 := I'.kept (t' := s.toks + (ps.zip (Value.ref a :: ur)).length + 1) (h' := h'.push (PySem.W.kxs_mw "ValueError.__init__" a)) (fun b o e => Heap.get?_push_of_some _ e)
  have I3 : Inv (cxSup CX P w K mg base N qual scope f (.ref cda) cc A outer s H E) [(h'.objs.size, PySem.W.kxs_mw "ValueError.__init__" a)] (L2.start N (.ref a :: ws)) H { s with heap := h'.push (PySem.W.kxs_mw "ValueError.__init__" a), toks := s.toks + (ps.zip (Value.ref a :: ur)).length + 1 } :=
    I2.pins_of fun p hp => by
      rw [List.mem_singleton.mp hp]
      exact ⟨Heap.get?_push_at rfl rfl, I'.hok.fresh (Nat.le_refl _), Nat.ne_of_gt I'.lt, I'.nofs (Nat.le_refl _), fun v z => by cases z⟩
  have hX := he (cxSup CX P w K mg base N qual scope f (.ref cda) cc A outer s H E)
  have hpl2 := hpl (cxSup CX P w K mg base N qual scope f (.ref cda) cc A outer s H E)
  have hrun := hPA.run p3 _ _ _ _ _ I3 hq
  show wpAny _ _ (callWith p3 (Value.ref h'.objs.size) [] (backTo p3 (starEach (e :: es) (cxSup CX P w K mg base N qual scope f (.ref cda) cc A outer s H E).env)) []) _ _ _
  rw [hX] at hrun ⊢
  refine PySem.W.kxs_callWith (i := "ValueError.__init__") (x := a) (by show (false || (backTo p3 (starEach es _)).any (·.1)) = false; rw [hpl2]; rfl) (Calls.evalArgs_plain (wpAny_mono hrun (fun ws' s1 hh => ?_) fun _ _ z => z))
  obtain ⟨vs1, H1, I4, r1, hl1, e1, ht⟩ := hh
  refine ⟨(I4.pin _ (List.mem_append_right _ (List.mem_singleton.mpr rfl))).1, ?_⟩
  refine sup_call T.ox I4 e1 (I4.pin _ (List.mem_append_right _ (List.mem_singleton.mpr rfl))).1 (by rw [List.nil_append, ← Paired.length r1, sizeLine_eq]; omega) (fun s2 J => ?_)
  refine wpAt_of_wpAny ?_
  refine wpAny_mono (hPS.run _ s2 _ H1 _ J ht) (fun fl s' hs => ?_) fun e s' hs => hs
  have fin : ∀ {σ' : L2.St} {H' : Hp} {v : V} {u : Value}, Inv (cxSup CX P w K mg base N qual scope f (.ref cda) cc A outer s H E) [(h'.objs.size, PySem.W.kxs_mw "ValueError.__init__" a)] σ' H' s' → RelV v u → Q v H' → CE outer P w H s Q u s' :=
    fun {σ' H' v u} J rv q => ⟨v, H', J.os, J.bare, J.base, J.hok, rv, q⟩
  cases fl with
  | ret u =>
    obtain ⟨v, σ', H', J, rv, q⟩ := hs
    exact fin J rv q
  | next =>
    obtain ⟨σ', H', J, q⟩ := hs
    exact fin (v := V.non) (u := Value.none) J rfl q
  | brk =>
    obtain ⟨_, _, _, q⟩ := hs
    exact False.elim q
  | cont =>
    obtain ⟨_, _, _, q⟩ := hs
    exact False.elim q
/-- what the program says of its own file, and of the name super -/
structure Prg (P : Program) : Prop where
  file : ((P.main.file : Str) == ("/claim/cut.py" : Str)) = true
  top : (P.main.scope.names.lookup ("super" : Str)).isSome = false
/-- such a def of the text as it stands behind the top -/
structure FunSup (K : PySem.W.Frag) (x qual : Str) (st : Stmt) (f : Addr) (fd : FuncData) (D : Addr) : Prop where
  ex : ∃ (oc : Value) (od : Option Addr) (kV doc pm : Value) (an : Option Addr) (cda : Addr) (ct : Value) (osl : Array (Option Value)) (cc : Addr) (cl ccl : Value) (cld cdd : Option Addr) (csl ccs : Array (Option Value)) (fvs : Array Value) (tf : Tok) (cdD : ClassData),
    fd = PySem.W.fnX x qual (defArgs st) (defBody st) (defScope st) [("__class__", cc)] .none kV doc pm an (.ref cda) ct ∧ K.lookup f = some ⟨oc, od, .func fd, osl⟩ ∧ PySem.W.codeIn K (.ref cda) qual = true ∧ K.lookup cda = some ⟨ccl, cdd, .fields fvs, ccs⟩ ∧
    fvs[2]? = some (.str "/claim/cut.py" tf) ∧ K.lookup cc = some ⟨cl, cld, .cell (some (.ref D)), csl⟩ ∧ PySem.W.clsIn K D = some cdD
theorem FunSup.ok {CX : CXT} {P : Program} {w : World} {K : PySem.W.Frag} {mg : Str → Option Value} {base : Heap} {x qual : Str} {st : Stmt} {f D : Addr} {fd : FuncData} {N ps : List Str} {k : Nat} {sp : Sp} {ar : Arg} {e : Expr} {es : List Expr} {p0 p1 p2 p3 p4 : Pos} {rest : List Stmt}
    (F : FunSup K x qual st f fd D) (hP : Prg P) (S : SupScope N ps (defScope st)) (len : ∀ vs H Q E, sp vs H Q E → vs.length = ps.length)
    (hst : defBody st = .Expr (.Call (.Attribute (.Call (.Name "super" p0) [] [] p1) "__init__" p2) (e :: es) [] p3) p4 :: rest) (hpar : ((defArgs st).posonlyargs ++ (defArgs st).args).head? = some ar) (har : ps[0]? = some ar.arg) (hsuper : mg "super" = none)
    {pl : Addr → Addr → Addr → Sem Bool} (hev : ∀ cc cda L : Addr, eval (.Call (.Attribute (.Call (.Name "super" p0) [] [] p1) "__init__" p2) (e :: es) [] p3) (envSup qual (defScope st) L f (.ref cda) cc) = (do
      let ov ← attributeBase (.Call (.Name "super" p0) [] [] p1) "__init__" (envSup qual (defScope st) L f (.ref cda) cc) (eval (.Call (.Name "super" p0) [] [] p1) (envSup qual (defScope st) L f (.ref cda) cc))
      standAt p2.atName
      let (fx, first) ← holding [ov] (getMethod ov "__init__" (pl cc cda L))
      callWith p3 fx first (backTo p3 (starEach (e :: es) (envSup qual (defScope st) L f (.ref cda) cc))) []))
    (he : ∀ X : Cx, starEach (e :: es) X.env = (false, eval e X.env) :: starEach es X.env) (hpl : ∀ X : Cx, (backTo p3 (starEach es X.env)).any (·.1) = false)
    (hbody : ∀ (cc cda : Addr) (A : Around) (outer : List Env) (s : Shared) (H : Hp) (vs : List V) (Q : VK) (E : XK), Room k (A.deeper (envSup qual (defScope st) s.heap.objs.size f (.ref cda) cc)) → sp vs H Q E →
      ∃ (ta : TA) (t : TS) (a C : Addr) (ws : List V), PA (cxSup CX P w K mg base N qual (defScope st) f (.ref cda) cc A outer s H E) (e :: es) ta ∧ PSs (cxSup CX P w K mg base N qual (defScope st) f (.ref cda) cc A outer s H E) rest t ∧ vs = .ref a :: ws ∧ H a = some (exo a C none) ∧ SupC K C D ∧
        ta (L2.start N vs) H fun us H1 => us.length ≤ 1000 ∧ H1 a = some (exo a C none) ∧ t { nx := fun _ H' => Q .non H', rt := Q } (L2.start N vs) H1) :
    FnOk P w K mg base CX (k + 1) f fd ps sp := by
  obtain ⟨oc, od, kV, doc, pm, an, cda, ct, osl, cc, cl, ccl, cld, cdd, csl, ccs, fvs, tf, cdD, rfl, lk, hcd, hcode, hvs, hcc, hD⟩ := F.ex
  rw [hst] at lk ⊢
  exact fn_sup lk hcd S len hpar har hcode hvs hP.file hcc hD hsuper hP.top (pl cc cda) (hev cc cda) he hpl (fun A outer s H vs Q E => hbody cc cda A outer s H vs Q E)
end
section
/-! ### an own exception that was made with its own __init__, as a value (our own rules) -/
open PySem PySem.Spec PyProof.Rows
/-- its object and its dict -/
structure ExV (H : Hp) (a C dx : Addr) (fs : List (Str × V)) : Prop where
  ob : H a = some (exo a C (some dx))
  di : H dx = some (exd dx fs)
theorem ExV.to {H H' : Hp} {a C dx : Addr} {fs : List (Str × V)} (h : ExV H a C dx fs) (s : Same H H') : ExV H' a C dx fs := ⟨s _ _ h.ob, s _ _ h.di⟩
theorem exv_inst {X : Cx} {pins : List (Addr × Obj)} {σ : L2.St} {H : Hp} {s : Shared} {a C dx : Addr} {fs : List (Str × V)} (I : Inv X pins σ H s) (h : ExV H a C dx fs) :
    ∃ (ox od : Obj) (mA : Str → Option Value), PySem.W.InstAt s.heap a ox C (some od) ∧ (∀ f, RelO (fs.lookup f) (mA f)) ∧ ∀ n, PySem.W.lookIn n od = some (mA n) := by
  obtain ⟨t1, ho⟩ := exo_at I.hok h.ob
  obtain ⟨mA, hns, hr⟩ := exd_at I.hok h.di
  obtain ⟨od, hod, hl⟩ := lookIn_ns hns
  exact ⟨_, od, mA, ⟨ho, rfl, rfl, hod⟩, hr, hl⟩
/-- isinstance(x, c) of such an exception -/
def rIsExo (K : PySem.W.Frag) : List V → Hp → VK → Prop := fun xs H Q => ∃ (a C dx : Addr) (fs : List (Str × V)) (c : V) (cv : Value) (b : Bool), xs = [.ref a, c] ∧ ExV H a C dx fs ∧ ExcC K C ∧ (∀ u, RelV c u → u = cv) ∧ PySem.W.kitOne K (.ref C) cv = some b ∧ Q (.bl b) H
theorem call_isExo {X : Cx} : CallR X (.builtin "isinstance") (rIsExo X.K) := by
  intro pins s σ H xs us Q I r h
  obtain ⟨a, C, dx, fs, c, cv, b, rfl, ev, T, hcv, e, q⟩ := h
  cases r with
  | cons rx rr =>
    cases rr with
    | cons rt rr =>
      cases rr
      cases rx
      have ec := hcv _ rt
      subst ec
      obtain ⟨ox, od, mA, J, _, _⟩ := exv_inst I ev
      have hcl : (PySem.W.clsIn X.K C).isSome = true := by
        have := T.hd
        unfold PySem.W.hasDictIn at this
        cases z : PySem.W.clsIn X.K C with
        | none => rw [z] at this; cases this
        | some cd => rfl
      exact PySem.W.kia_one (PySem.W.kitx_exc hcl T.hg T.hk T.hs T.ha T.hn T.ht T.hm) I.kIn J e (fun z => nomatch z) fun tk => ⟨.bl b, H, I.kept (t' := tk) fun _ _ z => z, rfl, q⟩
/-- e.f of such an exception -/
def tExf (K : PySem.W.Frag) (n : Str) (te : TE) : TE := fun σ H Q => te σ H fun x H1 => ∃ (a C dx : Addr) (fs : List (Str × V)) (v : V), x = .ref a ∧ ExV H1 a C dx fs ∧ XfC K C ∧ PySem.W.findIn K (.ref C) n = some none ∧ fs.lookup n = some v ∧ Q v H1
theorem pe_exf {X : Cx} {e : Expr} {te : TE} {pos : Pos} {n : Str} (he : PE X e te) (hb : attributeBase e n X.env (eval e X.env) = eval e X.env := by rfl) : PE X (.Attribute e n pos) (tExf X.K n te) := by
  refine ⟨fun pins s σ H Q I h => ?_⟩
  refine attr_of hb (thn (he.run pins s σ H _ I h) fun u s1 hh => ?_)
  obtain ⟨x, H1, I1, rx, a, C, dx, fs, v, ex, ev, T, hno, l, q⟩ := hh
  subst ex
  obtain rfl : u = Value.ref a := rx
  obtain ⟨ox, od, mA, J, hr, hl⟩ := exv_inst I1 ev
  obtain ⟨u, hu, ru⟩ := RelO.some_of (v := v) (o := mA n) (by rw [← l]; exact hr n)
  exact HandSPX.exc_get I1.kIn J T.ga T.gg T.exC (PySem.W.findObj_own T.hdC hno rfl (by rw [hl, hu])) (handed_of ru) ⟨v, H1, I1.tok _, ru, q⟩
/-- C(e, ..) as a value, C's own __init__ keeping sp -/
def tMkV (C : Addr) (sp : Sp) (dvs : List V) (ta : TA) : TE := fun σ H Q => ta σ H fun vs H1 => vs.length ≤ 1000 ∧ ∀ a, H1 a = none → sp (.ref a :: (vs ++ dvs)) (upd H1 a (exo a C none)) (fun v H2 => v = .non ∧ Q (.ref a) H2) (fun _ _ _ => False)
theorem pe_mkv {X : Cx} {e : Expr} {es : List Expr} {ta : TA} {p pos : Pos} {CX : CXT} {x : Str} {C fI : Addr} {k : Nat} {fd : FuncData} {ps : List Str} {sp : Sp} {ds : List Value} {dvs : List V} (T : OexC X.K C) (iC : PySem.W.findIn X.K (.ref C) "__init__" = some (some (.ref fI))) (tI : PySem.W.typeIn X.K (.ref fI) = some (.type "function"))
    (F1 : FnOk X.prog X.w X.K X.mg X.base CX k fI fd ps sp) (hr : Room (k + 1) X.A) (hb : Binds X.K fd ps ds) (hd : Vals dvs ds) (hx : Passes CX X (fun _ _ _ => False)) (hg : Gl X x) (hm : X.mg x = some (.ref C)) (ha : PA X (e :: es) ta)
    (hdb : (x == ("__debug__" : Str)) = false := by decide) (he : starEach (e :: es) X.env = (false, eval e X.env) :: starEach es X.env := by rfl) (hpl : (backTo pos (starEach es X.env)).any (·.1) = false := by rfl) :
    PE X (.Call (.Name x p) (e :: es) [] pos) (tMkV C sp dvs ta) := by
  refine ⟨fun pins s σ H Q I h => ?_⟩
  obtain ⟨nm, q, N, bs, bm, sn, sub, ab, col, dd, k0, k1, k2, k3, k5, hC, hbm⟩ := T.cls
  refine wpAny_Call_Name_kw (ld_glob I hg hm ?_ hdb)
  refine PySem.W.callWith_K (h₀ := X.base) I.ok.mod.kin T.kC (thn (ha.run pos pins s σ H _ I h) fun us s1 ⟨vs, H1, I1, r1, hz, q1⟩ => ⟨I1.kIn, ?_⟩) he hpl
  show wpAny _ _ (call (.ref C) us) _ _ _
  obtain ⟨hp, g, dr, tk, os⟩ := s1
  have hsz : hp.objs.size ≤ hp.objs.size + 1 := Nat.le_succ _
  have hn : H1 (hp.objs.size + 1) = none := I1.hok.fresh hsz
  have hq := q1 (hp.objs.size + 1) hn
  have kk : ∀ b o, hp.get? b = some o → ((hp.push (PySem.W.kdv_tup us)).push (PySem.HandSPX.excO C hp.objs.size)).get? b = some o := fun b o e => Heap.get?_push_of_some _ (Heap.get?_push_of_some _ e)
  have hget : ((hp.push (PySem.W.kdv_tup us)).push (PySem.HandSPX.excO C hp.objs.size)).get? (hp.objs.size + 1) = some (PySem.HandSPX.excO C hp.objs.size) := by heap_get
  have I2 : Inv X pins σ (upd H1 (hp.objs.size + 1) (exo (hp.objs.size + 1) C none)) ⟨(hp.push (PySem.W.kdv_tup us)).push (PySem.HandSPX.excO C hp.objs.size), g, dr, tk, os⟩ :=
    I1.laid (t' := tk) (a := hp.objs.size + 1) (o := exo (hp.objs.size + 1) C none) (h' := (hp.push (PySem.W.kdv_tup us)).push (PySem.HandSPX.excO C hp.objs.size)) kk hsz (exo_ok hget)
  have r2 : Vals (V.ref (hp.objs.size + 1) :: (vs ++ dvs)) (Value.ref (hp.objs.size + 1) :: (us ++ ds)) := .cons rfl (r1.append hd)
  have hl : (Value.ref (hp.objs.size + 1) :: us ++ ds).length = ps.length := by
    have e := r2.length
    rw [F1.len _ _ _ _ hq] at e
    exact e.symm
  have hus : us.length ≤ sizeLine := by
    rw [← Paired.length r1, sizeLine_eq]
    omega
  refine wpAny_call (PySem.HandSPX.call_own F.excBase_ValueError (fun Y => PySem.HandSPX.refsVE_contains Y bm hbm) (I1.kIn _ _ hC) (PySem.W.looks_findIn I1.kIn iC) (fun self => PySem.W.bind_fn I1.kIn self tI) hus
    (codeAny_mono (F1.run _ X.stack _ _ ⟨Value.ref (hp.objs.size + 1) :: us, []⟩ (Value.ref (hp.objs.size + 1) :: (us ++ ds)) _ _ (fun _ _ _ => False) (hr.make C us []) (I2.env0.make C us []) (hb _ (Value.ref (hp.objs.size + 1) :: us) I2.kIn hl) r2 hq) fun r s' hq' => ?_))
  cases r with
  | error er => exact hx pins σ _ _ er s' I2 hq'
  | ok fl =>
    cases fl with
    | ret u =>
      obtain ⟨v, H2, J, rv, ev, q2⟩ := I2.after hq'
      subst ev
      exact ⟨rv, V.ref (hp.objs.size + 1), H2, J, rfl, q2⟩
    | next => exact False.elim hq'
    | brk => exact False.elim hq'
    | cont => exact False.elim hq'
end
def topS (i : Nat) : Stmt := PySem.Challenge.pw_sillwatch_k29_buffers_and_regions_bounds.main.body.getD i (.Pass ⟨0, 0, 0, 0⟩)
abbrev s_number_at : Stmt := topS 18
abbrev s_rectangle_region : Stmt := topS 27
abbrev s_united : Stmt := topS 28
abbrev s_without : Stmt := topS 29
abbrev s_rectangles : Stmt := topS 30
abbrev s__either : Stmt := topS 31
abbrev s__first_alone : Stmt := topS 32
abbrev s__combined : Stmt := topS 33
abbrev s__combined_spans : Stmt := topS 34
abbrev s__spans_of : Stmt := topS 35
abbrev s__pieces : Stmt := topS 36
abbrev s__first_ending_behind : Stmt := topS 37
abbrev s__row_from : Stmt := topS 38
abbrev s__joined : Stmt := topS 39
abbrev s_clear_picture : Stmt := topS 43
abbrev s__is_near : Stmt := topS 53
abbrev s__law_cell : Stmt := topS 69
abbrev s__law_row : Stmt := topS 70
abbrev s__law_ask : Stmt := topS 71
abbrev s__law_buffers : Stmt := topS 72
abbrev s__law_regions : Stmt := topS 73
abbrev s_law : Stmt := topS 74
abbrev s_Fault___init__ : Stmt := inClass (topS 5) 0
abbrev s_Picture___init__ : Stmt := inClass (topS 42) 0
abbrev s_Buffers___init__ : Stmt := inClass (topS 52) 0
abbrev s_Buffers_serve : Stmt := inClass (topS 52) 1
abbrev s_Buffers_pixel_count : Stmt := inClass (topS 52) 2
abbrev s_Buffers_picture_of : Stmt := inClass (topS 52) 3
abbrev s_Buffers_region_of : Stmt := inClass (topS 52) 4
abbrev s_Buffers__make_buffer : Stmt := inClass (topS 52) 5
abbrev s_Buffers__serve_buffer : Stmt := inClass (topS 52) 6
abbrev s_Buffers__write : Stmt := inClass (topS 52) 7
abbrev s_Buffers__fill : Stmt := inClass (topS 52) 8
abbrev s_Buffers__make_region : Stmt := inClass (topS 52) 9
abbrev s_Buffers__serve_region : Stmt := inClass (topS 52) 10
abbrev s_Buffers__changed_region : Stmt := inClass (topS 52) 11
abbrev s_Reply___init__ : Stmt := inClass (topS 65) 0
abbrev s_Request___init__ : Stmt := inClass (topS 67) 0
structure Adr where
  fnumber_at : Addr
  dnumber_at : FuncData
  frectangle_region : Addr
  drectangle_region : FuncData
  funited : Addr
  dunited : FuncData
  fwithout : Addr
  dwithout : FuncData
  frectangles : Addr
  drectangles : FuncData
  f_either : Addr
  d_either : FuncData
  f_first_alone : Addr
  d_first_alone : FuncData
  f_combined : Addr
  d_combined : FuncData
  f_combined_spans : Addr
  d_combined_spans : FuncData
  f_spans_of : Addr
  d_spans_of : FuncData
  f_pieces : Addr
  d_pieces : FuncData
  f_first_ending_behind : Addr
  d_first_ending_behind : FuncData
  f_row_from : Addr
  d_row_from : FuncData
  f_joined : Addr
  d_joined : FuncData
  fclear_picture : Addr
  dclear_picture : FuncData
  f_is_near : Addr
  d_is_near : FuncData
  f_law_cell : Addr
  d_law_cell : FuncData
  f_law_row : Addr
  d_law_row : FuncData
  f_law_ask : Addr
  d_law_ask : FuncData
  f_law_buffers : Addr
  d_law_buffers : FuncData
  f_law_regions : Addr
  d_law_regions : FuncData
  flaw : Addr
  dlaw : FuncData
  fFault___init__ : Addr
  dFault___init__ : FuncData
  fPicture___init__ : Addr
  dPicture___init__ : FuncData
  fBuffers___init__ : Addr
  dBuffers___init__ : FuncData
  fBuffers_serve : Addr
  dBuffers_serve : FuncData
  fBuffers_pixel_count : Addr
  dBuffers_pixel_count : FuncData
  fBuffers_picture_of : Addr
  dBuffers_picture_of : FuncData
  fBuffers_region_of : Addr
  dBuffers_region_of : FuncData
  fBuffers__make_buffer : Addr
  dBuffers__make_buffer : FuncData
  fBuffers__serve_buffer : Addr
  dBuffers__serve_buffer : FuncData
  fBuffers__write : Addr
  dBuffers__write : FuncData
  fBuffers__fill : Addr
  dBuffers__fill : FuncData
  fBuffers__make_region : Addr
  dBuffers__make_region : FuncData
  fBuffers__serve_region : Addr
  dBuffers__serve_region : FuncData
  fBuffers__changed_region : Addr
  dBuffers__changed_region : FuncData
  fReply___init__ : Addr
  dReply___init__ : FuncData
  fRequest___init__ : Addr
  dRequest___init__ : FuncData
  tCLEAR : Tok
  tMOST_BUFFERS : Tok
  tMOST_PIXELS : Tok
  tLONGEST_SIDE : Tok
  tMOST_REGIONS : Tok
  tFARTHEST_PLACE : Tok
  tLONGEST_STRETCH : Tok
  tMOST_RECTANGLES : Tok
  CPicture : Addr
  CBuffers : Addr
  CReply : Addr
  CRequest : Addr
  CFault : Addr
structure Txt0 (P : Program) (K : PySem.W.Frag) (mg : Str → Option Value) (A : Adr) : Prop where
  prg : Prg P
  Fnumber_at : Fun K "number_at" "number_at" s_number_at A.fnumber_at A.dnumber_at
  bnumber_at : Binds K A.dnumber_at ["octets", "at", "count"] []
  gnumber_at : mg "number_at" = some (.ref A.fnumber_at)
  knumber_at : PySem.W.keepIn K (.ref A.fnumber_at) = true
  Frectangle_region : Fun K "rectangle_region" "rectangle_region" s_rectangle_region A.frectangle_region A.drectangle_region
  brectangle_region : Binds K A.drectangle_region ["x", "y", "width", "height"] []
  grectangle_region : mg "rectangle_region" = some (.ref A.frectangle_region)
  krectangle_region : PySem.W.keepIn K (.ref A.frectangle_region) = true
  Funited : Fun K "united" "united" s_united A.funited A.dunited
  bunited : Binds K A.dunited ["a", "b"] []
  gunited : mg "united" = some (.ref A.funited)
  kunited : PySem.W.keepIn K (.ref A.funited) = true
  Fwithout : Fun K "without" "without" s_without A.fwithout A.dwithout
  bwithout : Binds K A.dwithout ["a", "b"] []
  gwithout : mg "without" = some (.ref A.fwithout)
  kwithout : PySem.W.keepIn K (.ref A.fwithout) = true
  Frectangles : Fun K "rectangles" "rectangles" s_rectangles A.frectangles A.drectangles
  brectangles : Binds K A.drectangles ["region"] []
  grectangles : mg "rectangles" = some (.ref A.frectangles)
  krectangles : PySem.W.keepIn K (.ref A.frectangles) = true
  F_either : Fun K "_either" "_either" s__either A.f_either A.d_either
  b_either : Binds K A.d_either ["first", "second"] []
  g_either : mg "_either" = some (.ref A.f_either)
  k_either : PySem.W.keepIn K (.ref A.f_either) = true
  F_first_alone : Fun K "_first_alone" "_first_alone" s__first_alone A.f_first_alone A.d_first_alone
  b_first_alone : Binds K A.d_first_alone ["first", "second"] []
  g_first_alone : mg "_first_alone" = some (.ref A.f_first_alone)
  k_first_alone : PySem.W.keepIn K (.ref A.f_first_alone) = true
  F_combined : Fun K "_combined" "_combined" s__combined A.f_combined A.d_combined
  b_combined : Binds K A.d_combined ["a", "b", "keeps"] []
  g_combined : mg "_combined" = some (.ref A.f_combined)
  k_combined : PySem.W.keepIn K (.ref A.f_combined) = true
  F_combined_spans : Fun K "_combined_spans" "_combined_spans" s__combined_spans A.f_combined_spans A.d_combined_spans
  b_combined_spans : Binds K A.d_combined_spans ["a", "b", "keeps"] []
  g_combined_spans : mg "_combined_spans" = some (.ref A.f_combined_spans)
  k_combined_spans : PySem.W.keepIn K (.ref A.f_combined_spans) = true
  F_spans_of : Fun K "_spans_of" "_spans_of" s__spans_of A.f_spans_of A.d_spans_of
  b_spans_of : Binds K A.d_spans_of ["band"] []
  g_spans_of : mg "_spans_of" = some (.ref A.f_spans_of)
  k_spans_of : PySem.W.keepIn K (.ref A.f_spans_of) = true
  F_pieces : Fun K "_pieces" "_pieces" s__pieces A.f_pieces A.d_pieces
  b_pieces : Binds K A.d_pieces ["a", "b"] []
  g_pieces : mg "_pieces" = some (.ref A.f_pieces)
  k_pieces : PySem.W.keepIn K (.ref A.f_pieces) = true
  F_first_ending_behind : Fun K "_first_ending_behind" "_first_ending_behind" s__first_ending_behind A.f_first_ending_behind A.d_first_ending_behind
  b_first_ending_behind : Binds K A.d_first_ending_behind ["rows", "at", "place"] []
  g_first_ending_behind : mg "_first_ending_behind" = some (.ref A.f_first_ending_behind)
  k_first_ending_behind : PySem.W.keepIn K (.ref A.f_first_ending_behind) = true
  F_row_from : Fun K "_row_from" "_row_from" s__row_from A.f_row_from A.d_row_from
  b_row_from : Binds K A.d_row_from ["rows", "at", "place"] []
  g_row_from : mg "_row_from" = some (.ref A.f_row_from)
  k_row_from : PySem.W.keepIn K (.ref A.f_row_from) = true
  F_joined : Fun K "_joined" "_joined" s__joined A.f_joined A.d_joined
  b_joined : Binds K A.d_joined ["bands"] []
  g_joined : mg "_joined" = some (.ref A.f_joined)
  k_joined : PySem.W.keepIn K (.ref A.f_joined) = true
  Fclear_picture : Fun K "clear_picture" "clear_picture" s_clear_picture A.fclear_picture A.dclear_picture
  bclear_picture : Binds K A.dclear_picture ["width", "height"] []
  gclear_picture : mg "clear_picture" = some (.ref A.fclear_picture)
  kclear_picture : PySem.W.keepIn K (.ref A.fclear_picture) = true
  F_is_near : Fun K "_is_near" "_is_near" s__is_near A.f_is_near A.d_is_near
  b_is_near : Binds K A.d_is_near ["place"] []
  g_is_near : mg "_is_near" = some (.ref A.f_is_near)
  k_is_near : PySem.W.keepIn K (.ref A.f_is_near) = true
  F_law_cell : Fun K "_law_cell" "_law_cell" s__law_cell A.f_law_cell A.d_law_cell
  b_law_cell : Binds K A.d_law_cell ["script", "k"] []
  g_law_cell : mg "_law_cell" = some (.ref A.f_law_cell)
  k_law_cell : PySem.W.keepIn K (.ref A.f_law_cell) = true
  F_law_row : Fun K "_law_row" "_law_row" s__law_row A.f_law_row A.d_law_row
  b_law_row : Binds K A.d_law_row ["script", "k"] []
  g_law_row : mg "_law_row" = some (.ref A.f_law_row)
  k_law_row : PySem.W.keepIn K (.ref A.f_law_row) = true
  F_law_ask : Fun K "_law_ask" "_law_ask" s__law_ask A.f_law_ask A.d_law_ask
  b_law_ask : Binds K A.d_law_ask ["buffers", "number", "interface", "name", "arguments", "others"] []
  g_law_ask : mg "_law_ask" = some (.ref A.f_law_ask)
  k_law_ask : PySem.W.keepIn K (.ref A.f_law_ask) = true
  F_law_buffers : Fun K "_law_buffers" "_law_buffers" s__law_buffers A.f_law_buffers A.d_law_buffers
  b_law_buffers : Binds K A.d_law_buffers ["script"] []
  g_law_buffers : mg "_law_buffers" = some (.ref A.f_law_buffers)
  k_law_buffers : PySem.W.keepIn K (.ref A.f_law_buffers) = true
  F_law_regions : Fun K "_law_regions" "_law_regions" s__law_regions A.f_law_regions A.d_law_regions
  b_law_regions : Binds K A.d_law_regions ["script"] []
  g_law_regions : mg "_law_regions" = some (.ref A.f_law_regions)
  k_law_regions : PySem.W.keepIn K (.ref A.f_law_regions) = true
  Flaw : Fun K "law" "law" s_law A.flaw A.dlaw
  blaw : Binds K A.dlaw ["script"] []
  glaw : mg "law" = some (.ref A.flaw)
  klaw : PySem.W.keepIn K (.ref A.flaw) = true
  FFault___init__ : FunSup K "__init__" "Fault.__init__" s_Fault___init__ A.fFault___init__ A.dFault___init__ A.CFault
  bFault___init__ : Binds K A.dFault___init__ ["self", "number", "code", "words"] []
  MFault : PySem.W.findIn K (.ref A.CFault) "__init__" = some (some (.ref A.fFault___init__))
  TFault : PySem.W.typeIn K (.ref A.fFault___init__) = some (.type "function")
  FPicture___init__ : Fun K "__init__" "Picture.__init__" s_Picture___init__ A.fPicture___init__ A.dPicture___init__
  bPicture___init__ : Binds K A.dPicture___init__ ["self", "width", "height", "pixels"] []
  MPicture : Mk K A.CPicture A.fPicture___init__
  FBuffers___init__ : Fun K "__init__" "Buffers.__init__" s_Buffers___init__ A.fBuffers___init__ A.dBuffers___init__
  bBuffers___init__ : Binds K A.dBuffers___init__ ["self"] []
  MBuffers : Mk K A.CBuffers A.fBuffers___init__
  FBuffers_serve : Fun K "serve" "Buffers.serve" s_Buffers_serve A.fBuffers_serve A.dBuffers_serve
  bBuffers_serve : Binds K A.dBuffers_serve ["self", "request", "other_pixels", "reply"] []
  mBuffers_serve : Meth K A.CBuffers "serve" A.fBuffers_serve
  FBuffers_pixel_count : Fun K "pixel_count" "Buffers.pixel_count" s_Buffers_pixel_count A.fBuffers_pixel_count A.dBuffers_pixel_count
  bBuffers_pixel_count : Binds K A.dBuffers_pixel_count ["self"] []
  mBuffers_pixel_count : Meth K A.CBuffers "pixel_count" A.fBuffers_pixel_count
  FBuffers_picture_of : Fun K "picture_of" "Buffers.picture_of" s_Buffers_picture_of A.fBuffers_picture_of A.dBuffers_picture_of
  bBuffers_picture_of : Binds K A.dBuffers_picture_of ["self", "number"] []
  mBuffers_picture_of : Meth K A.CBuffers "picture_of" A.fBuffers_picture_of
  FBuffers_region_of : Fun K "region_of" "Buffers.region_of" s_Buffers_region_of A.fBuffers_region_of A.dBuffers_region_of
  bBuffers_region_of : Binds K A.dBuffers_region_of ["self", "number"] []
  mBuffers_region_of : Meth K A.CBuffers "region_of" A.fBuffers_region_of
  FBuffers__make_buffer : Fun K "_make_buffer" "Buffers._make_buffer" s_Buffers__make_buffer A.fBuffers__make_buffer A.dBuffers__make_buffer
  bBuffers__make_buffer : Binds K A.dBuffers__make_buffer ["self", "request", "other_pixels"] []
  mBuffers__make_buffer : Meth K A.CBuffers "_make_buffer" A.fBuffers__make_buffer
  FBuffers__serve_buffer : Fun K "_serve_buffer" "Buffers._serve_buffer" s_Buffers__serve_buffer A.fBuffers__serve_buffer A.dBuffers__serve_buffer
  bBuffers__serve_buffer : Binds K A.dBuffers__serve_buffer ["self", "request"] []
  mBuffers__serve_buffer : Meth K A.CBuffers "_serve_buffer" A.fBuffers__serve_buffer
  FBuffers__write : Fun K "_write" "Buffers._write" s_Buffers__write A.fBuffers__write A.dBuffers__write
  bBuffers__write : Binds K A.dBuffers__write ["self", "request"] []
  mBuffers__write : Meth K A.CBuffers "_write" A.fBuffers__write
  FBuffers__fill : Fun K "_fill" "Buffers._fill" s_Buffers__fill A.fBuffers__fill A.dBuffers__fill
  bBuffers__fill : Binds K A.dBuffers__fill ["self", "request"] []
  mBuffers__fill : Meth K A.CBuffers "_fill" A.fBuffers__fill
  FBuffers__make_region : Fun K "_make_region" "Buffers._make_region" s_Buffers__make_region A.fBuffers__make_region A.dBuffers__make_region
  bBuffers__make_region : Binds K A.dBuffers__make_region ["self", "request"] []
  mBuffers__make_region : Meth K A.CBuffers "_make_region" A.fBuffers__make_region
  FBuffers__serve_region : Fun K "_serve_region" "Buffers._serve_region" s_Buffers__serve_region A.fBuffers__serve_region A.dBuffers__serve_region
  bBuffers__serve_region : Binds K A.dBuffers__serve_region ["self", "request"] []
  mBuffers__serve_region : Meth K A.CBuffers "_serve_region" A.fBuffers__serve_region
  FBuffers__changed_region : Fun K "_changed_region" "Buffers._changed_region" s_Buffers__changed_region A.fBuffers__changed_region A.dBuffers__changed_region
  bBuffers__changed_region : Binds K A.dBuffers__changed_region ["self", "request"] []
  mBuffers__changed_region : Meth K A.CBuffers "_changed_region" A.fBuffers__changed_region
  FReply___init__ : Fun K "__init__" "Reply.__init__" s_Reply___init__ A.fReply___init__ A.dReply___init__
  bReply___init__ : Binds K A.dReply___init__ ["self"] []
  MReply : Mk K A.CReply A.fReply___init__
  FRequest___init__ : Fun K "__init__" "Request.__init__" s_Request___init__ A.fRequest___init__ A.dRequest___init__
  bRequest___init__ : Binds K A.dRequest___init__ ["self", "number", "interface", "name", "arguments", "ends"] []
  MRequest : Mk K A.CRequest A.fRequest___init__
  abs : mg "abs" = none
  int : mg "int" = none
  len : mg "len" = none
  list : mg "list" = none
  max : mg "max" = none
  min : mg "min" = none
  range : mg "range" = none
  set : mg "set" = none
  sorted : mg "sorted" = none
  sum : mg "sum" = none
  super : mg "super" = none
  tuple : mg "tuple" = none
  zip : mg "zip" = none
  gCLEAR : mg "CLEAR" = some (.int (0) A.tCLEAR)
  gMOST_BUFFERS : mg "MOST_BUFFERS" = some (.int (32) A.tMOST_BUFFERS)
  gMOST_PIXELS : mg "MOST_PIXELS" = some (.int (16384) A.tMOST_PIXELS)
  gLONGEST_SIDE : mg "LONGEST_SIDE" = some (.int (128) A.tLONGEST_SIDE)
  gMOST_REGIONS : mg "MOST_REGIONS" = some (.int (32) A.tMOST_REGIONS)
  gFARTHEST_PLACE : mg "FARTHEST_PLACE" = some (.int (4096) A.tFARTHEST_PLACE)
  gLONGEST_STRETCH : mg "LONGEST_STRETCH" = some (.int (8192) A.tLONGEST_STRETCH)
  gMOST_RECTANGLES : mg "MOST_RECTANGLES" = some (.int (32) A.tMOST_RECTANGLES)
  clPicture : Cls K A.CPicture
  gPicture : mg "Picture" = some (.ref A.CPicture)
  nPicture_width : NoAttr K A.CPicture "width"
  nPicture_height : NoAttr K A.CPicture "height"
  nPicture_pixels : NoAttr K A.CPicture "pixels"
  clBuffers : Cls K A.CBuffers
  gBuffers : mg "Buffers" = some (.ref A.CBuffers)
  nBuffers__pictures : NoAttr K A.CBuffers "_pictures"
  nBuffers__regions : NoAttr K A.CBuffers "_regions"
  clReply : Cls K A.CReply
  gReply : mg "Reply" = some (.ref A.CReply)
  nReply_told : NoAttr K A.CReply "told"
  nReply_ended : NoAttr K A.CReply "ended"
  nReply_wishes : NoAttr K A.CReply "wishes"
  nReply_applied : NoAttr K A.CReply "applied"
  clRequest : Cls K A.CRequest
  gRequest : mg "Request" = some (.ref A.CRequest)
  nRequest_number : NoAttr K A.CRequest "number"
  nRequest_interface : NoAttr K A.CRequest "interface"
  nRequest_name : NoAttr K A.CRequest "name"
  nRequest_arguments : NoAttr K A.CRequest "arguments"
  nRequest_ends : NoAttr K A.CRequest "ends"
  gFault : mg "Fault" = some (.ref A.CFault)
  oFault : OexC K A.CFault
  vFault : SupC K A.CFault A.CFault
  xfFault : XfC K A.CFault
  iXFault : ExcC K A.CFault
  kFault : PySem.W.keepIn K (.ref A.CFault) = true
  nFault_number : PySem.W.findIn K (.ref A.CFault) "number" = some none
  nFault_code : PySem.W.findIn K (.ref A.CFault) "code" = some none
  nFault_words : PySem.W.findIn K (.ref A.CFault) "words" = some none
  bxFault : PySem.W.subIn K (.ref A.CFault) (.type "BaseException") = some true
  txFault : PySem.W.typeIn K (.ref A.CFault) = some (.type "type")
  exFault : PySem.W.exmOne K (.ref A.CFault) (.ref A.CFault) = some true
section
variable {P : Program} {w : World} {K : PySem.W.Frag} {mg : Str → Option Value} {base : Heap} {A : Adr}
/-! ### common: tests, errors, small words -/
theorem exm_self {K : PySem.W.Frag} {S : Addr} (h1 : PySem.W.subIn K (.ref S) (.type "BaseException") = some true) (h2 : PySem.W.isClsIn K S = true) (h3 : PySem.W.typeIn K (.ref S) = some (.type "type")) (h4 : PySem.W.subIn K (.ref S) (.ref S) = some true) :
    PySem.W.exmOne K (.ref S) (.ref S) = some true := by
  have g1 : (PySem.W.subIn K (.ref S) (.type "BaseException") == some true) = true := by rw [h1]; rfl
  have g0 : (PySem.W.clsIn K S).isSome = true := h2
  have g2 : ((PySem.W.clsIn K S).isSome && PySem.W.typeIn K (.ref S) == some (.type "type")) = true := by rw [g0, h3]; rfl
  show (if (PySem.W.subIn K (.ref S) (.type "BaseException") == some true) = true then (if ((PySem.W.clsIn K S).isSome && PySem.W.typeIn K (.ref S) == some (.type "type")) = true then PySem.W.subIn K (.ref S) (.ref S) else none) else none) = some true
  rw [if_pos g1, if_pos g2]
  exact h4
theorem exm_cross {K : PySem.W.Frag} {S R : Addr} {b : Bool} (h1 : PySem.W.subIn K (.ref S) (.type "BaseException") = some true) (h2 : PySem.W.isClsIn K S = true) (h3 : PySem.W.typeIn K (.ref S) = some (.type "type")) (h4 : PySem.W.subIn K (.ref R) (.ref S) = some b) :
    PySem.W.exmOne K (.ref R) (.ref S) = some b := by
  have g1 : (PySem.W.subIn K (.ref S) (.type "BaseException") == some true) = true := by rw [h1]; rfl
  have g0 : (PySem.W.clsIn K S).isSome = true := h2
  have g2 : ((PySem.W.clsIn K S).isSome && PySem.W.typeIn K (.ref S) == some (.type "type")) = true := by rw [g0, h3]; rfl
  show (if (PySem.W.subIn K (.ref S) (.type "BaseException") == some true) = true then (if ((PySem.W.clsIn K S).isSome && PySem.W.typeIn K (.ref S) == some (.type "type")) = true then PySem.W.subIn K (.ref R) (.ref S) else none) else none) = some b
  rw [if_pos g1, if_pos g2]
  exact h4
/-- the law's own promise -/
def sp_law (K : PySem.W.Frag) : Sp := fun vs H Q _ => ∃ (a : Addr) (ns : List Int), vs = [.ref a] ∧ SqL K H a (ns.map V.int) ∧ ns.length ≤ 63 ∧ ∀ H', Q (.bl true) H'
theorem iteP {p A B : Prop} [Decidable p] (h1 : p → A) (h2 : ¬ p → B) : if decide p = true then A else B := by
  by_cases h : p
  · rw [decide_eq_true h]; exact iteT (h1 h)
  · rw [decide_eq_false h]; exact iteF (h2 h)
theorem iteN {p A B : Prop} [Decidable p] (h1 : ¬ p → A) (h2 : p → B) : if (!decide p) = true then A else B := by
  by_cases h : p
  · rw [decide_eq_true h]; exact iteF (h2 h)
  · rw [decide_eq_false h]; exact iteT (h1 h)
theorem iteEq {i j : Int} {A B : Prop} (h1 : i = j → A) (h2 : i ≠ j → B) : if decide (V.int i = V.int j) = true then A else B :=
  iteP (fun h => h1 (V.int.inj h)) (fun h => h2 fun e => h (congrArg V.int e))
theorem iteNe {i j : Int} {A B : Prop} (h1 : i ≠ j → A) (h2 : i = j → B) : if (!decide (V.int i = V.int j)) = true then A else B :=
  iteN (fun h => h1 fun e => h (congrArg V.int e)) (fun h => h2 (V.int.inj h))
theorem if_t {b : Bool} {A B : Prop} (e : b = true) (h : A) : if b = true then A else B := by rw [if_pos e]; exact h
theorem if_f {b : Bool} {A B : Prop} (e : b = false) (h : B) : if b = true then A else B := by rw [e]; exact iteF h
theorem if_b {b : Bool} {A B : Prop} (h1 : b = true → A) (h2 : b = false → B) : if b = true then A else B := by
  cases b with
  | true => exact iteT (h1 rfl)
  | false => exact iteF (h2 rfl)
theorem same_upd {H : Hp} {p : Addr} {o : HO} (h : H p = none) : Same H (upd H p o) := fun b x e => by
  rw [upd_ne (ne_of_none e h)]
  exact e
theorem len_line {n : Nat} (h : n ≤ 100000) : n ≤ sizeLine := Nat.le_trans h (by decide)
theorem lt_line {n : Nat} (h : n < 100000) : n < sizeLine := Nat.lt_of_lt_of_le h (by decide)
local macro_rules | `(tactic| walk_at "rd") => `(tactic| repeat (first
  | refine ⟨_, rfl, ?_⟩
  | refine ⟨_, _, rfl, rfl, ?_⟩
  | refine ⟨rfl, ?_⟩
  | refine Or.inl ⟨_, rfl, ?_⟩
  | refine ⟨(by show (0 : Int) < _; decide), ?_⟩
  | refine ⟨(⟨by decide, by decide⟩ : CDiv _ _), ?_⟩
  | refine ⟨(Or.inl ⟨by decide, by decide⟩ : CMul _ _), ?_⟩
  | refine ⟨(Or.inr ⟨by decide, by decide⟩ : CMul _ _), ?_⟩))
/-! ### data that are compared -/
def Sh (n : Nat) (d : PyData) : Prop := d.canLay0 = true ∧ d.depth ≤ n
theorem Sh.mono {n m : Nat} {d : PyData} (h : Sh n d) (l : n ≤ m) : Sh m d := ⟨h.1, Nat.le_trans h.2 l⟩
theorem sh_all : ∀ {n : Nat} {ds : List PyData}, (∀ d ∈ ds, Sh n d) → PyData.canLayAll0 ds = true ∧ PyData.depthAll ds ≤ n
  | n, [], _ => ⟨by simp [PyData.canLayAll0], by simp [PyData.depthAll]⟩
  | n, d :: ds, h => by
    have h1 := h d List.mem_cons_self
    have h2 := sh_all fun e he => h e (List.mem_cons_of_mem _ he)
    refine ⟨?_, ?_⟩
    · simp only [PyData.canLayAll0, Bool.and_eq_true]; exact ⟨h1.1, h2.1⟩
    · simp only [PyData.depthAll]; exact Nat.max_le.mpr ⟨h1.2, h2.2⟩
theorem sh_list {n : Nat} {ds : List PyData} (h : ∀ d ∈ ds, Sh n d) : Sh (n + 1) (.list ds) := by
  have q := sh_all h
  exact ⟨by simp only [PyData.canLay0]; exact q.1, by simp only [PyData.depth]; exact Nat.succ_le_succ q.2⟩
theorem sh_tuple {n : Nat} {ds : List PyData} (h : ∀ d ∈ ds, Sh n d) : Sh (n + 1) (.tuple ds) := by
  have q := sh_all h
  exact ⟨by simp only [PyData.canLay0]; exact q.1, by simp only [PyData.depth]; exact Nat.succ_le_succ q.2⟩
theorem sh_int (i : Int) : Sh 0 (.int i) := ⟨by simp [PyData.canLay0], by simp [PyData.depth]⟩
theorem sh_bool (i : Bool) : Sh 0 (.bool i) := ⟨by simp [PyData.canLay0], by simp [PyData.depth]⟩
theorem sh_none : Sh 0 .none := ⟨by simp [PyData.canLay0], by simp [PyData.depth]⟩
theorem sh_str {s : Str} (h : PyData.strOk s = true) : Sh 0 (.str s) := ⟨by simp only [PyData.canLay0]; exact h, by simp [PyData.depth]⟩
theorem Sh.shaped {n : Nat} {d : PyData} (h : Sh n d) (l : n ≤ 64 := by decide) : SeqAt.shaped d = true := by
  show (d.canLay0 && decide (d.depth ≤ 64)) = true
  rw [h.1, decide_eq_true (Nat.le_trans h.2 l)]
  rfl
theorem Sh.self {n : Nat} {d : PyData} (h : Sh n d) : PyData.eqv d d = true := SeqAt.eqv_refl d h.1
def pInts (xs : List Int) : PyData := .list (xs.map PyData.int)
theorem sh_ints (xs : List Int) : Sh 1 (pInts xs) := sh_list fun d hd => by
  obtain ⟨i, _, rfl⟩ := List.mem_map.mp hd
  exact sh_int i
theorem dpall_ints {K : PySem.W.Frag} {H : Hp} : ∀ xs : List Int, DpAll K H (xs.map V.int) (xs.map PyData.int)
  | [] => .nil
  | x :: r => .cons (.int x) (dpall_ints r)
theorem dp_ints {K : PySem.W.Frag} {H : Hp} {p : Addr} {xs : List Int} (h : SqL K H p (xs.map V.int)) : Dp K H (.ref p) (pInts xs) := .lst h (dpall_ints xs)
/-! ### views: what is new, what stands -/
structure Ext (V H V' H' : Hp) : Prop where
  vv : Same V V'
  vh : Same V' H'
  hh : Same H H'
  nw : ∀ a, V' a ≠ none → V a ≠ none ∨ H a = none
theorem Ext.refl {V H : Hp} (h : Same V H) : Ext V H V H := ⟨Same.refl V, h, Same.refl H, fun _ h => Or.inl h⟩
theorem Ext.trans {V H V1 H1 V2 H2 : Hp} (a : Ext V H V1 H1) (b : Ext V1 H1 V2 H2) : Ext V H V2 H2 :=
  ⟨a.vv.trans b.vv, b.vh, a.hh.trans b.hh, fun x h => by
    rcases b.nw x h with q | q
    · exact a.nw x q
    · exact Or.inr (a.hh.free q)⟩
theorem none_of_same {V H : Hp} {p : Addr} (s : Same V H) (h : H p = none) : V p = none := s.free h
theorem Ext.new {V H : Hp} {p : Addr} {o : HO} (s : Same V H) (h : H p = none) : Ext V H (upd V p o) (upd H p o) :=
  ⟨same_upd (s.free h), fun b u e => by
    by_cases hb : b = p
    · subst hb; rw [upd_same] at e ⊢; exact e
    · rw [upd_ne hb] at e ⊢; exact s b u e, same_upd h, fun a e => by
    by_cases ha : a = p
    · subst ha; exact Or.inr h
    · rw [upd_ne ha] at e; exact Or.inl e⟩
/-- a new object that the view does not take in -/
theorem Ext.skip {V H : Hp} {p : Addr} {o : HO} (s : Same V H) (h : H p = none) : Ext V H V (upd H p o) :=
  ⟨Same.refl V, s.trans (same_upd h), same_upd h, fun _ e => Or.inl e⟩
theorem Ext.keepOut {V H V' H' : Hp} (x : Ext V H V' H') {D : Addr} (h : V D = none) (hd : H D ≠ none) : V' D = none := by
  cases e : V' D with
  | none => rfl
  | some o =>
    rcases x.nw D (by rw [e]; exact fun z => by cases z) with q | q
    · exact absurd h q
    · exact absurd q hd
/-- an object outside of the view changes -/
theorem Ext.poke {V H V' H' : Hp} (x : Ext V H V' H') {D : Addr} {o : HO} (hd : H D = none) (h : V' D = none) : Ext V H V' (upd H' D o) :=
  ⟨x.vv, fun b u e => by
    have hb : b ≠ D := fun z => by rw [z, h] at e; cases e
    rw [upd_ne hb]; exact x.vh b u e, fun b u e => by
    have hb : b ≠ D := ne_of_none e hd
    rw [upd_ne hb]; exact x.hh b u e, x.nw⟩
/-- the object at D, done, is taken in -/
theorem Ext.take {V H V' H' : Hp} (x : Ext V H V' H') {D : Addr} {o : HO} (hd : H D = none) (h : V' D = none) (e : H' D = some o) : Ext V H (upd V' D o) H' :=
  ⟨x.vv.trans (same_upd h), fun b u q => by
    by_cases hb : b = D
    · subst hb; rw [upd_same] at q; rw [e]; exact q
    · rw [upd_ne hb] at q; exact x.vh b u q, x.hh, fun a q => by
    by_cases ha : a = D
    · subst ha; exact Or.inr hd
    · rw [upd_ne ha] at q; exact x.nw a q⟩
theorem _root_.L2.Same.sqt {K : PySem.W.Frag} {H H' : Hp} {a : Addr} {xs : List V} (e : Same H H') (h : SqT K H a xs) : SqT K H' a xs := by
  rcases h with (h | ⟨o, h⟩) | h
  · exact .inl (.inl (e _ _ h))
  · exact .inl (.inr ⟨o, e _ _ h⟩)
  · exact .inr h
mutual
theorem dp_same {K : PySem.W.Frag} {H H' : Hp} (s : Same H H') : ∀ (d : PyData) (v : V), Dp K H v d → Dp K H' v d
  | .none, _, h => by cases h; exact .non
  | .bool b, _, h => by cases h; exact .bl b
  | .int i, _, h => by cases h; exact .int i
  | .str x, _, h => by cases h; exact .str x
  | .list ds, _, h => by
    cases h with
    | lst q r => exact .lst (s.seq q) (dpall_same s ds _ r)
  | .tuple ds, _, h => by
    cases h with
    | tup q r => exact .tup (s.sqt q) (dpall_same s ds _ r)
  | .dict _, _, h => by cases h
theorem dpall_same {K : PySem.W.Frag} {H H' : Hp} (s : Same H H') : ∀ (ds : List PyData) (vs : List V), DpAll K H vs ds → DpAll K H' vs ds
  | [], _, h => by cases h; exact .nil
  | d :: ds, _, h => by
    cases h with
    | cons q r => exact .cons (dp_same s d _ q) (dpall_same s ds _ r)
end
theorem _root_.L2.Dp.to {K : PySem.W.Frag} {H H' : Hp} {v : V} {d : PyData} (h : Dp K H v d) (s : Same H H') : Dp K H' v d := dp_same s d v h
theorem _root_.L2.DpAll.to {K : PySem.W.Frag} {H H' : Hp} {v : List V} {d : List PyData} (h : DpAll K H v d) (s : Same H H') : DpAll K H' v d := dpall_same s d v h
theorem dpall_len {K : PySem.W.Frag} {H : Hp} : ∀ {vs : List V} {ds : List PyData}, DpAll K H vs ds → vs.length = ds.length
  | _, [], h => by cases h; rfl
  | _, d :: ds, h => by
    cases h with
    | cons q r => exact congrArg (· + 1) (dpall_len r)
theorem dpall_get {K : PySem.W.Frag} {H : Hp} : ∀ {vs : List V} {ds : List PyData} {i : Nat} {v : V}, DpAll K H vs ds → vs[i]? = some v → ∃ d, ds[i]? = some d ∧ Dp K H v d
  | _, [], i, v, h, e => by cases h; cases e
  | _, d :: ds, i, v, h, e => by
    cases h with
    | cons q r =>
      match i, e with
      | 0, e => cases e; exact ⟨d, rfl, q⟩
      | i + 1, e => exact dpall_get (i := i) r e
theorem dpall_get' {K : PySem.W.Frag} {H : Hp} : ∀ {vs : List V} {ds : List PyData} {i : Nat} {d : PyData}, DpAll K H vs ds → ds[i]? = some d → ∃ v, vs[i]? = some v ∧ Dp K H v d
  | _, [], i, d, h, e => by cases e
  | _, d :: ds, i, d', h, e => by
    cases h with
    | cons q r =>
      match i, e with
      | 0, e => cases e; exact ⟨_, rfl, q⟩
      | i + 1, e => exact dpall_get' (i := i) r e
theorem dpall_app {K : PySem.W.Frag} {H : Hp} : ∀ {vs ws : List V} {ds es : List PyData}, DpAll K H vs ds → DpAll K H ws es → DpAll K H (vs ++ ws) (ds ++ es)
  | _, _, [], _, h, g => by cases h; exact g
  | _, _, d :: ds, _, h, g => by
    cases h with
    | cons q r => exact .cons q (dpall_app r g)
theorem dp_list {K : PySem.W.Frag} {H : Hp} {v : V} {ds : List PyData} (h : Dp K H v (.list ds)) : ∃ a xs, v = .ref a ∧ SqL K H a xs ∧ DpAll K H xs ds := by
  cases h with
  | lst q r => exact ⟨_, _, rfl, q, r⟩
theorem dp_tuple {K : PySem.W.Frag} {H : Hp} {v : V} {ds : List PyData} (h : Dp K H v (.tuple ds)) : ∃ a xs, v = .ref a ∧ SqT K H a xs ∧ DpAll K H xs ds := by
  cases h with
  | tup q r => exact ⟨_, _, rfl, q, r⟩
theorem dp_int {K : PySem.W.Frag} {H : Hp} {v : V} {i : Int} (h : Dp K H v (.int i)) : v = .int i := by cases h; rfl
theorem dp_str {K : PySem.W.Frag} {H : Hp} {v : V} {i : Str} (h : Dp K H v (.str i)) : v = .str i := by cases h; rfl
theorem dp_bool {K : PySem.W.Frag} {H : Hp} {v : V} {i : Bool} (h : Dp K H v (.bool i)) : v = .bl i := by cases h; rfl
/-! ### comprehensions over any walk -/
def fm {α : Type} (f : Nat → Option α) (n : Nat) : List α := (List.range n).filterMap f
theorem fm_succ {α : Type} (f : Nat → Option α) (n : Nat) : fm f (n + 1) = fm f n ++ (f n).toList := by
  unfold fm
  rw [List.range_succ, List.filterMap_append]
  congr 1
theorem fm_len {α : Type} (f : Nat → Option α) (n : Nat) : (fm f n).length ≤ n := by
  have h := List.length_filterMap_le f (List.range n)
  rw [List.length_range] at h
  exact h
structure LcInv (K : PySem.W.Frag) (V0 H0 : Hp) (D : Addr) (acc : List PyData) (H : Hp) : Prop where
  ex : ∃ V xs, Ext V0 H0 V H ∧ V D = none ∧ H D = some (.lst xs) ∧ DpAll K V xs acc
theorem LcInv.start {K : PySem.W.Frag} {V0 H0 : Hp} {D : Addr} (s : Same V0 H0) (hD : H0 D = none) : LcInv K V0 H0 D [] (upd H0 D (.lst [])) :=
  ⟨V0, [], Ext.skip s hD, s.free hD, upd_same, .nil⟩
theorem LcInv.done {K : PySem.W.Frag} {V0 H0 H : Hp} {D : Addr} {acc : List PyData} (hD : H0 D = none) (i : LcInv K V0 H0 D acc H) : ∃ U xs, Ext V0 H0 U H ∧ U D = some (.lst xs) ∧ DpAll K U xs acc ∧ Dp K U (.ref D) (.list acc) := by
  obtain ⟨V, xs, x, hv, hd, dp⟩ := i.ex
  exact ⟨_, xs, x.take hD hv hd, upd_same, dp.to (same_upd hv), .lst (SqL.of upd_same) (dp.to (same_upd hv))⟩
/-- one more item -/
theorem LcInv.push {K : PySem.W.Frag} {V0 H0 U H U' H' : Hp} {D : Addr} {acc : List PyData} {xs : List V} {y : V} {d : PyData} (hD : H0 D = none) (x : Ext V0 H0 U H) (hv : U D = none) (hd : H D = some (.lst xs)) (dp : DpAll K U xs acc)
    (x2 : Ext U H U' H') (e : Dp K U' y d) (hl : acc.length < 100000) :
    ∃ acc', H' D = some (.lst acc') ∧ acc'.length < sizeLine ∧ LcInv K V0 H0 D (acc ++ [d]) (upd H' D (.lst (acc' ++ [y]))) := by
  have hv' : U' D = none := x2.keepOut hv (by rw [hd]; exact fun z => by cases z)
  refine ⟨xs, x2.hh _ _ hd, lt_line (by rw [dpall_len dp]; exact hl), U', xs ++ [y], (x.trans x2).poke hD hv', hv', upd_same, dpall_app (dp.to x2.vv) (.cons e .nil)⟩
/-- a comprehension's reading over a walk that leaves the heap as it is: at turn i the item x, then f i: the data of what is put in, or none -/
theorem lc_dp0 {J : It} {n : Nat} {G : Hp → Prop} {Y : Nat → Hp → V → Hp → Prop} (wk : Walk J n G Y) {K : PySem.W.Frag} {V0 H0 : Hp} {D : Addr} {g : TG} {tt : TT} {te : TE} {vs : List Nat} {σ : St} {Qd : Hp → Prop} (f : Nat → Option PyData) (σ0 : St) (hσ : wipe σ vs = σ0) (s0 : Same V0 H0) (hD : H0 D = none) (hn : n < 100000)
    (hG : ∀ H, Same H0 H → G H) (hY : ∀ i H x H', Y i H x H' → H' = H)
    (hs : ∀ i x V H, i < n → Ext V0 H0 V H → Y i H x H → ∀ (Qy : VK) (Qn : Hp → Prop), (∀ d y V' H', f i = some d → Ext V H V' H' → Dp K V' y d → Qy y H') → (f i = none → ∀ V' H', Ext V H V' H' → Qn H') →
      g x σ0 H fun σ2 H2 => wipe σ2 vs = σ0 ∧ tt σ2 H2 fun b H3 => if b = true then te σ2 H3 Qy else Qn H3)
    (hd : ∀ (U H : Hp) (xs : List V), Ext V0 H0 U H → U D = none → H D = some (.lst xs) → DpAll K U xs (fm f n) → Qd H) :
    ∃ W : Nat → Nat → Hp → Prop, (∃ m, W 0 m (upd H0 D (.lst []))) ∧ ∀ i m H, W i m H →
      (J.stop i H ∧ Qd H) ∨ (J.go i H ∧ ∃ Nx : Hp → Prop, (∀ H', Nx H' → ∃ m', m' < m ∧ W (i + 1) m' H') ∧ ∀ x H', J.yld i H x H' → g x (wipe σ vs) H' fun σ2 H2 => wipe σ2 vs = wipe σ vs ∧ tt σ2 H2 fun b H3 =>
        if b = true then te σ2 H3 fun y H4 => ∃ acc, H4 D = some (.lst acc) ∧ acc.length < sizeLine ∧ Nx (upd H4 D (.lst (acc ++ [y]))) else Nx H3) := by
  subst hσ
  refine lc_it wk (fun i H => LcInv K V0 H0 D (fm f i) H) (LcInv.start s0 hD) (fun i H _ p => ?_) (fun i x H H' hi p y => ?_) (fun H p => ?_)
  · obtain ⟨V, xs, x, _⟩ := p.ex
    exact hG H x.hh
  · obtain ⟨V, xs, x0, hv, hdd, dp⟩ := p.ex
    obtain rfl := hY i H x H' y
    refine hs i x V H' hi x0 y _ _ (fun d y' V' H4 e x2 dy => ?_) (fun e V' H4 x2 => ?_)
    · have hl : (fm f i).length < 100000 := Nat.lt_of_le_of_lt (fm_len f i) (Nat.lt_trans hi hn)
      obtain ⟨acc', a1, a2, a3⟩ := LcInv.push hD x0 hv hdd dp x2 dy hl
      refine ⟨acc', a1, a2, ?_⟩
      rw [fm_succ, e]
      exact a3
    · have hv' : V' D = none := x2.keepOut hv (by rw [hdd]; exact fun z => by cases z)
      rw [fm_succ, e]
      show LcInv K V0 H0 D (fm f i ++ []) H4
      rw [List.append_nil]
      exact ⟨V', xs, x0.trans x2, hv', x2.hh _ _ hdd, dp.to x2.vv⟩
  · obtain ⟨U, xs, x, hv, hdd, dp⟩ := p.ex
    exact hd U H xs x hv hdd dp
/-- a comprehension's reading over a walk that leaves the heap as it is: at turn i the item x, then f i: the data of what is put in, or none -/
theorem lc_dp {J : It} {n : Nat} {G : Hp → Prop} {Y : Nat → Hp → V → Hp → Prop} (wk : Walk J n G Y) {K : PySem.W.Frag} {V0 H0 : Hp} {D : Addr} {g : TG} {tt : TT} {te : TE} {vs : List Nat} {σ : St} {Qd : Hp → Prop} (f : Nat → Option PyData) (σ0 : St) (hσ : wipe σ vs = σ0) (s0 : Same V0 H0) (hD : H0 D = none) (hn : n < 100000)
    (hG : ∀ H, Same H0 H → G H) (hY : ∀ i H x H', Y i H x H' → H' = H)
    (hs : ∀ i x V H, i < n → Ext V0 H0 V H → Y i H x H → ∀ (Qy : VK) (Qn : Hp → Prop), (∀ d y V' H', f i = some d → Ext V H V' H' → Dp K V' y d → Qy y H') → (f i = none → ∀ V' H', Ext V H V' H' → Qn H') →
      g x σ0 H fun σ2 H2 => wipe σ2 vs = σ0 ∧ tt σ2 H2 fun b H3 => if b = true then te σ2 H3 Qy else Qn H3)
    (hd : ∀ (U H : Hp) (xs : List V), Ext V0 H0 U H → U D = some (.lst xs) → DpAll K U xs (fm f n) → Dp K U (.ref D) (.list (fm f n)) → Qd H) :
    ∃ W : Nat → Nat → Hp → Prop, (∃ m, W 0 m (upd H0 D (.lst []))) ∧ ∀ i m H, W i m H →
      (J.stop i H ∧ Qd H) ∨ (J.go i H ∧ ∃ Nx : Hp → Prop, (∀ H', Nx H' → ∃ m', m' < m ∧ W (i + 1) m' H') ∧ ∀ x H', J.yld i H x H' → g x (wipe σ vs) H' fun σ2 H2 => wipe σ2 vs = wipe σ vs ∧ tt σ2 H2 fun b H3 =>
        if b = true then te σ2 H3 fun y H4 => ∃ acc, H4 D = some (.lst acc) ∧ acc.length < sizeLine ∧ Nx (upd H4 D (.lst (acc ++ [y]))) else Nx H3) := by
  refine lc_dp0 wk f σ0 hσ s0 hD hn hG hY hs fun U H xs x hv hdd dp => ?_
  exact hd _ H xs (x.take hD hv hdd) upd_same (dp.to (same_upd hv)) (.lst (SqL.of upd_same) (dp.to (same_upd hv)))
theorem fm_map {α β : Type} (f : α → β) : ∀ (xs : List α), fm (fun i => (xs[i]?).map f) xs.length = xs.map f := by
  intro xs
  have h : ∀ n, n ≤ xs.length → fm (fun i => (xs[i]?).map f) n = (xs.take n).map f := by
    intro n
    induction n with
    | zero => intro _; rfl
    | succ n ih =>
      intro hn
      rw [fm_succ, ih (by omega), List.getElem?_eq_getElem (by omega), List.take_succ_eq_append_getElem (by omega), List.map_append]
      rfl
  rw [h _ (Nat.le_refl _), List.take_length]

theorem lc2_outer {J : It} {n : Nat} {G : Hp → Prop} {Y : Nat → Hp → V → Hp → Prop} (wk : Walk J n G Y) {K : PySem.W.Frag} {V0 H0 : Hp} {D : Addr} {g : TG} {vs : List Nat} {σ : St} {body : St → Hp → (Hp → Prop) → Prop} {Qd : Hp → Prop} (F : Nat → List PyData) (σ0 : St) (hσ : wipe σ vs = σ0) (s0 : Same V0 H0) (hD : H0 D = none) (hF : F 0 = [])
    (hG : ∀ H, Same H0 H → G H) (hY : ∀ i H x H', Y i H x H' → H' = H)
    (hs : ∀ i x H, i < n → LcInv K V0 H0 D (F i) H → Y i H x H → ∀ Nx : Hp → Prop, (∀ H', LcInv K V0 H0 D (F (i + 1)) H' → Nx H') → g x σ0 H fun σ2 H2 => wipe σ2 vs = σ0 ∧ body σ2 H2 Nx)
    (hd : ∀ (U H : Hp) (xs : List V), Ext V0 H0 U H → U D = some (.lst xs) → DpAll K U xs (F n) → Dp K U (.ref D) (.list (F n)) → Qd H) :
    ∃ W : Nat → Nat → Hp → Prop, (∃ m, W 0 m (upd H0 D (.lst []))) ∧ ∀ i m H, W i m H →
      (J.stop i H ∧ Qd H) ∨ (J.go i H ∧ ∃ Nx : Hp → Prop, (∀ H', Nx H' → ∃ m', m' < m ∧ W (i + 1) m' H') ∧ ∀ x H', J.yld i H x H' → g x (wipe σ vs) H' fun σ2 H2 => wipe σ2 vs = wipe σ vs ∧ body σ2 H2 Nx) := by
  subst hσ
  refine ⟨fun i m H => m = n - i ∧ i ≤ n ∧ LcInv K V0 H0 D (F i) H, ⟨n, by simp, Nat.zero_le _, by rw [hF]; exact LcInv.start s0 hD⟩, ?_⟩
  rintro i m H ⟨rfl, hi, p⟩
  have sH : Same H0 H := by obtain ⟨_, _, x, _⟩ := p.ex; exact x.hh
  by_cases hlt : i < n
  · refine .inr ⟨wk.goes i H hlt (hG H sH), fun H' => LcInv K V0 H0 D (F (i + 1)) H', fun H' p' => ⟨n - (i + 1), by omega, rfl, hlt, p'⟩, fun x H' y => ?_⟩
    have y' := wk.yields i H x H' hlt (hG H sH) y
    obtain rfl := hY i H x H' y'
    exact hs i x H' hlt p y' _ fun _ h => h
  · have e : i = n := by omega
    subst e
    obtain ⟨U, xs, x, e1, e2, e3⟩ := p.done hD
    exact .inl ⟨wk.stops H (hG H sH), hd U H xs x e1 e2 e3⟩
theorem lc2_inner {J : It} {n : Nat} {G : Hp → Prop} {Y : Nat → Hp → V → Hp → Prop} (wk : Walk J n G Y) {K : PySem.W.Frag} {V0 H0 H4 : Hp} {D : Addr} {acc0 : List PyData} {g : TG} {tt : TT} {te : TE} {vs : List Nat} {σ : St} {Nx : Hp → Prop} (f : Nat → Option PyData) (σ0 : St) (hσ : wipe σ vs = σ0) (hD : H0 D = none)
    (inv : LcInv K V0 H0 D acc0 H4) (hn : acc0.length + n < 100000) (hG : ∀ H, Same H0 H → G H) (hY : ∀ i H x H', Y i H x H' → H' = H)
    (hs : ∀ i x V H, i < n → Ext V0 H0 V H → Y i H x H → ∀ (Qy : VK) (Qn : Hp → Prop), (∀ d y V' H', f i = some d → Ext V H V' H' → Dp K V' y d → Qy y H') → (f i = none → ∀ V' H', Ext V H V' H' → Qn H') →
      g x σ0 H fun σ2 H2 => wipe σ2 vs = σ0 ∧ tt σ2 H2 fun b H3 => if b = true then te σ2 H3 Qy else Qn H3)
    (hd : ∀ H, LcInv K V0 H0 D (acc0 ++ fm f n) H → Nx H) :
    ∃ W : Nat → Nat → Hp → Prop, (∃ m, W 0 m H4) ∧ ∀ i m H, W i m H →
      (J.stop i H ∧ Nx H) ∨ (J.go i H ∧ ∃ Nx1 : Hp → Prop, (∀ H', Nx1 H' → ∃ m', m' < m ∧ W (i + 1) m' H') ∧ ∀ x H', J.yld i H x H' → g x (wipe σ vs) H' fun σ2 H2 => wipe σ2 vs = wipe σ vs ∧ tt σ2 H2 fun b H3 =>
        if b = true then te σ2 H3 fun y H4 => ∃ acc, H4 D = some (.lst acc) ∧ acc.length < sizeLine ∧ Nx1 (upd H4 D (.lst (acc ++ [y]))) else Nx1 H3) := by
  subst hσ
  refine ⟨fun i m H => m = n - i ∧ i ≤ n ∧ LcInv K V0 H0 D (acc0 ++ fm f i) H, ⟨n, by simp, Nat.zero_le _, by rw [show fm f 0 = [] from rfl, List.append_nil]; exact inv⟩, ?_⟩
  rintro i m H ⟨rfl, hi, p⟩
  have sH : Same H0 H := by obtain ⟨_, _, x, _⟩ := p.ex; exact x.hh
  by_cases hlt : i < n
  · refine .inr ⟨wk.goes i H hlt (hG H sH), fun H' => LcInv K V0 H0 D (acc0 ++ fm f (i + 1)) H', fun H' p' => ⟨n - (i + 1), by omega, rfl, hlt, p'⟩, fun x H' y => ?_⟩
    have y' := wk.yields i H x H' hlt (hG H sH) y
    obtain rfl := hY i H x H' y'
    obtain ⟨V, xs, x0, hv, hdd, dp⟩ := p.ex
    refine hs i x V H' hlt x0 y' _ _ (fun d y' V' H4 e x2 dy => ?_) (fun e V' H4 x2 => ?_)
    · have hl : (acc0 ++ fm f i).length < 100000 := by have := fm_len f i; rw [List.length_append]; omega
      obtain ⟨acc', a1, a2, a3⟩ := LcInv.push hD x0 hv hdd dp x2 dy hl
      refine ⟨acc', a1, a2, ?_⟩
      rw [fm_succ, e, ← List.append_assoc]
      exact a3
    · have hv' : V' D = none := x2.keepOut hv (by rw [hdd]; exact fun z => by cases z)
      rw [fm_succ, e]
      show LcInv K V0 H0 D (acc0 ++ (fm f i ++ [])) H4
      rw [List.append_nil]
      exact ⟨V', xs, x0.trans x2, hv', x2.hh _ _ hdd, dp.to x2.vv⟩
  · have e : i = n := by omega
    subst e
    exact .inl ⟨wk.stops H (hG H sH), hd H p⟩
theorem fm_some {α : Type} (f : Nat → α) (n : Nat) : fm (fun i => some (f i)) n = (List.range n).map f := by
  induction n with
  | zero => rfl
  | succ n ih => rw [fm_succ, ih, List.range_succ, List.map_append]; rfl
theorem fl_take' {α : Type} {β : Type} (f : α → List β) : ∀ (xs : List α) (i : Nat) (x : α), xs[i]? = some x → (xs.take (i + 1)).flatMap f = (xs.take i).flatMap f ++ f x := by
  intro xs i x h
  obtain ⟨hi, e⟩ := List.getElem?_eq_some_iff.mp h
  rw [List.take_succ_eq_append_getElem hi, List.flatMap_append, e]
  show _ ++ (f x ++ []) = _
  rw [List.append_nil]
theorem fl_le' {α : Type} {β : Type} (f : α → List β) (xs : List α) (i : Nat) : ((xs.take i).flatMap f).length ≤ (xs.flatMap f).length := by
  have : xs.flatMap f = (xs.take i).flatMap f ++ (xs.drop i).flatMap f := by rw [← List.flatMap_append, List.take_append_drop]
  rw [this, List.length_append]; omega
/-! ### lists of ints, texts -/
theorem tyL {K : PySem.W.Frag} {H : Hp} {a : Addr} {xs : List V} (h : SqL K H a xs) : TyX K H (.ref a) (.type "list") := by
  rcases h with (h | ⟨o, h⟩) | ⟨o, its, n, h, c, _⟩
  · exact .base (.lst h)
  · exact .base (.frz h)
  · exact .kList h c
theorem tyT {K : PySem.W.Frag} {H : Hp} {a : Addr} {xs : List V} (h : SqT K H a xs) : TyX K H (.ref a) (.type "tuple") := by
  rcases h with (h | ⟨o, h⟩) | ⟨o, its, n, h, c, _⟩
  · exact .base (.tup h)
  · exact .fTuple h
  · exact .kTuple h c
theorem dp_intsV {K : PySem.W.Frag} {H : Hp} : ∀ {xs : List V} {is : List Int}, DpAll K H xs (is.map PyData.int) → xs = is.map V.int
  | _, [], r => by cases r; rfl
  | _, i :: is, r => by
    cases r with
    | cons r1 r2 => cases r1; rw [dp_intsV r2]; rfl
theorem dp_intsL {K : PySem.W.Frag} {H : Hp} {a : Addr} {is : List Int} (h : Dp K H (.ref a) (.list (is.map PyData.int))) : SqL K H a (is.map V.int) := by
  obtain ⟨a', xs, e, q, r⟩ := dp_list h
  cases e
  rw [← dp_intsV r]; exact q
theorem dp_strsV {K : PySem.W.Frag} {H : Hp} : ∀ {xs : List V} {is : List Str}, DpAll K H xs (is.map PyData.str) → xs = is.map V.str
  | _, [], r => by cases r; rfl
  | _, i :: is, r => by
    cases r with
    | cons r1 r2 => cases r1; rw [dp_strsV r2]; rfl
theorem dp_boolsV {K : PySem.W.Frag} {H : Hp} : ∀ {xs : List V} {is : List Bool}, DpAll K H xs (is.map PyData.bool) → xs = is.map V.bl
  | _, [], r => by cases r; rfl
  | _, i :: is, r => by
    cases r with
    | cons r1 r2 => cases r1; rw [dp_boolsV r2]; rfl
theorem dp_boolsL {K : PySem.W.Frag} {H : Hp} {a : Addr} {is : List Bool} (h : Dp K H (.ref a) (.list (is.map PyData.bool))) : SqL K H a (is.map V.bl) := by
  obtain ⟨a', xs, e, q, r⟩ := dp_list h
  cases e
  rw [← dp_boolsV r]; exact q
theorem size_eq (z : Str) : z.cps.size = z.cps.toList.length := by simp
theorem cps_at (z : Str) (i : Nat) : z.cps[i]? = z.cps.toList[i]? := by simp
theorem fm_list {α β : Type} (f : α → β) (xs : List α) (n : Nat) (h : n = xs.length) (g : Nat → Option β) (hg : ∀ i x, xs[i]? = some x → g i = some (f x)) : fm g n = xs.map f := by
  subst h
  rw [← fm_map f xs]
  unfold fm
  have : ∀ l : List Nat, (∀ i ∈ l, i < xs.length) → l.filterMap g = l.filterMap fun i => (xs[i]?).map f := by
    intro l
    induction l with
    | nil => intro _; rfl
    | cons i l ih =>
      intro hl
      have hi' := hl i List.mem_cons_self
      rw [List.filterMap_cons, List.filterMap_cons, hg i _ (List.getElem?_eq_getElem hi'), List.getElem?_eq_getElem hi', ih fun j hj => hl j (List.mem_cons_of_mem _ hj)]
      rfl
  exact this _ fun i hi => List.mem_range.mp hi
theorem rep_flat {α : Type} (v : α) : ∀ n : Nat, (List.replicate n [v]).flatten = List.replicate n v
  | 0 => rfl
  | n + 1 => by rw [List.replicate_succ, List.replicate_succ, List.flatten_cons, rep_flat v n]; rfl
/-- a list's object that is tracked, at p, new -/
structure NewL (H H' : Hp) (p : Addr) (xs : List V) : Prop where
  new : H p = none
  same : Same H H'
  at_ : H' p = some (.lst xs)
theorem NewL.ext {U H H' : Hp} {p : Addr} {xs : List V} (n : NewL H H' p xs) (s : Same U H) : Ext U H (upd U p (.lst xs)) H' :=
  ⟨same_upd (s.free n.new), fun b u e => by
    by_cases hb : b = p
    · subst hb; rw [upd_same] at e; rw [n.at_]; exact e
    · rw [upd_ne hb] at e; exact n.same _ _ (s b u e), n.same, fun a e => by
    by_cases ha : a = p
    · subst ha; exact Or.inr n.new
    · rw [upd_ne ha] at e; exact Or.inl e⟩
theorem str_app (x y : Str) : (x ++ y).cps.toList = x.cps.toList ++ y.cps.toList := Array.toList_append
theorem str_len_app (x y : Str) : (x ++ y).length = x.length + y.length := by
  show (x ++ y).cps.size = x.cps.size + y.cps.size
  rw [size_eq, str_app, List.length_append, ← size_eq, ← size_eq]
/-! ### _law_cell, _law_row -/
def lawCell (ns : List Int) (k : Nat) : Int :=
  let c := if 0 < ns.length then ns.getD (k % ns.length) 0 else 0
  if c < 0 then 1 - 2 * c else c
theorem lawCell_nn (ns : List Int) (k : Nat) : 0 ≤ lawCell ns k := by
  unfold lawCell
  simp only
  split <;> omega
def lawOne (c : Int) (k : Nat) : Int := (c * 48271 + (k : Int) * 69621 + 12345) % 2147483647
def lawTwo (o : Int) (k : Nat) : Int := (o * o + 16807 * (k : Int) + 7) % 2147483629
def lawRow (ns : List Int) (k : Nat) : Int :=
  if k < ns.length ∧ 1000000000 ≤ lawCell ns k then lawCell ns k
  else (lawTwo (lawOne (lawCell ns k) k) k * lawTwo (lawOne (lawCell ns k) k) k + lawOne (lawCell ns k) k) % 4294967291 + 4294967296 * (lawOne (lawCell ns k) k + 1)
theorem lawOne_b (c : Int) (k : Nat) : 0 ≤ lawOne c k ∧ lawOne c k < 2147483647 := by unfold lawOne; omega
theorem lawTwo_b (c : Int) (k : Nat) : 0 ≤ lawTwo c k ∧ lawTwo c k < 2147483629 := by
  unfold lawTwo
  generalize c * c + 16807 * (k : Int) + 7 = x
  omega
theorem lawRow_nn (ns : List Int) (k : Nat) : 0 ≤ lawRow ns k := by
  unfold lawRow
  have h1 := lawOne_b (lawCell ns k) k
  split
  · exact lawCell_nn ns k
  · generalize lawTwo (lawOne (lawCell ns k) k) k * lawTwo (lawOne (lawCell ns k) k) k + lawOne (lawCell ns k) k = x
    omega
def sp__law_cell (K : PySem.W.Frag) : Sp := fun vs H Q _ => ∃ (a : Addr) (ns : List Int) (k : Nat), vs = [.ref a, .int (k : Int)] ∧ SqL K H a (ns.map V.int) ∧ Q (.int (lawCell ns k)) H
theorem sc__law_cell : FnScope ["script", "k", "cell"] ["script", "k"] (defScope s__law_cell) := ⟨rfl, rfl, rfl, by decide +kernel, rfl, by decide +kernel, by decide +kernel⟩
theorem ok__law_cell (T : Txt0 P K mg A) : FnOk P w K mg base CX0 1 A.f_law_cell A.d_law_cell ["script", "k"] (sp__law_cell K) := by
  refine T.F_law_cell.ok sc__law_cell (fun vs H Q E h => ?_) (fun cdv Ar outer s H vs Q E hr h => ?_)
  · obtain ⟨a, ns, k, rfl, _⟩ := h
    rfl
  · obtain ⟨a, ns, k, rfl, hS, q⟩ := h
    refine ⟨_, (pss_cons (ps_set (i := 2) sc__law_cell.nd rfl (Or.inl rfl) pe_int)
      (pss_cons (ps_if (pt_cmpR op_gt (pe_callB call_len_seq (by rfl) T.len PySem.boot_len (pa_cons (pv 0) pa_nil)) pe_int (nomark _))
      (pss_one (ps_set (i := 2) sc__law_cell.nd rfl (Or.inl rfl) (pe_ix ix_list (pv 0) (pe_op op_mod (pe_callTy call_int1 (by rfl) T.int (by decide +kernel) (pa_cons (pv 1) pa_nil)) (pe_callB call_len_seq (by rfl) T.len PySem.boot_len (pa_cons (pv 0) pa_nil))) (fun _ _ => rfl))))
      pss_nil)
      (pss_cons (ps_if (pt_cmpR op_lt (pv 2) pe_int (nomark _))
      (pss_one (ps_set (i := 2) sc__law_cell.nd rfl (Or.inl rfl) (pe_op op_sub pe_int (pe_op op_mul pe_int (pv 2)))))
      pss_nil)
      (pss_one (ps_ret (pv 2)))))), ?_⟩
    have two : ∀ (c : Int), (if c < 0 then 1 - 2 * c else c) = lawCell ns k → tSeq (tIfS (tTest (tOp (rI0 fun i j => .bl (decide (i < j))) (tVar 2) (tC (.int 0)))) (tAsg (tOp (rI0 fun i j => .int (i - j)) (tC (.int 1)) (tOp (rI CMul fun i j => .int (i * j)) (tC (.int 2)) (tVar 2))) (gName 2)) tNext) (tRet (tVar 2))
        { nx := fun _ H' => Q .non H', rt := Q } [some (.ref a), some (.int (k : Int)), some (.int c)] H := by
      intro c hc
      walk_at "rd"
      refine iteP (fun h => ?_) (fun h => ?_)
      · rw [if_pos h] at hc
        walk_at "rd"
        rw [← hc] at q; exact q
      · rw [if_neg h] at hc
        walk_at "rd"
        rw [← hc] at q; exact q
    refine ⟨.ref a, rfl, a, _, rfl, .inl hS, _, _, rfl, rfl, _, rfl, iteP (fun h => ?_) (fun h => ?_)⟩
    · have h0 : 0 < ns.length := by rw [List.length_map] at h; omega
      refine ⟨_, rfl, _, rfl, Or.inl ⟨_, rfl, ?_⟩⟩
      refine ⟨_, rfl, a, _, rfl, .inl hS, _, _, rfl, rfl, by show (0 : Int) < _; omega, a, _, _, .int (ns.getD (k % ns.length) 0), rfl, rfl, hS, ?_, ?_⟩
      · refine at_of (j := k % ns.length) ?_ ?_
        · rw [List.length_map]; exact (Int.natCast_emod _ _).symm
        · rw [List.getElem?_map, List.getElem?_eq_getElem (Nat.mod_lt _ h0), List.getD_eq_getElem?_getD, List.getElem?_eq_getElem (Nat.mod_lt _ h0)]; rfl
      · refine two _ ?_
        unfold lawCell; rw [if_pos h0]
    · have h0 : ¬ 0 < ns.length := by rw [List.length_map] at h; omega
      refine two _ ?_
      unfold lawCell; rw [if_neg h0]
def sp__law_row (K : PySem.W.Frag) : Sp := fun vs H Q _ => ∃ (a : Addr) (ns : List Int) (k : Nat), vs = [.ref a, .int (k : Int)] ∧ SqL K H a (ns.map V.int) ∧ Q (.int (lawRow ns k)) H
theorem sc__law_row : FnScope ["script", "k", "cell", "one", "two"] ["script", "k"] (defScope s__law_row) := ⟨rfl, rfl, rfl, by decide +kernel, rfl, by decide +kernel, by decide +kernel⟩
theorem ok__law_row (T : Txt0 P K mg A) : FnOk P w K mg base CX0 2 A.f_law_row A.d_law_row ["script", "k"] (sp__law_row K) := by
  refine T.F_law_row.ok sc__law_row (fun vs H Q E h => ?_) (fun cdv Ar outer s H vs Q E hr h => ?_)
  · obtain ⟨a, ns, k, rfl, _⟩ := h
    rfl
  · obtain ⟨a, ns, k, rfl, hS, q⟩ := h
    refine ⟨_, (pss_cons (ps_set (i := 2) sc__law_row.nd rfl (Or.inl rfl) (pe_call (ok__law_cell T) (hr.mono (by decide)) rfl T.g_law_cell T.k_law_cell T.b_law_cell .nil pass0 (pa_cons (pv 0) (pa_cons (pv 1) pa_nil))))
      (pss_cons (ps_if (PW.pt (pw_and (pt_cmpR op_lt (pv 1) (pe_callB call_len_seq (by rfl) T.len PySem.boot_len (pa_cons (pv 0) pa_nil)) (nomark _)) (pw_and1 (pt_cmpR op_ge (pv 2) pe_int (nomark _)))))
      (pss_one (ps_ret (pv 2)))
      pss_nil)
      (pss_cons (ps_set (i := 3) sc__law_row.nd rfl (Or.inl rfl) (pe_op op_mod (pe_callTy call_int1 (by rfl) T.int (by decide +kernel) (pa_cons (pe_op op_add (pe_op op_add (pe_op op_mul (pv 2) pe_int) (pe_op op_mul (pv 1) pe_int)) pe_int) pa_nil)) pe_int))
      (pss_cons (ps_set (i := 4) sc__law_row.nd rfl (Or.inl rfl) (pe_op op_mod (pe_callTy call_int1 (by rfl) T.int (by decide +kernel) (pa_cons (pe_op op_add (pe_op op_add (pe_op op_mul (pv 3) (pv 3)) (pe_op op_mul pe_int (pv 1))) pe_int) pa_nil)) pe_int))
      (pss_one (ps_ret (pe_op op_add (pe_op op_mod (pe_callTy call_int1 (by rfl) T.int (by decide +kernel) (pa_cons (pe_op op_add (pe_op op_mul (pv 4) (pv 4)) (pv 3)) pa_nil)) pe_int) (pe_op op_mul pe_int (pe_op op_add (pv 3) pe_int))))))))), ?_⟩
    have b1 := lawOne_b (lawCell ns k) k
    have b2 := lawTwo_b (lawOne (lawCell ns k) k) k
    have m1 : CMul (lawOne (lawCell ns k) k) (lawOne (lawCell ns k) k) := Or.inl ⟨by omega, by omega⟩
    have m2 : CMul (lawTwo (lawOne (lawCell ns k) k) k) (lawTwo (lawOne (lawCell ns k) k) k) := Or.inl ⟨by omega, by omega⟩
    refine ⟨_, rfl, _, rfl, a, ns, k, rfl, hS, ?_⟩
    refine ⟨_, rfl, _, rfl, a, _, rfl, .inl hS, _, _, rfl, rfl, _, rfl, ?_⟩
    refine iteP (fun h => ?_) (fun h => ?_)
    · refine ⟨_, rfl, _, _, rfl, rfl, _, rfl, iteP (fun h2 => ?_) (fun h2 => ?_)⟩
      · have e : lawRow ns k = lawCell ns k := by unfold lawRow; rw [if_pos ⟨by rw [List.length_map] at h; omega, h2⟩]
        rw [e] at q
        exact ⟨_, rfl, q⟩
      · unfold lawRow at q
        rw [if_neg fun z => h2 z.2] at q
        walk_at "rd"
        refine ⟨m1, ?_⟩
        walk_at "rd"
        refine ⟨m2, ?_⟩
        walk_at "rd"
        exact q
    · unfold lawRow at q
      rw [if_neg fun z => h (by rw [List.length_map]; omega)] at q
      walk_at "rd"
      refine ⟨m1, ?_⟩
      walk_at "rd"
      refine ⟨m2, ?_⟩
      walk_at "rd"
      exact q
/-! ### a word that goes on by itself -/
theorem iteVP {p A B : Prop} [Decidable p] (h1 : p → A) (h2 : ¬ p → B) : if p then A else B := by
  by_cases h : p
  · rw [if_pos h]; exact h1 h
  · rw [if_neg h]; exact h2 h
/-- a new tuple is handed back -/
def RetT (H : Hp) (Q : VK) (xs : List V) : Prop := ∀ p H', Same H H' → H' p = some (.tup xs) → Q (.ref p) H'
theorem RetT.go {H : Hp} {Q : VK} {xs : List V} (h : ∀ p H', Same H H' → H' p = some (.tup xs) → Q (.ref p) H') : RetT H Q xs := h
theorem ne_self {d e : PyData} {A B : Prop} (hs : SeqAt.shaped d = true) (h : d = e) (hB : B) : if (!PyData.eqv d e) = true then A else B := by
  subst h
  have h2 : (d.canLay0 && decide (d.depth ≤ 64)) = true := hs
  have : PyData.eqv d d = true := SeqAt.eqv_refl d (by rw [Bool.and_eq_true] at h2; exact h2.1)
  rw [this]
  exact iteF hB
theorem eq_self {d e : PyData} {A B : Prop} (hs : SeqAt.shaped d = true) (h : d = e) (hA : A) : if PyData.eqv d e = true then A else B := by
  subst h
  have h2 : (d.canLay0 && decide (d.depth ≤ 64)) = true := hs
  have : PyData.eqv d d = true := SeqAt.eqv_refl d (by rw [Bool.and_eq_true] at h2; exact h2.1)
  rw [this]
  exact iteT hA
theorem t_ne {K : PySem.W.Frag} {x y : V} {H : Hp} {Q : VK} {d e : PyData} (h1 : Dp K H x d) (h2 : Dp K H y e) (s1 : SeqAt.shaped d = true) (s2 : SeqAt.shaped e = true) (q : Q (.bl (!PyData.eqv d e)) H) : rNeD K x y H Q := ⟨d, e, h1, h2, s1, s2, q⟩
theorem t_eq {K : PySem.W.Frag} {x y : V} {H : Hp} {Q : VK} {d e : PyData} (h1 : Dp K H x d) (h2 : Dp K H y e) (s1 : SeqAt.shaped d = true) (s2 : SeqAt.shaped e = true) (q : Q (.bl (PyData.eqv d e)) H) : rEqD K x y H Q := ⟨d, e, h1, h2, s1, s2, q⟩
/-! words that go on by themselves -/
local macro_rules | `(tactic| walk_at "sq") => `(tactic| first
  | exact SqT.of upd_same
  | exact SqL.of upd_same
  | assumption
  | exact SqT.of (by assumption)
  | exact SqL.of (by assumption)
  | (apply Same.sqt (same_upd (by assumption)); walk_at "sq")
  | (apply Same.seq (same_upd (by assumption)); walk_at "sq")
  | (apply Same.sqt (by assumption); walk_at "sq")
  | (apply Same.seq (by assumption); walk_at "sq"))
local macro_rules | `(tactic| walk_at "sm") => `(tactic| first
  | exact Same.refl _
  | assumption
  | (apply Same.trans _ (same_upd (by assumption)); walk_at "sm")
  | (apply Same.trans _ (by assumption); walk_at "sm"))
local macro_rules | `(tactic| walk_at "at") => `(tactic| first
  | exact atI_nat (j := 0) rfl
  | exact atI_nat (j := 1) rfl
  | exact atI_nat (j := 2) rfl
  | exact atI_nat (j := 3) rfl
  | exact atI_nat (j := 4) rfl
  | exact atI_nat (j := 5) rfl)
local macro_rules | `(tactic| walk_at "go1") => `(tactic| first
  | refine ⟨_, rfl, ?_⟩
  | refine ⟨_, _, rfl, rfl, ?_⟩
  | refine ⟨rfl, ?_⟩
  | refine Or.inl ⟨_, rfl, ?_⟩
  | refine ⟨(by show (0 : Int) < _; decide), ?_⟩
  | refine ⟨(⟨by decide, by decide⟩ : CDiv _ _), ?_⟩
  | refine ⟨(Or.inl ⟨by decide, by decide⟩ : CMul _ _), ?_⟩
  | refine ⟨(Or.inr ⟨by decide, by decide⟩ : CMul _ _), ?_⟩
  | refine ⟨_, _, rfl, ?_⟩
  | refine ⟨_, _, _, rfl, ?_⟩
  | refine ⟨_, _, _, _, rfl, ?_⟩
  | (refine And.intro (a := (0 : Int) ≤ _) ?_ ?_; focus omega)
  | (refine And.intro (a := _ ≤ sizeLine) ?_ (fun p hp => ?_); (focus (exact len_line (Nat.le_of_ble_eq_true rfl))))
  | refine RetT.go (fun p H' s e => ?_)
  | refine if_t rfl ?_
  | refine if_f rfl ?_
  | refine ⟨_, _, rfl, (by walk_at "sq"), rfl, ?_⟩
  | refine ⟨_, _, rfl, Or.inl (by walk_at "sq"), ?_⟩
  | refine ⟨_, _, rfl, Or.inr (by walk_at "sq"), ?_⟩
  | refine ⟨_, _, _, _, rfl, rfl, (by walk_at "sq"), (by walk_at "at"), ?_⟩
  | refine ⟨_, _, rfl, (by walk_at "sq"), (by show ¬(HT.sIx 4 0 (some 2) = 0 ∧ HT.sIx 4 4 none = 4); decide), fun p hp => ?_⟩
  | refine ⟨_, _, _, _, rfl, rfl, (by walk_at "sq"), (by walk_at "sq"), (by intro h; cases h), len_line (Nat.le_of_ble_eq_true rfl), (fun h => by cases h), fun _ p hp => ?_⟩)
local macro_rules | `(tactic| walk_at "go") => `(tactic| repeat walk_at "go1")
local macro_rules | `(tactic| walk_at "dps") => `(tactic| first
  | exact DpAll.nil
  | (apply DpAll.cons; (focus (walk_at "dp")); (focus (walk_at "dps"))))
local macro_rules | `(tactic| walk_at "dp") => `(tactic| first
  | exact Dp.int _
  | exact Dp.bl _
  | exact Dp.str _
  | exact Dp.non
  | (apply Dp.tup; (focus (walk_at "sq")); (focus (walk_at "dps")))
  | (apply Dp.lst; (focus (walk_at "sq")); (focus (walk_at "dps"))))
local macro_rules | `(tactic| walk_at "sh") => `(tactic| (show (PyData.canLay0 _ && decide (PyData.depth _ ≤ 64)) = true; simp [PyData.canLay0, PyData.canLayAll0, PyData.depth, PyData.depthAll]))
/-- a deep comparison: what is left is the if -/
local macro_rules | `(tactic| walk_at "ne") => `(tactic| (apply t_ne; (focus (walk_at "dp")); (focus (walk_at "dp")); (focus (walk_at "sh")); (focus (walk_at "sh")); refine ⟨_, rfl, ?_⟩))
local macro_rules | `(tactic| walk_at "neS") => `(tactic| (walk_at "ne"; refine ne_self ?_ ?_ ?_; (focus (walk_at "sh"))))
/-! ### fields of instances whose class is known; words that go on by themselves -/
section
open PySem PySem.Spec PyProof.Rows
def tFldC (C : Addr) (ta : TE) (f : Str) : TE := fun σ H Q => ta σ H fun x H1 => ∃ a dx fs v, x = .ref a ∧ H1 a = some (.ins C dx fs) ∧ fs.lookup f = some v ∧ Q v H1
theorem pe_fldC {X : Cx} {e : Expr} {f : Str} {pos : Pos} {ta : TE} {C : Addr} (c : Cls X.K C) (n : NoAttr X.K C f) (he : PE X e ta) (hb : attributeBase e f X.env (eval e X.env) = eval e X.env) : PE X (.Attribute e f pos) (tFldC C ta f) := by
  refine ⟨fun pins s σ H Q I h => ?_⟩
  refine attr_of hb (thn (he.run pins s σ H _ I h) fun u s1 ⟨x, H1, I1, rx, a, dx, fs, v, ex, ea, l, q⟩ => ?_)
  subst ex
  obtain rfl : u = Value.ref a := rx
  exact getattr_ok I1 ea c n l fun u' s2 I2 ru => ⟨v, H1, I2, ru, q⟩
/-- o.f = e: the heap behind it is told by what stands at o, and elsewhere -/
def sFldC (C : Addr) (ta tv : TE) (f : Str) : TS := fun D σ H => tv σ H fun y H1 => ta σ H1 fun x H2 => ∃ a dx fs fs', x = .ref a ∧ H2 a = some (.ins C dx fs) ∧ fs.length < 1000 ∧ putF f y fs = fs' ∧
  ∀ H3 : Hp, H3 a = some (.ins C dx fs') → (∀ b, b ≠ a → H3 b = H2 b) → D.nx σ H3
theorem ps_fldC {X : Cx} {o value : Expr} {f : Str} {pos pos' : Pos} {ta tv : TE} {C : Addr} (c : Cls X.K C) (n : NoAttr X.K C f) (ha : PE X o ta) (hv : PE X value tv) (hs : swapsWith value (some (.Attribute o f pos')) pos.line X.env = pure false) : PS X (.Assign [.Attribute o f pos'] value pos) (sFldC C ta tv f) := by
  refine ⟨fun pins s σ H D I h => ?_⟩
  refine plainObj_wpAny_Assign_Attribute (thn (hv.run pins s σ H _ I h) fun u s1 ⟨y, H1, I1, ry, q⟩ => thn (ha.run pins s1 σ H1 _ I1 q) fun ov s2 ⟨x, H2, I2, rx, a, dx, fs, fs', ex, ea, l, ep, q2⟩ => ?_) hs
  subst ex
  obtain rfl : ov = Value.ref a := rx
  exact setattr_ok I2 ea c n l ry fun s3 I3 => ⟨σ, _, I3, q2 _ (by rw [ep]; exact upd_same) fun b hb => upd_ne hb⟩
end
theorem lk_ne {k k' : Str} {v : V} {r : List (Str × V)} (h : (k == k') = false) : List.lookup k ((k', v) :: r) = List.lookup k r := by rw [List.lookup_cons, h]
theorem pf_nil {f : Str} {v : V} : putF f v [] = [(f, v)] := rfl
theorem pf_eq {f : Str} {v x : V} {r : List (Str × V)} : putF f v ((f, x) :: r) = (f, v) :: r := by
  show (if f = f then _ else _) = _
  rw [if_pos rfl]
theorem pf_ne {f g : Str} {v x : V} {r r' : List (Str × V)} (h : g ≠ f) (e : putF f v r = r') : putF f v ((g, x) :: r) = (g, x) :: r' := by
  show (if g = f then _ else _) = _
  rw [if_neg h, e]
theorem upd_facts {H H2 : Hp} {a : Addr} {o : HO} (h : upd H a o = H2) : H2 a = some o ∧ ∀ b, b ≠ a → H2 b = H b := by
  subst h
  exact ⟨upd_same, fun b hb => upd_ne hb⟩
theorem nn_of {H H' : Hp} (h : ∀ b u, H b = some u → H' b ≠ none) : ∀ b, H' b = none → H b = none := fun b e => by
  cases x : H b with
  | none => rfl
  | some u => exact absurd e (h b u x)
theorem ln_nil {k : Str} : List.lookup k ([] : List (Str × V)) = none := rfl
theorem same_iff {H H' : Hp} : Same H H' ↔ ∀ b, H b ≠ none → H' b = H b :=
  ⟨fun s b h => by
    cases e : H b with
    | none => exact absurd e h
    | some u => exact s b u e, fun s b u e => (s b (by rw [e]; exact fun z => by cases z)).trans e⟩
/-! ### regions -/
abbrev Span := Int × Int
abbrev Band := Int × Int × List Span
def spanD (s : Span) : PyData := .tuple [.int s.1, .int s.2]
def spansD (ss : List Span) : PyData := .tuple (ss.map spanD)
def bandD (b : Band) : PyData := .tuple [.int b.1, .int b.2.1, spansD b.2.2]
def regD (R : List Band) : PyData := .list (R.map bandD)
def hasSq : List Band → Int → Int → Bool
  | [], _, _ => false
  | b :: r, x, y => if b.1 ≤ y ∧ y < b.2.1 then b.2.2.any (fun s => decide (s.1 ≤ x ∧ x < s.2)) else hasSq r x y
def rectReg (x y w h : Int) : List Band := if w ≤ 0 ∨ h ≤ 0 then [] else [(y, y + h, [(x, x + w)])]
theorem dp_span {K : PySem.W.Frag} {H : Hp} {v : V} {s : Span} (h : Dp K H v (spanD s)) : ∃ a, v = .ref a ∧ SqT K H a [.int s.1, .int s.2] := by
  obtain ⟨a, xs, e, q, r⟩ := dp_tuple h
  cases r with | cons r1 r => cases r with | cons r2 r => cases r; cases r1; cases r2; exact ⟨a, e, q⟩
theorem dp_band {K : PySem.W.Frag} {H : Hp} {v : V} {b : Band} (h : Dp K H v (bandD b)) : ∃ a p ss, v = .ref a ∧ SqT K H a [.int b.1, .int b.2.1, .ref p] ∧ SqT K H p ss ∧ DpAll K H ss (b.2.2.map spanD) := by
  obtain ⟨a, xs, e, q, r⟩ := dp_tuple h
  cases r with | cons r1 r => cases r with | cons r2 r => cases r with | cons r3 r =>
    cases r; cases r1; cases r2
    obtain ⟨p, ss, rfl, q2, r4⟩ := dp_tuple r3
    exact ⟨a, p, ss, e, q, q2, r4⟩
theorem mk_span {K : PySem.W.Frag} {H : Hp} {a : Addr} {s : Span} (h : SqT K H a [.int s.1, .int s.2]) : Dp K H (.ref a) (spanD s) := .tup h (.cons (.int _) (.cons (.int _) .nil))
theorem mk_band {K : PySem.W.Frag} {H : Hp} {a p : Addr} {ss : List V} {b : Band} (h : SqT K H a [.int b.1, .int b.2.1, .ref p]) (q : SqT K H p ss) (r : DpAll K H ss (b.2.2.map spanD)) : Dp K H (.ref a) (bandD b) :=
  .tup h (.cons (.int _) (.cons (.int _) (.cons (.tup q r) .nil)))
theorem sh_span (s : Span) : Sh 1 (spanD s) := sh_tuple fun d hd => by
  simp only [List.mem_cons, List.not_mem_nil, or_false] at hd
  rcases hd with rfl | rfl <;> exact sh_int _
theorem sh_spans (ss : List Span) : Sh 2 (spansD ss) := sh_tuple fun d hd => by
  obtain ⟨s, _, rfl⟩ := List.mem_map.mp hd
  exact sh_span s
theorem sh_band (b : Band) : Sh 3 (bandD b) := sh_tuple fun d hd => by
  simp only [List.mem_cons, List.not_mem_nil, or_false] at hd
  rcases hd with rfl | rfl | rfl
  · exact (sh_int _).mono (by decide)
  · exact (sh_int _).mono (by decide)
  · exact (sh_spans _).mono (by decide)
theorem sh_reg (R : List Band) : Sh 4 (regD R) := sh_list fun d hd => by
  obtain ⟨s, _, rfl⟩ := List.mem_map.mp hd
  exact sh_band s
def sp_rectangle_region (K : PySem.W.Frag) : Sp := fun vs H Q _ => ∃ (x y wd ht : Int) (U : Hp), vs = [.int x, .int y, .int wd, .int ht] ∧ Same U H ∧
  ∀ v U' H', Ext U H U' H' → Dp K U' v (regD (rectReg x y wd ht)) → Q v H'
theorem sc_rectangle_region : FnScope ["x", "y", "width", "height"] ["x", "y", "width", "height"] (defScope s_rectangle_region) := ⟨rfl, rfl, rfl, by decide +kernel, rfl, by decide +kernel, by decide +kernel⟩
theorem ok_rectangle_region (T : Txt0 P K mg A) : FnOk P w K mg base CX0 1 A.frectangle_region A.drectangle_region ["x", "y", "width", "height"] (sp_rectangle_region K) := by
  refine T.Frectangle_region.ok sc_rectangle_region (fun vs H Q E h => ?_) (fun cdv Ar outer s H vs Q E hr h => ?_)
  · obtain ⟨x, y, wd, ht, U, rfl, _⟩ := h
    rfl
  · obtain ⟨x, y, wd, ht, U, rfl, hU, q⟩ := h
    refine ⟨_, (pss_cons (ps_if (PW.pt (pw_or (pt_cmpR op_le (pv 2) pe_int (nomark _)) (pw_or1 (pt_cmpR op_le (pv 3) pe_int (nomark _)))))
      (pss_one (ps_ret (pe_lst pa_nil)))
      pss_nil)
      (pss_one (ps_ret (pe_lst (pa_cons (pe_tup (pa_cons (pv 1) (pa_cons (pe_op op_add (pv 1) (pv 3)) (pa_cons (pe_tup (pa_cons (pe_tup (pa_cons (pv 0) (pa_cons (pe_op op_add (pv 0) (pv 2)) pa_nil))) pa_nil)) pa_nil)))) pa_nil))))), ?_⟩
    have empty : (wd ≤ 0 ∨ ht ≤ 0) → ∀ p, H p = none → Q (.ref p) (upd H p (.lst [])) := fun c p hp => by
      refine q _ _ _ (Ext.new hU hp) ?_
      unfold rectReg; rw [if_pos c]
      exact .lst (SqL.of upd_same) .nil
    refine ⟨_, rfl, _, _, rfl, rfl, _, rfl, iteP (fun h => ?_) (fun h => ?_)⟩
    · exact if_t rfl ⟨by decide, empty (Or.inl h)⟩
    · refine ⟨_, rfl, _, _, rfl, rfl, _, rfl, iteP (fun h2 => ?_) (fun h2 => ?_)⟩
      · exact ⟨by decide, empty (Or.inr h2)⟩
      · refine ⟨_, rfl, _, rfl, _, rfl, _, _, rfl, rfl, _, rfl, _, rfl, _, rfl, _, _, rfl, rfl, len_line (by show 2 ≤ 100000; decide), fun p1 n1 => ?_⟩
        refine ⟨len_line (by show 1 ≤ 100000; decide), fun p2 n2 => ⟨len_line (by show 3 ≤ 100000; decide), fun p3 n3 => ⟨len_line (by show 1 ≤ 100000; decide), fun p4 n4 => ?_⟩⟩⟩
        have x1 := Ext.new (o := .tup [.int x, .int (x + wd)]) hU n1
        have x2 := x1.trans (Ext.new (o := .tup [.ref p1]) x1.vh n2)
        have x3 := x2.trans (Ext.new (o := .tup [.int y, .int (y + ht), .ref p2]) x2.vh n3)
        have x4 := x3.trans (Ext.new (o := .lst [.ref p3]) x3.vh n4)
        refine q _ _ _ x4 ?_
        unfold rectReg; rw [if_neg (by omega)]
        have s2 := same_upd (o := .tup [.ref p1]) (none_of_same x1.vh n2)
        have s3 := same_upd (o := .tup [.int y, .int (y + ht), .ref p2]) (none_of_same x2.vh n3)
        have s4 := same_upd (o := .lst [.ref p3]) (none_of_same x3.vh n4)
        refine .lst (SqL.of upd_same) (.cons (.to (mk_band (b := (y, y + ht, [(x, x + wd)])) (ss := [.ref p1]) (SqT.of upd_same) (s3.sqt (SqT.of upd_same)) (.cons ?_ .nil)) s4) .nil)
        exact (mk_span (s := (x, x + wd)) (SqT.of upd_same)).to (s2.trans s3)
theorem hasSq_drop {R : List Band} {i : Nat} {b : Band} {x y : Int} (h : R[i]? = some b) : hasSq (R.drop i) x y = if b.1 ≤ y ∧ y < b.2.1 then b.2.2.any (fun s => decide (s.1 ≤ x ∧ x < s.2)) else hasSq (R.drop (i + 1)) x y := by
  obtain ⟨hi, e⟩ := List.getElem?_eq_some_iff.mp h
  rw [List.drop_eq_getElem_cons hi, e]
  rfl
theorem bls {f : Nat → Option Bool} {n : Nat} {g : Nat → Option PyData} (h : ∀ i, i < n → g i = (f i).map PyData.bool) : fm g n = (fm f n).map PyData.bool := by
  induction n with
  | zero => rfl
  | succ n ih =>
    rw [fm_succ, fm_succ, ih fun i hi => h i (Nat.lt_succ_of_lt hi), h n (Nat.lt_succ_self n), List.map_append]
    cases f n <;> rfl
theorem dp_bools {K : PySem.W.Frag} {H : Hp} {a : Addr} {bs : List Bool} (h : Dp K H (.ref a) (.list (bs.map PyData.bool))) : SqL K H a (bs.map V.bl) := by
  obtain ⟨a', xs, e, q, r⟩ := dp_list h
  cases e
  have : xs = bs.map V.bl := by
    clear h q
    induction bs generalizing xs with
    | nil => cases r; rfl
    | cons b bs ih =>
      cases r with
      | cons r1 r2 => cases r1; rw [ih _ r2]; rfl
  rw [← this]; exact q
def rectsOf (b : Band) : List PyData := b.2.2.map fun s => .tuple [.int s.1, .int b.1, .int (s.2 - s.1), .int (b.2.1 - b.1)]
def rectsD (R : List Band) : PyData := .list (R.flatMap rectsOf)
def sp_rectangles (K : PySem.W.Frag) : Sp := fun vs H Q _ => ∃ (r : V) (R : List Band) (U : Hp), vs = [r] ∧ Same U H ∧ Dp K H r (regD R) ∧ (R.flatMap rectsOf).length < 90000 ∧ R.length < 90000 ∧ 
  ∀ v U' H', Ext U H U' H' → Dp K U' v (rectsD R) → Q v H'
theorem sc_rectangles : FnScope ["region", "top", "bottom", "spans", "begin", "end"] ["region"] (defScope s_rectangles) := ⟨rfl, rfl, rfl, by decide +kernel, rfl, by decide +kernel, by decide +kernel⟩
theorem fl_take {α : Type} {β : Type} (f : α → List β) : ∀ (xs : List α) (i : Nat) (x : α), xs[i]? = some x → (xs.take (i + 1)).flatMap f = (xs.take i).flatMap f ++ f x := by
  intro xs i x h
  obtain ⟨hi, e⟩ := List.getElem?_eq_some_iff.mp h
  rw [List.take_succ_eq_append_getElem hi, List.flatMap_append, e]
  show _ ++ (f x ++ []) = _
  rw [List.append_nil]
theorem fl_le {α : Type} {β : Type} (f : α → List β) (xs : List α) (i : Nat) : ((xs.take i).flatMap f).length ≤ (xs.flatMap f).length := by
  have : xs.flatMap f = (xs.take i).flatMap f ++ (xs.drop i).flatMap f := by rw [← List.flatMap_append, List.take_append_drop]
  rw [this, List.length_append]; omega
theorem ok_rectangles (T : Txt0 P K mg A) : FnOk P w K mg base CX0 1 A.frectangles A.drectangles ["region"] (sp_rectangles K) := by
  refine T.Frectangles.ok sc_rectangles (fun vs H Q E h => ?_) (fun cdv Ar outer s H vs Q E hr h => ?_)
  · obtain ⟨r, R, U, rfl, _⟩ := h
    rfl
  · obtain ⟨r, R, U, rfl, hU, hR, hl, hl2, q⟩ := h
    obtain ⟨a, xs, rfl, hS, hD⟩ := dp_list hR
    refine ⟨_, (pss_one (ps_ret (pe_lc2 (own := [("top", 1), ("bottom", 2), ("spans", 3), ("begin", 4), ("end", 5)]) (g := (gTup K 3 (gCons (gName 1) (gCons (gName 2) (gCons (gName 3) gNil))))) (tt := tYes) (tt1 := tYes) (g1 := (gTup K 2 (gCons (gName 4) (gCons (gName 5) gNil)))) (vs1 := [4, 5]) (wi1 := iTup K (tVar 3)) rfl sc_rectangles.nd (pi_list (pv 0)) (blkOk_by (own := [("top", 1), ("bottom", 2), ("spans", 3), ("begin", 4), ("end", 5)]) (N := ["region", "top", "bottom", "spans", "begin", "end"]) (sc := defScope s_rectangles) (by decide +kernel)) (by decide) (fun _ _ _ _ _ => by exact (pg_tup rfl (pgs_cons (pg_name (i := 1) sc_rectangles.nd rfl (Or.inl rfl)) (pgs_cons (pg_name (i := 2) sc_rectangles.nd rfl (Or.inl rfl)) (pgs_cons (pg_name (i := 3) sc_rectangles.nd rfl (Or.inl rfl)) pgs_nil))))) (fun _ _ _ _ _ => pts_nil) (fun _ _ _ _ _ => by exact (pi_tup (pv 3))) (fun _ _ _ _ _ => by exact (pg_tup rfl (pgs_cons (pg_name (i := 4) sc_rectangles.nd rfl (Or.inl rfl)) (pgs_cons (pg_name (i := 5) sc_rectangles.nd rfl (Or.inl rfl)) pgs_nil)))) (fun _ _ _ _ _ => pts_nil) (fun _ _ _ _ _ => by exact (pe_tup (pa_cons (pv 4) (pa_cons (pv 1) (pa_cons (pe_op op_sub (pv 5) (pv 4)) (pa_cons (pe_op op_sub (pv 2) (pv 1)) pa_nil))))))))), ?_⟩
    refine ⟨_, rfl, a, rfl, ⟨_, hS⟩, fun D hDn => ?_⟩
    have ex : xs.length = R.length := by rw [dpall_len hD, List.length_map]
    refine lc2_outer (K := K) (walk_list (K := K) (a := a) (xs := xs)) (fun i => (R.take i).flatMap rectsOf) [some (.ref a), none, none, none, none, none] rfl hU hDn rfl (fun H' s => s.seq hS) (fun i x H H' y => y.1) ?_ ?_
    · rintro i v H1 hi inv ⟨_, hv⟩ Nx hN
      have s1 : Same H H1 := by obtain ⟨_, _, x, _⟩ := inv.ex; exact x.hh
      obtain ⟨d, hd, dv⟩ := dpall_get hD hv
      rw [List.getElem?_map] at hd
      obtain ⟨b, hb, rfl⟩ := Option.map_eq_some_iff.mp hd
      obtain ⟨ab, p, ss, rfl, qa, qp, qs⟩ := dp_band dv
      refine ⟨ab, _, rfl, s1.sqt qa, rfl, _, _, rfl, _, _, rfl, _, _, rfl, rfl, rfl, _, rfl, p, rfl, ⟨_, s1.sqt qp⟩, ?_⟩
      have hss : ss.length = (rectsOf b).length := by
        unfold rectsOf; rw [dpall_len qs, List.length_map, List.length_map]
      have e1 := fl_take rectsOf R i b hb
      have l1 := fl_le rectsOf R (i + 1)
      rw [e1, List.length_append] at l1
      refine lc2_inner (K := K) (walk_tup (K := K) (a := p) (xs := ss)) (fun j => (rectsOf b)[j]?) [some (.ref a), some (.int b.1), some (.int b.2.1), some (.ref p), none, none] rfl hDn inv (by omega) (fun H' s => s.sqt qp) (fun i x H H' y => y.1) ?_ ?_
      · rintro j v U2 H2 hj xx ⟨_, hv⟩ Qy Qn hy _
        obtain ⟨d, hd, dv⟩ := dpall_get qs hv
        rw [List.getElem?_map] at hd
        obtain ⟨sp, hsp, rfl⟩ := Option.map_eq_some_iff.mp hd
        obtain ⟨as, rfl, qsp⟩ := dp_span dv
        refine ⟨as, _, rfl, xx.hh.sqt qsp, rfl, _, _, rfl, _, _, rfl, rfl, rfl, _, rfl, _, rfl, _, rfl, _, rfl, _, _, rfl, rfl, _, rfl, _, rfl, _, _, rfl, rfl, len_line (by show 4 ≤ 100000; decide), fun pt nt => ?_⟩
        refine hy (.tuple [.int sp.1, .int b.1, .int (sp.2 - sp.1), .int (b.2.1 - b.1)]) _ _ _ ?_ (Ext.new xx.vh nt) (.tup (SqT.of upd_same) (.cons (.int _) (.cons (.int _) (.cons (.int _) (.cons (.int _) .nil)))))
        unfold rectsOf; rw [List.getElem?_map, hsp]; rfl
      · intro H2 inv2
        refine hN H2 ?_
        rw [hss] at inv2
        have e3 : fm (fun j => (rectsOf b)[j]?) (rectsOf b).length = rectsOf b := by
          have := fm_map (fun d : PyData => d) (rectsOf b)
          simpa using this
        rw [e3] at inv2
        rw [e1]; exact inv2
    · intro U1 H1 _ xx _ _ dl
      rw [ex, List.take_length] at dl
      exact q _ _ _ xx dl
/-! ### rows, pieces, merging: the mathematics -/
def inS (ss : List Span) (x : Int) : Bool := ss.any fun s => decide (s.1 ≤ x ∧ x < s.2)
def segs (es : List Int) : List (Int × Int) := es.zip es.tail
theorem segs_cons (a b : Int) (t : List Int) : segs (a :: b :: t) = (a, b) :: segs (b :: t) := rfl
theorem seg_mem : ∀ {es : List Int}, es.Pairwise (· < ·) → ∀ {b e : Int}, (b, e) ∈ segs es → b < e ∧ (∀ z ∈ es, z ≤ b ∨ e ≤ z) ∧ b ∈ es ∧ e ∈ es
  | [], _, _, _, h => by cases h
  | [a], _, _, _, h => by cases h
  | a :: c :: t, hp, b, e, h => by
    rw [segs_cons] at h
    have hp2 := List.pairwise_cons.mp hp
    rcases List.mem_cons.mp h with h | h
    · cases h
      have h1 := hp2.1 c List.mem_cons_self
      refine ⟨h1, fun z hz => ?_, List.mem_cons_self, List.mem_cons_of_mem _ List.mem_cons_self⟩
      rcases List.mem_cons.mp hz with rfl | hz
      · exact .inl (Int.le_refl _)
      · rcases List.mem_cons.mp hz with rfl | hz
        · exact .inr (Int.le_refl _)
        · exact .inr (Int.le_of_lt ((List.pairwise_cons.mp hp2.2).1 z hz))
    · obtain ⟨h1, h2, h3, h4⟩ := seg_mem hp2.2 h
      refine ⟨h1, fun z hz => ?_, List.mem_cons_of_mem _ h3, List.mem_cons_of_mem _ h4⟩
      rcases List.mem_cons.mp hz with rfl | hz
      · exact .inl (Int.le_of_lt (hp2.1 b h3))
      · exact h2 z hz
theorem seg_ex : ∀ {es : List Int} {l h x : Int}, l ∈ es → h ∈ es → l ≤ x → x < h → es.Pairwise (· < ·) → ∃ s ∈ segs es, s.1 ≤ x ∧ x < s.2
  | [], _, _, _, h1, _, _, _, _ => by cases h1
  | [a], l, h, x, h1, h2, h3, h4, _ => by
    cases List.mem_singleton.mp h1; cases List.mem_singleton.mp h2; omega
  | a :: c :: t, l, h, x, h1, h2, h3, h4, hp => by
    rw [segs_cons]
    have hp2 := List.pairwise_cons.mp hp
    have hac := hp2.1 c List.mem_cons_self
    by_cases hx : x < c
    · refine ⟨(a, c), List.mem_cons_self, ?_, hx⟩
      rcases List.mem_cons.mp h1 with rfl | h1
      · exact h3
      · have : c ≤ l := by
          rcases List.mem_cons.mp h1 with rfl | h1
          · exact Int.le_refl _
          · exact Int.le_of_lt ((List.pairwise_cons.mp hp2.2).1 l h1)
        show a ≤ x; omega
    · have hh : h ∈ c :: t := by
        rcases List.mem_cons.mp h2 with rfl | h2
        · omega
        · exact h2
      obtain ⟨s, hs, g⟩ := seg_ex (l := c) (h := h) (x := x) List.mem_cons_self hh (by omega) h4 hp2.2
      exact ⟨s, List.mem_cons_of_mem _ hs, g⟩
section
variable {r : Type} (lo hi : r → Int)
def rowAt (rows : List r) (p : Int) : Option r := rows.find? fun q => decide (lo q ≤ p ∧ p < hi q)
/-- rows one behind the other -/
structure Rows (rows : List r) : Prop where
  pos : ∀ q ∈ rows, lo q < hi q
  ord : rows.Pairwise fun p q => hi p ≤ lo q
variable {lo hi}
theorem rowAt_seg {rows : List r} {es : List Int} (hp : es.Pairwise (· < ·)) (he : ∀ q ∈ rows, lo q ∈ es ∧ hi q ∈ es) {b e x : Int} (hs : (b, e) ∈ segs es) (h1 : b ≤ x) (h2 : x < e) : rowAt lo hi rows x = rowAt lo hi rows b := by
  obtain ⟨_, g, _, _⟩ := seg_mem hp hs
  unfold rowAt
  induction rows with
  | nil => rfl
  | cons q t ih =>
    have e1 : decide (lo q ≤ x ∧ x < hi q) = decide (lo q ≤ b ∧ b < hi q) := by
      have g1 := g _ (he q List.mem_cons_self).1
      have g2 := g _ (he q List.mem_cons_self).2
      congr 1
      refine propext ⟨fun h => ?_, fun h => ?_⟩ <;> omega
    rw [List.find?_cons, List.find?_cons, e1, ih fun q hq => he q (List.mem_cons_of_mem _ hq)]
theorem rowAt_off {rows : List r} {es : List Int} (hp : es.Pairwise (· < ·)) (he : ∀ q ∈ rows, lo q ∈ es ∧ hi q ∈ es) {x : Int} (h : ∀ s ∈ segs es, ¬ (s.1 ≤ x ∧ x < s.2)) : rowAt lo hi rows x = none := by
  unfold rowAt
  refine List.find?_eq_none.mpr fun q hq => ?_
  intro c
  have c := of_decide_eq_true c
  obtain ⟨s, hs, g⟩ := seg_ex (he q hq).1 (he q hq).2 c.1 c.2 hp
  exact h s hs g
/-- the first row at or behind a place -/
theorem rowAt_idx {rows : List r} (R : Rows lo hi rows) {p : Int} {i : Nat} (h1 : ∀ j q, j < i → rows[j]? = some q → hi q ≤ p) (h2 : ∀ q, rows[i]? = some q → p < hi q) :
    rowAt lo hi rows p = (rows[i]?).filter fun q => decide (lo q ≤ p) := by
  unfold rowAt
  induction rows generalizing i with
  | nil => rfl
  | cons q t ih =>
    have R2 : Rows lo hi t := ⟨fun q hq => R.pos q (List.mem_cons_of_mem _ hq), (List.pairwise_cons.mp R.ord).2⟩
    match i with
    | 0 =>
      have g := h2 q rfl
      show List.find? _ _ = (some q).filter _
      rw [List.find?_cons, Option.filter_some]
      by_cases c : lo q ≤ p
      · rw [decide_eq_true ⟨c, g⟩, decide_eq_true c]; rfl
      · rw [decide_eq_false fun z => c z.1, decide_eq_false c]
        refine List.find?_eq_none.mpr fun q2 hq2 => ?_
        have o := (List.pairwise_cons.mp R.ord).1 q2 hq2
        have p1 := R.pos q List.mem_cons_self
        rw [decide_eq_true_eq]; omega
    | i + 1 =>
      have g := h1 0 q (Nat.succ_pos _) rfl
      rw [List.find?_cons, decide_eq_false fun z => by omega]
      exact ih R2 (fun j q hj hq => h1 (j + 1) q (Nat.succ_lt_succ hj) hq) fun q hq => h2 q hq
end
/-! merging -/
section
variable {e : Type} (cond : e → e → Bool) (join : e → e → e)
def mstep (acc : List e) (q : e) : List e := match acc.getLast? with
  | some p => if cond p q = true then acc.dropLast ++ [join p q] else acc ++ [q]
  | none => [q]
def merge (qs : List e) : List e := qs.foldl (mstep cond join) []
theorem merge_snoc (qs : List e) (q : e) : merge cond join (qs ++ [q]) = mstep cond join (merge cond join qs) q := by
  unfold merge; rw [List.foldl_append]; rfl
theorem mstep_last (acc : List e) (p q : e) : mstep cond join (acc ++ [p]) q = if cond p q = true then acc ++ [join p q] else acc ++ [p] ++ [q] := by
  unfold mstep
  rw [List.getLast?_append, List.getLast?_singleton]
  show (if cond p q = true then (acc ++ [p]).dropLast ++ [join p q] else _) = _
  rw [List.dropLast_concat]
theorem last_cases (acc : List e) : acc = [] ∨ ∃ a p, acc = a ++ [p] := by
  rcases List.eq_nil_or_concat acc with h | ⟨a, p, h⟩
  · exact .inl h
  · exact .inr ⟨a, p, by simpa using h⟩
theorem merge_any (cov : e → Bool) (val : e → Prop) (hj : ∀ p q, val p → val q → cond p q = true → val (join p q) ∧ cov (join p q) = (cov p || cov q)) :
    ∀ (n : Nat) (qs : List e), qs.length = n → (∀ q ∈ qs, val q) → (∀ q ∈ merge cond join qs, val q) ∧ (merge cond join qs).any cov = qs.any cov := by
  intro n
  induction n with
  | zero => intro qs h _; cases List.eq_nil_of_length_eq_zero h; exact ⟨fun q hq => (by cases hq), rfl⟩
  | succ n ih =>
    intro qs h hv
    rcases last_cases qs with rfl | ⟨a, q, rfl⟩
    · cases h
    have ha : ∀ z ∈ a, val z := fun z hz => hv z (List.mem_append_left _ hz)
    have hq : val q := hv q (List.mem_append_right _ List.mem_cons_self)
    obtain ⟨i1, i2⟩ := ih a (by rw [List.length_append] at h; simpa using h) ha
    rw [merge_snoc, List.any_append, ← i2]
    generalize merge cond join a = m at i1 i2
    rcases last_cases m with rfl | ⟨b, p, rfl⟩
    · exact ⟨fun z hz => by cases List.mem_singleton.mp hz; exact hq, rfl⟩
    rw [mstep_last]
    have hp : val p := i1 p (List.mem_append_right _ List.mem_cons_self)
    by_cases c : cond p q = true
    · rw [if_pos c]
      obtain ⟨v, cv⟩ := hj p q hp hq c
      refine ⟨fun z hz => ?_, ?_⟩
      · rcases List.mem_append.mp hz with hz | hz
        · exact i1 z (List.mem_append_left _ hz)
        · cases List.mem_singleton.mp hz; exact v
      · simp only [List.any_append, List.any_cons, List.any_nil, Bool.or_false, cv, Bool.or_assoc]
    · rw [if_neg c]
      refine ⟨fun z hz => ?_, ?_⟩
      · rcases List.mem_append.mp hz with hz | hz
        · exact i1 z hz
        · cases List.mem_singleton.mp hz; exact hq
      · rw [List.any_append]
theorem merge_rows {lo hi : e → Int} (hl : ∀ p q, lo (join p q) = lo p) (hh : ∀ p q, hi (join p q) = hi q) :
    ∀ (n : Nat) (qs : List e), qs.length = n → Rows lo hi qs → Rows lo hi (merge cond join qs) ∧ (∀ z ∈ merge cond join qs, ∃ p ∈ qs, ∃ q ∈ qs, lo z = lo p ∧ hi z = hi q) := by
  intro n
  induction n with
  | zero => intro qs h _; cases List.eq_nil_of_length_eq_zero h; exact ⟨⟨fun q hq => (by cases hq), List.Pairwise.nil⟩, fun z hz => (by cases hz)⟩
  | succ n ih =>
    intro qs h R
    rcases last_cases qs with rfl | ⟨a, q, rfl⟩
    · cases h
    have pw := List.pairwise_append.mp R.ord
    have Ra : Rows lo hi a := ⟨fun z hz => R.pos z (List.mem_append_left _ hz), pw.1⟩
    have hq := R.pos q (List.mem_append_right _ List.mem_cons_self)
    have hb : ∀ z ∈ a, hi z ≤ lo q := fun z hz => pw.2.2 z hz q List.mem_cons_self
    obtain ⟨i1, i2⟩ := ih a (by rw [List.length_append] at h; simpa using h) Ra
    rw [merge_snoc]
    have i2' : ∀ z ∈ merge cond join a, ∃ p ∈ a ++ [q], ∃ q' ∈ a ++ [q], lo z = lo p ∧ hi z = hi q' := fun z hz => by
      obtain ⟨p, hp, q', hq', e⟩ := i2 z hz
      exact ⟨p, List.mem_append_left _ hp, q', List.mem_append_left _ hq', e⟩
    have i3 : ∀ z ∈ merge cond join a, hi z ≤ lo q := fun z hz => by
      obtain ⟨p, hp, q', hq', e⟩ := i2 z hz
      rw [e.2]; exact hb q' hq'
    have mq : q ∈ a ++ [q] := List.mem_append_right _ List.mem_cons_self
    generalize merge cond join a = m at i1 i2' i3
    rcases last_cases m with rfl | ⟨b, p, rfl⟩
    · exact ⟨⟨fun z hz => by cases List.mem_singleton.mp hz; exact hq, List.pairwise_singleton _ _⟩, fun z hz => by cases List.mem_singleton.mp hz; exact ⟨q, mq, q, mq, rfl, rfl⟩⟩
    rw [mstep_last]
    have pw2 := List.pairwise_append.mp i1.ord
    have hp := i1.pos p (List.mem_append_right _ List.mem_cons_self)
    have hpq := i3 p (List.mem_append_right _ List.mem_cons_self)
    by_cases c : cond p q = true
    · rw [if_pos c]
      refine ⟨⟨fun z hz => ?_, List.pairwise_append.mpr ⟨pw2.1, List.pairwise_singleton _ _, fun z hz y hy => ?_⟩⟩, fun z hz => ?_⟩
      · rcases List.mem_append.mp hz with hz | hz
        · exact i1.pos z (List.mem_append_left _ hz)
        · cases List.mem_singleton.mp hz; rw [hl, hh]; omega
      · cases List.mem_singleton.mp hy; rw [hl]; exact pw2.2.2 z hz p List.mem_cons_self
      · rcases List.mem_append.mp hz with hz | hz
        · exact i2' z (List.mem_append_left _ hz)
        · cases List.mem_singleton.mp hz
          obtain ⟨p1, hp1, _, _, e1, _⟩ := i2' p (List.mem_append_right _ List.mem_cons_self)
          exact ⟨p1, hp1, q, mq, by rw [hl]; exact e1, by rw [hh]⟩
    · rw [if_neg c]
      refine ⟨⟨fun z hz => ?_, List.pairwise_append.mpr ⟨i1.ord, List.pairwise_singleton _ _, fun z hz y hy => ?_⟩⟩, fun z hz => ?_⟩
      · rcases List.mem_append.mp hz with hz | hz
        · exact i1.pos z hz
        · cases List.mem_singleton.mp hz; exact hq
      · cases List.mem_singleton.mp hy; exact i3 z hz
      · rcases List.mem_append.mp hz with hz | hz
        · exact i2' z hz
        · cases List.mem_singleton.mp hz; exact ⟨q, mq, q, mq, rfl, rfl⟩
end
/-! ### set(xs) of a list of ints, and sorted of it (our own rule; its road is that of the library's rule for tuples) -/
section
open PySem.Spec PyProof.Rows
variable {P : Program} {w : World} {A : Around} {E : Value → Shared → Prop} {s : Shared}
abbrev newS (w : World) : Obj := ⟨.type "set", none, .set #[] 0 (.fresh 0 0 (!w.params.followText "set-order")), #[]⟩
/-- what is known behind the filling -/
def Filled (w : World) (s : Shared) (ns : List Int) (s2 : Shared) : Prop := ∃ (h' : Heap) (tk c : Nat), s2 = { s with heap := h', toks := tk } ∧ SetR w h' s.heap.objs.size (fun j => decide (j ∈ ns)) c ∧ c ≤ ns.length ∧ ∀ b o, s.heap.get? b = some o → h'.get? b = some o
theorem fill_at {items : Array Value} {ns : List Int} (hit : PyProof.Rows.IntsAre items.toList ns) : ∀ (i : Nat) (v : Value), items[i]? = some v → ∃ k t, ns[i]? = some k ∧ v = .int k t := by
  intro i v hv
  have hl : i < items.size := (Array.getElem?_eq_some_iff.mp hv).1
  have e1 : items.toList.length = ns.length := PyProof.Rows.IntsAre.length hit
  have hi : i < ns.length := by rw [← e1, Array.length_toList]; exact hl
  obtain ⟨t, e⟩ := PyProof.Rows.IntsAre.int_at hit i v (by rw [Array.getElem?_toList, hv])
  exact ⟨_, t, List.getElem?_eq_getElem hi, by rw [e, List.getD_eq_getElem?_getD, List.getElem?_eq_getElem hi]; rfl⟩
theorem call_set_listI {l : Addr} {items : Array Value} (ns : List Int) {Q : Value → Shared → Prop} (hh : A.handled = none) (hl : s.heap.IsList l items) (hit : PyProof.Rows.IntsAre items.toList ns) (hb : ns.length + 1 < scanBound)
    (h : ∀ s2, Filled w s ns s2 → Q (.ref s.heap.objs.size) s2) : wpAny (model P w) A (call (.type "set") [.ref l]) Q E s := by
  have n0 : items.size = ns.length := by rw [← Array.length_toList]; exact PyProof.Rows.IntsAre.length hit
  obtain ⟨_, _, _⟩ := F.called_set.mro
  refine wpAny_call (codeAny_of_tree (show wpAny _ _ (callAny (.type "set") _) _ _ _ from wpAny_pure ⟨Code.quiet_builtin _ (by decide +kernel), codeAny_builtin F.entry_type_call (by
    rw [Around.under_plain (weight_type_call_type "set" [.ref l] []) rfl]
    have c1 := F.called_set.made
    have c2 := F.called_set.sub
    have c3 := F.called_set.notType
    have c4 := F.called_set.canCreate
    have c5 := F.typeCall_set_1 (.ref l)
    repeat (any_goals (first | assumption | wp_step))
    refine codeAny_mono (code_set_led1 (E := E) (.ref l) (Q₁ := fun obj s1 => obj = .ref s.heap.objs.size ∧ s1 = { s with heap := s.heap.push (newS w) }) ⟨rfl, rfl⟩) ?_
    intro f s1 hr
    match f, hr with
    | .error e, hr => exact hr
    | .ok (.ret obj), hr =>
      obtain ⟨rfl, rfl⟩ := hr
      have g0 : (s.heap.push (newS w)).get? s.heap.objs.size = some (newS w) := Heap.get?_push_size _ rfl
      have ty : Shared.TypeIs { s with heap := s.heap.push (newS w) } (.ref s.heap.objs.size) "set" := ⟨_, g0, rfl⟩
      have d1 := F.called_set.init.lookup
      have d2 := F.called_set.init.bind (.ref s.heap.objs.size)
      repeat (any_goals (first | assumption | wp_step))
      refine codeAny_mono (codeAny_call_builtin (R := wants (fun r s2 => r = .none ∧ Filled w s ns s2) E) F.called_set.init.plain F.entry_set_init (check_set_init_1 ty ?_)) ?_
      · obtain ⟨⟨c, od, dt, sl⟩, ho, hc, nn, hd⟩ := hl
        cases (show c = _ from hc)
        cases (show dt = _ from hd)
        have ll : l < s.heap.objs.size := Heap.lt_size ho
        have o1 : (s.heap.push (newS w)).get? l = some ⟨.type "list", od, .seq items nn, sl⟩ := Heap.get?_push_of_some _ ho
        have l1 : (s.heap.push (newS w)).IsList l items := ⟨_, o1, rfl, nn, rfl⟩
        have b1 := F.sub_list_set
        have b2 := F.sub_list_frozenset
        have b3 : (Value.type "list" == Value.type "dict") = false := by decide
        unfold Builtin.«set.__init__» noKeywords Builtin.Frozenset.updateFrom
        generalize hPI : pyIter = PI
        wp_walk
        subst hPI
        refine wpAny_pyIter_list l1 (wpAny_bind (wpAny_runValue ?_))
        have sz : (s.heap.push (newS w)).objs.size = s.heap.objs.size + 1 := Heap.size_push ..
        have hh3 : A.in1.in1.in1.handled = none := by simp [hh]
        have fr : s.heap.objs.size ∉ [(s.heap.push (newS w)).objs.size, l] := fun z => by
          rw [sz] at z
          rcases List.mem_cons.mp z with e | e
          · exact absurd e (Nat.ne_of_lt (Nat.lt_succ_self _))
          · exact absurd (List.mem_singleton.mp e) (Nat.ne_of_gt ll)
        have old : ∀ b o, s.heap.get? b = some o → ∀ u : Obj, ((s.heap.push (newS w)).push u).get? b = some o := fun b o e u => Heap.get?_push_of_some _ (Heap.get?_push_of_some _ e)
        refine set_update_ints ((Walks.list hh3 _ l (by rw [sz]; exact Nat.ne_of_lt (Nat.lt_succ_of_lt ll)) items).toS) s.heap.objs.size fr ns n0 hb (fill_at hit) items.size 0 _ rfl (Nat.zero_le _) ⟨⟨_, Heap.get?_push_size _ rfl, rfl, rfl⟩, l1.push _⟩ ⟨0, Nat.le_refl 0, setR_new_at (Heap.get?_push_of_some _ g0)⟩ ?_
        rintro ⟨h', g2, d', tk', os'⟩ c' hm hc' hS'
        cases (show g2 = s.gens from hm.gens)
        cases (show d' = s.drawn from hm.drawn)
        cases (show os' = s.os from hm.os)
        refine wpAny_pure (wpAny_pure ⟨rfl, h', tk', c', rfl, hS', by omega, fun b o e => hm.heap b o ?_ (old b o e _)⟩)
        have hb0 : b < s.heap.objs.size := Heap.lt_size e
        intro z
        rw [sz] at z
        rcases List.mem_cons.mp z with e | e
        · exact absurd e (Nat.ne_of_lt hb0)
        · exact absurd (List.mem_singleton.mp e) (Nat.ne_of_lt (Nat.lt_succ_of_lt hb0))
      · intro f2 s2 hr2
        match f2, hr2 with
        | .error e, hr2 => exact hr2
        | .ok (.ret r), hr2 =>
          obtain ⟨rfl, hf⟩ := hr2
          repeat (any_goals (first | assumption | wp_step))
          exact h _ hf
        | .ok .next, hr2 => exact hr2.elim
        | .ok .brk, hr2 => exact hr2.elim
        | .ok .cont, hr2 => exact hr2.elim
    | .ok .next, hr => exact hr.elim
    | .ok .brk, hr => exact hr.elim
    | .ok .cont, hr => exact hr.elim)⟩))
end
section
open PySem.Spec PyProof.Rows
variable {X : Cx}
theorem nodup_few : ∀ (d m : List Int), d.Nodup → (∀ k, k ∈ d → k ∈ m) → d.length ≤ m.length
  | [], m, _, _ => Nat.zero_le _
  | a :: t, m, hd, hm => by
    have h := List.nodup_cons.mp hd
    have ha := hm a List.mem_cons_self
    have ih := nodup_few t (m.erase a) h.2 fun k hk => (List.mem_erase_of_ne (fun (e : k = a) => h.1 (by rw [← e]; exact hk))).mpr (hm k (List.mem_cons_of_mem _ hk))
    have hl := List.length_erase_of_mem ha
    have hp : 0 < m.length := List.length_pos_of_mem ha
    rw [List.length_cons]
    omega
/-- a set has no more than any list that has all of it -/
theorem setR_few {w : World} {h : Heap} {a : Addr} {ns : List Int} {c : Nat} (R : SetR w h a (fun j => decide (j ∈ ns)) c) : ∀ es : List Int, (∀ k, k ∈ ns → k ∈ es) → c ≤ es.length := by
  obtain ⟨o, es, ep, t, _, _, _, _, hn, hm, _, _, hc, _⟩ := R
  intro xs hx
  have := nodup_few (List.map keyOf es.toList) xs hn fun k hk => hx k (of_decide_eq_true ((hm k).mpr hk))
  rw [List.length_map, Array.length_toList, hc] at this
  exact this
/-- set(xs), xs a list of ints -/
def rSetI (K : PySem.W.Frag) (w : World) : List V → Hp → VK → Prop := fun xs H Q => ∃ (l : Addr) (ns : List Int), xs = [V.ref l] ∧ SqL K H l (ns.map V.int) ∧ ns.length + 1 < scanBound ∧
  ∀ a c, H a = none → c ≤ ns.length → (∀ es : List Int, (∀ k, k ∈ ns → k ∈ es) → c ≤ es.length) → Q (.ref a) (upd H a (SetO w a (fun j => decide (j ∈ ns)) c))
theorem cr_setI (hc : X.calm = true) : CallR X (.type "set") (rSetI X.K X.w) := by
  intro pins s σ H xs us Q I r h
  obtain ⟨l, ns, rfl, hl, hb, q⟩ := h
  rw [Vals.ref1 r]
  obtain ⟨its, rv, pl, hz⟩ := I.list hl
  refine call_set_listI (P := X.prog) (w := X.w) ns (I.ok.hd hc) pl.isList (by simpa using ints_of_vals rv) hb fun s2 ⟨h', tk, c, e, R, hcn, k⟩ => ?_
  subst e
  exact ⟨.ref s.heap.objs.size, _, I.laid (t' := tk) k (Nat.le_refl _) (setO_new R), rfl, q _ c (I.hok.fresh (Nat.le_refl _)) hcn (setR_few R)⟩
end
/-! ### sorted(a set of ints), any number of members (our own rule: the library's sort of ints of any length, with what it tells of a set's walk) -/
section
open PySem PySem.Spec PyProof.Rows
theorem sort_big {P : Program} {w : World} {A : Around} {E : Value → Shared → Prop} {s : Shared} {a : Addr} {S : Int → Bool} {n : Nat} {Q : Value → Shared → Prop} (R : SetR w s.heap a S n) (free : A.handled = none)
    (k : ∀ s2 p c (xs : Array Value) (zs : List Int), (∀ b u, s.heap.get? b = some u → s2.heap.get? b = some u) → s2.gens = s.gens ∧ s2.os = s.os → s.heap.objs.size ≤ p → s2.heap.get? p = some (seqObj "list" xs c) →
      IntsAre xs.toList zs → zs.Pairwise (· < ·) → (∀ j, j ∈ zs ↔ S j = true) → zs.length = n → n < 4096 → Q (.ref p) s2) :
    wpAny (model P w) A (call (.builtin "sorted") [.ref a]) Q E s := by
  obtain ⟨o, es, ep, t, e0, ex, ed, good, once, mem, few, fit, cnt, ris, led⟩ := R
  have few' : es.size < 4096 := few
  refine Calls.call_function_entry kind_sorted plain_sorted entry_sorted (args_sorted1 _) (show wpAny _ _ (checkCount "sorted" 1 1 _ >>= _) _ _ _ from wpAny_bind (wpAny_pure ?_))
  refine wpAny_bind (collect_set (A := A.in1) free ⟨o, e0, ex.1, ed⟩ fit few ris led ?_)
  intro s2 vs old big gs os perm
  have len : vs.length = es.size := by simpa using perm.length_eq
  have are : IntsAre vs (vs.map Builtin.Re.reRawOf) := ints_of vs (by
    intro v hv
    have hv' := perm.mem_iff.mp hv
    rw [List.mem_map] at hv'
    obtain ⟨e, he, rfl⟩ := hv'
    obtain ⟨j, tk, h1, _⟩ := good e he
    exact ⟨j, tk, h1⟩)
  have perm2 : (vs.map Builtin.Re.reRawOf).Perm (es.toList.map keyOf) := by
    have e := perm.map Builtin.Re.reRawOf
    rw [List.map_map] at e
    exact e
  have fits : vs.length ≤ sizeLine := Nat.le_trans (m := 4096) (by omega) (len_line (n := 4096) (by decide))
  refine wpAny_bind (wpAny_newList ?_ fits)
  have new := Heap.get?_push_size s2.heap (o := seqObj "list" vs.toArray 0) rfl
  have done : ∀ (out : Array Value) (zs : List Int), IntsAre out.toList zs → zs.Perm (vs.map Builtin.Re.reRawOf) → zs.Pairwise (· ≤ ·) → Q (.ref s2.heap.objs.size) { s2 with heap := sortedHeap (s2.heap.push (seqObj "list" vs.toArray 0)) s2.heap.objs.size vs out } := by
    intro out zs a1 a2 a3
    obtain ⟨c, hc⟩ := sortedHeap_at (vs := vs) (out := out) new
    have all := a2.trans perm2
    refine k _ _ c out zs (fun b u e => ?_) ⟨gs, os⟩ big hc a1 (lt_of_le_nodup zs a3 (all.nodup_iff.mpr once)) (fun j => by rw [mem j]; exact all.mem_iff) ?_ (by omega)
    · have lt := Heap.lt_size (old b u e)
      have keep : (s2.heap.push (seqObj "list" vs.toArray 0)).get? b = some u := Heap.get?_push_of_some _ (old b u e)
      exact (sortedHeap_old (Nat.ne_of_lt lt) (Heap.lt_size keep)).trans keep
    · rw [all.length_eq, List.length_map, Array.length_toList, cnt]
  exact wpAny_bind (wpAny_holding (wpAny_call_entry slot_list_sort ⟨_, new, rfl⟩ entry_list_sort (SrtO.list_sort_ord SrtO.swo_int new fits (fun two => SrtO.ints_sortable are two) fun out b1 b2 => ⟨_, rfl, wpAny_pure ⟨_, rfl, done out.toArray _ (SrtO.ints_out are b1 b2).1 (SrtO.ints_out are b1 b2).2.1 (SrtO.ints_out are b1 b2).2.2⟩⟩) (args_list_sort _)))
variable {X : Cx}
def rSortB (w : World) : List V → Hp → VK → Prop := fun vs H Q => ∃ (a : Addr) (S : Int → Bool) (n : Nat), vs = [V.ref a] ∧ H a = some (SetO w a S n) ∧
  ∀ (zs : List Int) (p : Addr), zs.Pairwise (· < ·) → (∀ j : Int, j ∈ zs ↔ S j = true) → zs.length = n → H p = none → Q (.ref p) (upd H p (.lst (zs.map V.int)))
theorem cr_sortB (hc : X.calm = true) : CallR X (.builtin "sorted") (rSortB X.w) := by
  intro pins s σ H vs us Q I r h
  obtain ⟨a, S, n, rfl, ha, q⟩ := h
  rw [Vals.ref1 r]
  refine sort_big (setO_get I ha) (I.ok.hd hc) fun s2 p c xs zs old ⟨gs, os⟩ big at_ are up mem cnt few => ?_
  have free : H p = none := I.hok.fresh big
  have room : (zs.map V.int).length ≤ sizeLine := Nat.le_trans (m := 4096) (by rw [List.length_map]; omega) (len_line (n := 4096) (by decide))
  have J := I.call (ch := []) (h' := s2.heap) (g' := s2.gens) (d' := s2.drawn) (t' := s2.toks) (Un.laid old big free) (I.hok.laid old big (o := .lst (zs.map V.int)) ⟨room, xs.toList, c, vals_of_ints are, at_⟩) (by rw [gs]; exact I.bare) (fun _ z => nomatch z)
  refine ⟨.ref p, upd H p (.lst (zs.map V.int)), ?_, rfl, q zs p up mem cnt free⟩
  have e : s2 = { s with heap := s2.heap, gens := s2.gens, drawn := s2.drawn, toks := s2.toks } := by
    obtain ⟨⟩ := s2
    obtain ⟨⟩ := s
    obtain rfl := os
    rfl
  exact e ▸ J
end
/-! ### rows in lists and in tuples: the defs -/
def RowOf (K : PySem.W.Frag) {r : Type} (lo hi : r → Int) (D : r → PyData) : Prop := ∀ (H : Hp) (v : V) (q : r), Dp K H v (D q) → ∃ p rest, v = .ref p ∧ SqT K H p (.int (lo q) :: .int (hi q) :: rest)
def oD {r : Type} (D : r → PyData) : Option r → PyData
  | none => .none
  | some q => D q
theorem sc__first_ending_behind : FnScope ["rows", "at", "place"] ["rows", "at", "place"] (defScope s__first_ending_behind) := ⟨rfl, rfl, rfl, by decide +kernel, rfl, by decide +kernel, by decide +kernel⟩
theorem sc__row_from : FnScope ["rows", "at", "place"] ["rows", "at", "place"] (defScope s__row_from) := ⟨rfl, rfl, rfl, by decide +kernel, rfl, by decide +kernel, by decide +kernel⟩
theorem sc__pieces : FnScope ["a", "b", "edges", "row", "pieces", "at_a", "at_b", "begin", "end"] ["a", "b"] (defScope s__pieces) := ⟨rfl, rfl, rfl, by decide +kernel, rfl, by decide +kernel, by decide +kernel⟩
def pieceD {r : Type} (lo hi : r → Int) (D : r → PyData) (Aa Bb : List r) (s : Int × Int) : PyData := .tuple [.int s.1, .int s.2, oD D (rowAt lo hi Aa s.1), oD D (rowAt lo hi Bb s.1)]
def edgeL {r : Type} (lo hi : r → Int) (Aa Bb : List r) : List Int := ((Aa.map lo ++ Aa.map hi) ++ Bb.map lo) ++ Bb.map hi
theorem few_e0 {r : Type} {lo hi : r → Int} {Aa Bb : List r} (h : Aa.length + Bb.length < 30) : ∃ e0 : List Int, (∀ k, k ∈ edgeL lo hi Aa Bb → k ∈ e0) ∧ e0.length < 400 :=
  ⟨edgeL lo hi Aa Bb, fun _ h => h, by unfold edgeL; simp only [List.length_append, List.length_map]; omega⟩
theorem row_at {K : PySem.W.Frag} {r : Type} {lo hi : r → Int} {D : r → PyData} (hD : RowOf K lo hi D) {U : Hp} {xs : List V} {rows : List r} (hX : DpAll K U xs (rows.map D)) (i : Nat) (v : V) (h : xs[i]? = some v) : ∃ pr rest q, rows[i]? = some q ∧ v = .ref pr ∧ SqT K U pr (.int (lo q) :: .int (hi q) :: rest) := by
  obtain ⟨d, hd, dv⟩ := dpall_get hX h
  rw [List.getElem?_map] at hd
  obtain ⟨q, hq, rfl⟩ := Option.map_eq_some_iff.mp hd
  obtain ⟨pr, rest, e, h2⟩ := hD _ _ _ dv
  exact ⟨pr, rest, q, hq, e, h2⟩
theorem cut_tail (xs : List V) : cutV xs (some 1) none = xs.tail := by
  show (xs.drop (min 1 xs.length)).take (xs.length - min 1 xs.length) = xs.tail
  cases xs with
  | nil => rfl
  | cons a t =>
    have e : min 1 (a :: t).length = 1 := by simp [Nat.min_def]
    rw [e]
    show t.take ((a :: t).length - 1) = t
    simp
theorem segs_len (es : List Int) : (segs es).length = min es.length es.tail.length := List.length_zip
theorem segs_at {es : List Int} {i : Nat} {x y : V} (h1 : (es.map V.int)[i]? = some x) (h2 : (es.map V.int).tail[i]? = some y) : ∃ b e, x = .int b ∧ y = .int e ∧ (segs es)[i]? = some (b, e) := by
  rw [List.getElem?_map] at h1
  rw [← List.map_tail, List.getElem?_map] at h2
  obtain ⟨b, hb, rfl⟩ := Option.map_eq_some_iff.mp h1
  obtain ⟨e, he, rfl⟩ := Option.map_eq_some_iff.mp h2
  exact ⟨b, e, rfl, rfl, List.getElem?_zip_eq_some.mpr ⟨hb, he⟩⟩
theorem segs_asc : ∀ {es : List Int}, es.Pairwise (· < ·) → ∀ {i j : Nat} {s t : Int × Int}, i ≤ j → (segs es)[i]? = some s → (segs es)[j]? = some t → s.1 ≤ t.1
  | [], _, i, j, s, t, _, h, _ => by cases h
  | [a], _, i, j, s, t, _, h, _ => by cases h
  | a :: c :: r, hp, i, j, s, t, hij, h1, h2 => by
    rw [segs_cons] at h1 h2
    have hp2 := List.pairwise_cons.mp hp
    match i, j, h1, h2 with
    | 0, 0, h1, h2 => cases h1; cases h2; exact Int.le_refl _
    | 0, j + 1, h1, h2 =>
      cases h1
      have m := seg_mem hp2.2 (b := t.1) (e := t.2) (List.mem_of_getElem? h2)
      exact Int.le_of_lt (hp2.1 _ m.2.2.1)
    | i + 1, 0, h1, h2 => omega
    | i + 1, j + 1, h1, h2 => exact segs_asc hp2.2 (i := i) (j := j) (by omega) h1 h2
def sp__first_ending_behind_L (K : PySem.W.Frag) : Sp := fun vs H Q _ => ∃ (r : Type) (lo hi : r → Int) (D : r → PyData) (rows : List r) (p : Addr) (xs : List V) (i : Nat) (pl : Int), vs = [.ref p, .int (i : Int), .int pl] ∧ RowOf K lo hi D ∧ SqL K H p xs ∧ DpAll K H xs (rows.map D) ∧ i ≤ rows.length ∧ (∀ (j : Nat) (q : r), j < i → rows[j]? = some q → hi q ≤ pl) ∧
  ∀ i' : Nat, i' ≤ rows.length → (∀ (j : Nat) (q : r), j < i' → rows[j]? = some q → hi q ≤ pl) → (∀ q, rows[i']? = some q → pl < hi q) → Q (.int (i' : Int)) H
theorem ok__first_ending_behind_L (T : Txt0 P K mg A) : FnOk P w K mg base CX0 1 A.f_first_ending_behind A.d_first_ending_behind ["rows", "at", "place"] (sp__first_ending_behind_L K) := by
  refine T.F_first_ending_behind.ok sc__first_ending_behind (fun vs H Q E h => ?_) (fun cdv Ar outer s H vs Q E hr h => ?_)
  · obtain ⟨_, _, _, _, _, _, _, _, _, rfl, _⟩ := h
    rfl
  · obtain ⟨r, lo, hi, D, rows, p, xs, i, pl, rfl, hD, hS, hX, hi0, hb, q⟩ := h
    refine ⟨_, (pss_cons (ps_while PassesOwn.never (PW.pt (pw_and (pt_cmpR op_lt (pv 1) (pe_callB call_len_seq (by rfl) T.len PySem.boot_len (pa_cons (pv 0) pa_nil)) (nomark _)) (pw_and1 (pt_cmpR op_le (pe_ix (r := rIxT K) ix_tup (pe_ix (r := rIxL K) ix_list (pv 0) (pv 1) (fun _ _ => rfl)) pe_int (fun _ _ => rfl)) (pv 2) (nomark _)))))
      (pss_one (ps_aug (i := 1) sc__first_ending_behind.nd rfl (Or.inl rfl) pe_int ip_add)))
      (pss_one (ps_ret (pv 1)))), ?_⟩
    have hx : xs.length = rows.length := by rw [dpall_len hX, List.length_map]
    refine ⟨fun m σ H' => H' = H ∧ ∃ k : Nat, σ = [some (.ref p), some (.int (k : Int)), some (.int pl)] ∧ k ≤ rows.length ∧ m = rows.length - k ∧ ∀ (j : Nat) (q : r), j < k → rows[j]? = some q → hi q ≤ pl, ⟨_, rfl, i, rfl, hi0, rfl, hb⟩, ?_⟩
    rintro m σ H' ⟨rfl, k, rfl, hk, rfl, hkb⟩
    have fin : (∀ q, rows[k]? = some q → pl < hi q) → tRet (tVar 1) { nx := fun x H' => Q V.non H', rt := Q } [some (.ref p), some (.int (k : Int)), some (.int pl)] H' := fun h => ⟨_, rfl, q k hk hkb h⟩
    refine ⟨_, rfl, _, rfl, p, _, rfl, .inl hS, _, _, rfl, rfl, _, rfl, iteP (fun h => ?_) (fun h => ?_)⟩
    · have hk2 : k < rows.length := by rw [← hx]; omega
      have hr' := List.getElem?_eq_getElem hk2
      obtain ⟨v, hv, dv⟩ := dpall_get' hX (i := k) (d := D rows[k]) (by rw [List.getElem?_map, hr']; rfl)
      obtain ⟨pr, rest, rfl, hpr⟩ := hD _ _ _ dv
      generalize rows[k] = row at hr' dv hpr
      refine ⟨_, rfl, _, rfl, p, _, _, _, rfl, rfl, hS, atI_nat hv, pr, _, _, _, rfl, rfl, hpr, atI_nat (j := 1) rfl, _, rfl, _, _, rfl, rfl, _, rfl, iteP (fun h2 => ?_) (fun h2 => ?_)⟩
      · refine ⟨fun σ' H2 => H2 = H' ∧ σ' = [some (.ref p), some (.int ((k + 1 : Nat) : Int)), some (.int pl)], ?_, ?_⟩
        · rintro σ' H2 ⟨rfl, rfl⟩
          refine ⟨rows.length - (k + 1), by omega, rfl, k + 1, rfl, hk2, rfl, fun j q hj hq => ?_⟩
          by_cases e : j = k
          · subst e; rw [hr'] at hq; cases hq; exact h2
          · exact hkb j q (by omega) hq
        · exact ⟨_, rfl, _, _, rfl, rfl, rfl, by rw [Int.natCast_add]; rfl⟩
      · exact fin fun q hq => by rw [hr'] at hq; cases hq; omega
    · exact fin fun q hq => by
        have := (List.getElem?_eq_some_iff.mp hq).1
        rw [hx] at h; omega
def sp__row_from_L (K : PySem.W.Frag) : Sp := fun vs H Q _ => ∃ (r : Type) (lo hi : r → Int) (D : r → PyData) (rows : List r) (p : Addr) (xs : List V) (i : Nat) (pl : Int) (U : Hp), vs = [.ref p, .int (i : Int), .int pl] ∧ RowOf K lo hi D ∧ Same U H ∧ SqL K U p xs ∧ DpAll K U xs (rows.map D) ∧
  ∀ v, Dp K U v (oD D ((rows[i]?).filter fun q => decide (lo q ≤ pl))) → Q v H
theorem ok__row_from_L (T : Txt0 P K mg A) : FnOk P w K mg base CX0 1 A.f_row_from A.d_row_from ["rows", "at", "place"] (sp__row_from_L K) := by
  refine T.F_row_from.ok sc__row_from (fun vs H Q E h => ?_) (fun cdv Ar outer s H vs Q E hr h => ?_)
  · obtain ⟨_, _, _, _, _, _, _, _, _, _, rfl, _⟩ := h
    rfl
  · obtain ⟨r, lo, hi, D, rows, p, xs, i, pl, U, rfl, hD, sU, hS0, hX, q⟩ := h
    have hS := sU.seq hS0
    refine ⟨_, (pss_one (ps_ret (pe_ifExp (PW.pt (pw_and (pt_cmpR op_lt (pv 1) (pe_callB call_len_seq (by rfl) T.len PySem.boot_len (pa_cons (pv 0) pa_nil)) (nomark _)) (pw_and1 (pt_cmpR op_le (pe_ix (r := rIxT K) ix_tup (pe_ix (r := rIxL K) ix_list (pv 0) (pv 1) (fun _ _ => rfl)) pe_int (fun _ _ => rfl)) (pv 2) (nomark _))))) (pe_ix (r := rIxL K) ix_list (pv 0) (pv 1) (fun _ _ => rfl)) pe_non))), ?_⟩
    have hx : xs.length = rows.length := by rw [dpall_len hX, List.length_map]
    refine ⟨_, rfl, _, rfl, p, _, rfl, .inl hS, _, _, rfl, rfl, _, rfl, iteP (fun h => ?_) (fun h => ?_)⟩
    · have hk2 : i < rows.length := by rw [← hx]; omega
      have hr' := List.getElem?_eq_getElem hk2
      obtain ⟨v, hv, dv⟩ := dpall_get' hX (i := i) (d := D rows[i]) (by rw [List.getElem?_map, hr']; rfl)
      obtain ⟨pr, rest, rfl, hpr0⟩ := hD _ _ _ dv
      have hpr := sU.sqt hpr0
      generalize rows[i] = row at hr' dv hpr0 hpr
      rw [hr'] at q
      refine ⟨_, rfl, _, rfl, p, _, _, _, rfl, rfl, hS, atI_nat hv, pr, _, _, _, rfl, rfl, hpr, atI_nat (j := 0) rfl, _, rfl, _, _, rfl, rfl, _, rfl, iteP (fun h2 => ?_) (fun h2 => ?_)⟩
      · refine ⟨_, rfl, _, rfl, p, _, _, _, rfl, rfl, hS, atI_nat hv, q _ ?_⟩
        rw [Option.filter_some, decide_eq_true h2]; exact dv
      · refine q _ ?_
        rw [Option.filter_some, decide_eq_false h2]; exact .non
    · refine q _ ?_
      rw [List.getElem?_eq_none (by rw [hx] at h; omega)]
      exact .non
def sp__pieces_L (K : PySem.W.Frag) : Sp := fun vs H Q _ => ∃ (r : Type) (lo hi : r → Int) (D : r → PyData) (Aa Bb : List r) (pa pb : Addr) (xa xb : List V) (U : Hp), vs = [.ref pa, .ref pb] ∧ RowOf K lo hi D ∧ Same U H ∧ SqL K U pa xa ∧ DpAll K U xa (Aa.map D) ∧ SqL K U pb xb ∧ DpAll K U xb (Bb.map D) ∧
  Rows lo hi Aa ∧ Rows lo hi Bb ∧ Aa.length + Bb.length < 900 ∧ (∃ e0 : List Int, (∀ k, k ∈ edgeL lo hi Aa Bb → k ∈ e0) ∧ e0.length < 400) ∧
  ∀ v U' H' es, Ext U H U' H' → es.length < 400 → es.Pairwise (· < ·) → (∀ k, k ∈ es ↔ k ∈ edgeL lo hi Aa Bb) → Dp K U' v (.list ((segs es).map (pieceD lo hi D Aa Bb))) → Q v H'
theorem ok__pieces_L (T : Txt0 P K mg A) : FnOk P w K mg base CX0 2 A.f_pieces A.d_pieces ["a", "b"] (sp__pieces_L K) := by
  refine T.F_pieces.ok sc__pieces (fun vs H Q E h => ?_) (fun cdv Ar outer s H vs Q E hr h => ?_)
  · obtain ⟨_, _, _, _, _, _, _, _, _, _, _, rfl, _⟩ := h
    rfl
  · obtain ⟨r, lo, hi, D, Aa, Bb, pa, pb, xa, xb, U, rfl, hD, sU, hSa, hXa, hSb, hXb, Ra, Rb, hln, ⟨e0, he0, hl0⟩, q⟩ := h
    refine ⟨_, (C8.pss_cut (ps_set (i := 2) sc__pieces.nd rfl (Or.inl rfl) (pe_callB (cr_sortB rfl) (by rfl) T.sorted (by decide +kernel) (pa_cons (pe_callTy (cr_setI rfl) (by rfl) T.set (by decide +kernel) (pa_cons (pe_op op_cat (pe_op op_cat (pe_op op_cat (pe_lc (own := [("row", 3)]) (g := (gName 3)) (tt := tYes) rfl sc__pieces.nd (pi_list (pv 0)) (blkOk_by (own := [("row", 3)]) (N := ["a", "b", "edges", "row", "pieces", "at_a", "at_b", "begin", "end"]) (sc := defScope s__pieces) (by decide +kernel)) (fun _ _ _ _ _ => (pg_name (i := 3) sc__pieces.nd rfl (Or.inl rfl))) (fun _ _ _ _ _ => pts_nil) (fun _ _ _ _ _ => by exact (pe_ix (r := rIxT K) ix_tup (pv 3) pe_int (fun _ _ => rfl)))) (pe_lc (own := [("row", 3)]) (g := (gName 3)) (tt := tYes) rfl sc__pieces.nd (pi_list (pv 0)) (blkOk_by (own := [("row", 3)]) (N := ["a", "b", "edges", "row", "pieces", "at_a", "at_b", "begin", "end"]) (sc := defScope s__pieces) (by decide +kernel)) (fun _ _ _ _ _ => (pg_name (i := 3) sc__pieces.nd rfl (Or.inl rfl))) (fun _ _ _ _ _ => pts_nil) (fun _ _ _ _ _ => by exact (pe_ix (r := rIxT K) ix_tup (pv 3) pe_int (fun _ _ => rfl))))) (pe_lc (own := [("row", 3)]) (g := (gName 3)) (tt := tYes) rfl sc__pieces.nd (pi_list (pv 1)) (blkOk_by (own := [("row", 3)]) (N := ["a", "b", "edges", "row", "pieces", "at_a", "at_b", "begin", "end"]) (sc := defScope s__pieces) (by decide +kernel)) (fun _ _ _ _ _ => (pg_name (i := 3) sc__pieces.nd rfl (Or.inl rfl))) (fun _ _ _ _ _ => pts_nil) (fun _ _ _ _ _ => by exact (pe_ix (r := rIxT K) ix_tup (pv 3) pe_int (fun _ _ => rfl))))) (pe_lc (own := [("row", 3)]) (g := (gName 3)) (tt := tYes) rfl sc__pieces.nd (pi_list (pv 1)) (blkOk_by (own := [("row", 3)]) (N := ["a", "b", "edges", "row", "pieces", "at_a", "at_b", "begin", "end"]) (sc := defScope s__pieces) (by decide +kernel)) (fun _ _ _ _ _ => (pg_name (i := 3) sc__pieces.nd rfl (Or.inl rfl))) (fun _ _ _ _ _ => pts_nil) (fun _ _ _ _ _ => by exact (pe_ix (r := rIxT K) ix_tup (pv 3) pe_int (fun _ _ => rfl))))) pa_nil)) pa_nil)))
      (pss_cons (ps_set (i := 4) sc__pieces.nd rfl (Or.inl rfl) (pe_lst pa_nil))
      (pss_cons (ps_set (i := 5) sc__pieces.nd rfl (Or.inl rfl) pe_int)
      (pss_cons (ps_set (i := 6) sc__pieces.nd rfl (Or.inl rfl) pe_int)
      (pss_cons (ps_for PassesOwn.never rfl (pi_zip (by rfl) T.zip (pa_cons (pv 2) (pa_cons (pe_slice (r := rSlL K) sl_list (pv 2) (po_some pe_int) po_none) pa_nil))) (pg_tup rfl (pgs_cons (pg_name (i := 7) sc__pieces.nd rfl (Or.inl rfl)) (pgs_cons (pg_name (i := 8) sc__pieces.nd rfl (Or.inl rfl)) pgs_nil)))
      (pss_cons (ps_set (i := 5) sc__pieces.nd rfl (Or.inl rfl) (pe_call (ok__first_ending_behind_L T) (hr.mono (by decide)) rfl T.g_first_ending_behind T.k_first_ending_behind T.b_first_ending_behind .nil pass0 (pa_cons (pv 0) (pa_cons (pv 5) (pa_cons (pv 7) pa_nil)))))
      (pss_cons (ps_set (i := 6) sc__pieces.nd rfl (Or.inl rfl) (pe_call (ok__first_ending_behind_L T) (hr.mono (by decide)) rfl T.g_first_ending_behind T.k_first_ending_behind T.b_first_ending_behind .nil pass0 (pa_cons (pv 1) (pa_cons (pv 6) (pa_cons (pv 7) pa_nil)))))
      (pss_one (ps_expr (pe_bm PySem.F.plainAttrs_list PySem.F.slot_list_append PySem.F.type_list_append mt_append (pv 4) (pa_cons (pe_tup (pa_cons (pv 7) (pa_cons (pv 8) (pa_cons (pe_call (ok__row_from_L T) (hr.mono (by decide)) rfl T.g_row_from T.k_row_from T.b_row_from .nil pass0 (pa_cons (pv 0) (pa_cons (pv 5) (pa_cons (pv 7) pa_nil)))) (pa_cons (pe_call (ok__row_from_L T) (hr.mono (by decide)) rfl T.g_row_from T.k_row_from T.b_row_from .nil pass0 (pa_cons (pv 1) (pa_cons (pv 6) (pa_cons (pv 7) pa_nil)))) pa_nil))))) pa_nil)))))))
      (pss_one (ps_ret (pv 4)))))))), ?_⟩
    have lxa : xa.length = Aa.length := by rw [dpall_len hXa, List.length_map]
    have lxb : xb.length = Bb.length := by rw [dpall_len hXb, List.length_map]
    have atA : ∀ (i : Nat) (v : V), xa[i]? = some v → ∃ pr rest q, Aa[i]? = some q ∧ v = .ref pr ∧ SqT K U pr (.int (lo q) :: .int (hi q) :: rest) := row_at hD hXa
    have atB : ∀ (i : Nat) (v : V), xb[i]? = some v → ∃ pr rest q, Bb[i]? = some q ∧ v = .ref pr ∧ SqT K U pr (.int (lo q) :: .int (hi q) :: rest) := row_at hD hXb
    refine ⟨fun σ' H' => ∃ (pe : Addr) (es : List Int), σ' = [some (.ref pa), some (.ref pb), some (.ref pe), none, none, none, none, none, none] ∧ Same H H' ∧ H' pe = some (.lst (es.map V.int)) ∧ es.length < 400 ∧ es.Pairwise (· < ·) ∧ ∀ k, k ∈ es ↔ k ∈ edgeL lo hi Aa Bb, ?_, ?_⟩
    · refine ⟨_, rfl, pa, rfl, ⟨_, sU.seq hSa⟩, fun D1 hD1 => ?_⟩
      refine lc_dp (walk_list (K := K) (a := pa) (xs := xa)) (K := K) (V0 := H) (H0 := H) (fun i => (Aa[i]?).map fun q => PyData.int (lo q)) _ rfl (Same.refl _) hD1 (by omega) (fun H' s => s.seq (sU.seq hSa)) (fun i x H H' y => y.1) ?_ ?_
      · rintro j v U2 H2 hj xx ⟨_, hv⟩ Qy Qn hy _
        obtain ⟨pr, rest, qq, hq, rfl, hpr⟩ := atA j v hv
        exact ⟨rfl, _, rfl, pr, _, _, _, rfl, rfl, xx.hh.sqt (sU.sqt hpr), atI_nat (j := 0) rfl, hy _ _ _ _ (by rw [hq]; rfl) (Ext.refl xx.vh) (.int _)⟩
      rintro U1 H1 xs1 x1 d1 l1 _
      rw [lxa, fm_map] at l1
      have e1 : xs1 = (Aa.map lo).map V.int := dp_intsV (K := K) (H := U1) (by rw [List.map_map]; exact l1)
      subst e1
      have g1 := x1.vh _ _ d1
      have t1 := sU.trans x1.hh
      refine ⟨_, rfl, pa, rfl, ⟨_, t1.seq hSa⟩, fun D2 hD2 => ?_⟩
      refine lc_dp (walk_list (K := K) (a := pa) (xs := xa)) (K := K) (V0 := H1) (H0 := H1) (fun i => (Aa[i]?).map fun q => PyData.int (hi q)) _ rfl (Same.refl _) hD2 (by omega) (fun H' s => s.seq (t1.seq hSa)) (fun i x H H' y => y.1) ?_ ?_
      · rintro j v U2 H2 hj xx ⟨_, hv⟩ Qy Qn hy _
        obtain ⟨pr, rest, qq, hq, rfl, hpr⟩ := atA j v hv
        exact ⟨rfl, _, rfl, pr, _, _, _, rfl, rfl, xx.hh.sqt (t1.sqt hpr), atI_nat (j := 1) rfl, hy _ _ _ _ (by rw [hq]; rfl) (Ext.refl xx.vh) (.int _)⟩
      rintro U2 H2 xs2 x2 d2 l2 _
      rw [lxa, fm_map] at l2
      have e2 : xs2 = (Aa.map hi).map V.int := dp_intsV (K := K) (H := U2) (by rw [List.map_map]; exact l2)
      subst e2
      have g2 := x2.vh _ _ d2
      refine ⟨D1, D2, _, _, rfl, rfl, x2.hh _ _ g1, g2, len_line (by simp; omega), fun p3 hp3 => ?_⟩
      have g3 : (upd H2 p3 (.lst ((Aa.map lo).map V.int ++ (Aa.map hi).map V.int))) p3 = _ := upd_same
      have t3 := (t1.trans x2.hh).trans (same_upd (o := .lst ((Aa.map lo).map V.int ++ (Aa.map hi).map V.int)) hp3)
      have u3 := (x1.hh.trans x2.hh).trans (same_upd (o := .lst ((Aa.map lo).map V.int ++ (Aa.map hi).map V.int)) hp3)
      generalize upd H2 p3 (.lst ((Aa.map lo).map V.int ++ (Aa.map hi).map V.int)) = H3 at g3 t3 u3 ⊢
      refine ⟨_, rfl, pb, rfl, ⟨_, t3.seq hSb⟩, fun D4 hD4 => ?_⟩
      refine lc_dp (walk_list (K := K) (a := pb) (xs := xb)) (K := K) (V0 := H3) (H0 := H3) (fun i => (Bb[i]?).map fun q => PyData.int (lo q)) _ rfl (Same.refl _) hD4 (by omega) (fun H' s => s.seq (t3.seq hSb)) (fun i x H H' y => y.1) ?_ ?_
      · rintro j v U2 H2 hj xx ⟨_, hv⟩ Qy Qn hy _
        obtain ⟨pr, rest, qq, hq, rfl, hpr⟩ := atB j v hv
        exact ⟨rfl, _, rfl, pr, _, _, _, rfl, rfl, xx.hh.sqt (t3.sqt hpr), atI_nat (j := 0) rfl, hy _ _ _ _ (by rw [hq]; rfl) (Ext.refl xx.vh) (.int _)⟩
      rintro U4 H4 xs4 x4 d4 l4 _
      rw [lxb, fm_map] at l4
      have e4 : xs4 = (Bb.map lo).map V.int := dp_intsV (K := K) (H := U4) (by rw [List.map_map]; exact l4)
      subst e4
      have g4 := x4.vh _ _ d4
      refine ⟨p3, D4, _, _, rfl, rfl, x4.hh _ _ g3, g4, len_line (by simp; omega), fun p5 hp5 => ?_⟩
      have g5 : (upd H4 p5 (.lst (((Aa.map lo).map V.int ++ (Aa.map hi).map V.int) ++ (Bb.map lo).map V.int))) p5 = _ := upd_same
      have t5 := (t3.trans x4.hh).trans (same_upd (o := .lst (((Aa.map lo).map V.int ++ (Aa.map hi).map V.int) ++ (Bb.map lo).map V.int)) hp5)
      have u5 := (u3.trans x4.hh).trans (same_upd (o := .lst (((Aa.map lo).map V.int ++ (Aa.map hi).map V.int) ++ (Bb.map lo).map V.int)) hp5)
      generalize upd H4 p5 (.lst (((Aa.map lo).map V.int ++ (Aa.map hi).map V.int) ++ (Bb.map lo).map V.int)) = H5 at g5 t5 u5 ⊢
      refine ⟨_, rfl, pb, rfl, ⟨_, t5.seq hSb⟩, fun D6 hD6 => ?_⟩
      refine lc_dp (walk_list (K := K) (a := pb) (xs := xb)) (K := K) (V0 := H5) (H0 := H5) (fun i => (Bb[i]?).map fun q => PyData.int (hi q)) _ rfl (Same.refl _) hD6 (by omega) (fun H' s => s.seq (t5.seq hSb)) (fun i x H H' y => y.1) ?_ ?_
      · rintro j v U2 H2 hj xx ⟨_, hv⟩ Qy Qn hy _
        obtain ⟨pr, rest, qq, hq, rfl, hpr⟩ := atB j v hv
        exact ⟨rfl, _, rfl, pr, _, _, _, rfl, rfl, xx.hh.sqt (t5.sqt hpr), atI_nat (j := 1) rfl, hy _ _ _ _ (by rw [hq]; rfl) (Ext.refl xx.vh) (.int _)⟩
      rintro U6 H6 xs6 x6 d6 l6 _
      rw [lxb, fm_map] at l6
      have e6 : xs6 = (Bb.map hi).map V.int := dp_intsV (K := K) (H := U6) (by rw [List.map_map]; exact l6)
      subst e6
      have g6 := x6.vh _ _ d6
      refine ⟨p5, D6, _, _, rfl, rfl, x6.hh _ _ g5, g6, len_line (by simp; omega), fun p7 hp7 => ?_⟩
      have ee : (((Aa.map lo).map V.int ++ (Aa.map hi).map V.int) ++ (Bb.map lo).map V.int) ++ (Bb.map hi).map V.int = (edgeL lo hi Aa Bb).map V.int := by unfold edgeL; simp only [List.map_append]
      have el : (edgeL lo hi Aa Bb).length < 1800 := by unfold edgeL; simp only [List.length_append, List.length_map]; omega
      rw [ee]
      refine ⟨p7, edgeL lo hi Aa Bb, rfl, SqL.of upd_same, by unfold scanBound; omega, fun ps c hps hc hc2 => ?_⟩
      have hc3 := hc2 e0 he0
      refine ⟨ps, _, c, rfl, upd_same, fun es p8 hs hm hl hp8 => ?_⟩
      refine ⟨p8, es, rfl, ?_, upd_same, by omega, hs, fun k => by rw [hm k, decide_eq_true_eq]⟩
      exact (((u5.trans x6.hh).trans (same_upd hp7)).trans (same_upd hps)).trans (same_upd hp8)
    rintro σ' H1 ⟨pe, es, rfl, s1, he, hel, hep, hem⟩
    refine ⟨len_line (by show 0 ≤ 100000; decide), fun pp hpp => ?_⟩
    have sU1 := sU.trans s1
    have inv0 := LcInv.start (K := K) sU1 hpp
    have he2 := same_upd (o := .lst []) hpp _ _ he
    have s2 : Same H1 (upd H1 pp (.lst [])) := same_upd hpp
    generalize hH2 : upd H1 pp (.lst []) = H2 at inv0 he2 s2 ⊢
    refine ⟨_, rfl, _, rfl, _, rfl, pe, _, rfl, SqL.of he2, fun p6 hp6 => ?_⟩
    rw [cut_tail] at *
    have hsl : (segs es).length = min (es.map V.int).length (es.map V.int).tail.length := by rw [segs_len]; simp
    have he3 := same_upd (o := .lst (es.map V.int).tail) hp6 _ _ he2
    have h63 : (upd H2 p6 (.lst (es.map V.int).tail)) p6 = _ := upd_same
    have inv3 : LcInv K U H1 pp [] (upd H2 p6 (.lst (es.map V.int).tail)) := by
      obtain ⟨V1, xs, x, f1, f2, f3⟩ := inv0.ex
      have sn := same_upd (o := .lst (es.map V.int).tail) hp6
      exact ⟨V1, xs, ⟨x.vv, x.vh.trans sn, x.hh.trans sn, x.nw⟩, f1, sn _ _ f2, f3⟩
    have npp : H1 pp = none := hpp
    have npe : pe ≠ pp := fun z => by rw [z, npp] at he; cases he
    have np6 : p6 ≠ pp := (ne_of_none (by rw [← hH2]; exact upd_same : H2 pp = some (.lst [])) hp6).symm
    generalize upd H2 p6 (.lst (es.map V.int).tail) = H3 at he3 h63 inv3 ⊢
    have keep : ∀ H' acc, LcInv K U H1 pp acc H' → Same H1 H' := fun H' acc i => by obtain ⟨_, _, x, _⟩ := i.ex; exact x.hh
    refine ⟨pe, p6, _, _, rfl, SqL.of he3, SqL.of h63, for_it (walk_zip (K := K) (a := pe) (b := p6) (n := (segs es).length) hsl)
      (fun i σ H' => ∃ (ia ib : Nat) (v7 v8 : Option V), σ = [some (.ref pa), some (.ref pb), some (.ref pe), none, some (.ref pp), some (.int (ia : Int)), some (.int (ib : Int)), v7, v8] ∧ LcInv K U H1 pp (((segs es).take i).map (pieceD lo hi D Aa Bb)) H' ∧ H' pe = some (.lst (es.map V.int)) ∧ H' p6 = some (.lst (es.map V.int).tail) ∧
        ia ≤ Aa.length ∧ ib ≤ Bb.length ∧ (∀ (j : Nat) (q : r), j < ia → Aa[j]? = some q → ∀ (k : Nat) (t : Int × Int), i ≤ k → (segs es)[k]? = some t → hi q ≤ t.1) ∧ (∀ (j : Nat) (q : r), j < ib → Bb[j]? = some q → ∀ (k : Nat) (t : Int × Int), i ≤ k → (segs es)[k]? = some t → hi q ≤ t.1))
      ⟨0, 0, none, none, rfl, inv3, he3, h63, Nat.zero_le _, Nat.zero_le _, fun j q hj => absurd hj (Nat.not_lt_zero _), fun j q hj => absurd hj (Nat.not_lt_zero _)⟩ (fun i σ H' _ ⟨_, _, _, _, _, _, e1, e2, _⟩ => ⟨SqL.of e1, SqL.of e2⟩) ?_ ?_⟩
    · rintro i x σ H4 H5 hin ⟨ia, ib, v7, v8, rfl, inv4, he4, h64, la, lb, ba, bb⟩ ⟨T2, y1, y2, rfl, hT, rfl, hy1, hy2⟩
      obtain ⟨bg, en, rfl, rfl, hsg⟩ := segs_at hy1 hy2
      obtain ⟨V4, xs4, x4, f1, f2, f3⟩ := inv4.ex
      have sT : Same H4 (upd H4 T2 (.tup [.int bg, .int en])) := same_upd hT
      have x5 : Ext V4 H4 V4 (upd H4 T2 (.tup [.int bg, .int en])) := Ext.skip x4.vh hT
      have e5 : (upd H4 T2 (.tup [.int bg, .int en])) T2 = _ := upd_same
      have sU5 : Same U (upd H4 T2 (.tup [.int bg, .int en])) := x4.vv.trans x5.vh
      generalize upd H4 T2 (.tup [.int bg, .int en]) = H5 at sT x5 e5 sU5 ⊢
      refine ⟨T2, _, rfl, SqT.of e5, rfl, _, _, rfl, _, _, rfl, rfl, ?_⟩
      refine ⟨_, rfl, _, rfl, _, rfl, r, lo, hi, D, Aa, pa, xa, ia, bg, rfl, hD, sU5.seq hSa, dpall_same sU5 _ _ hXa, la, fun j q hj hq => ba j q hj hq i _ (Nat.le_refl _) hsg, fun ia' la' ba1 ba2 => ?_⟩
      refine ⟨_, rfl, _, rfl, _, rfl, r, lo, hi, D, Bb, pb, xb, ib, bg, rfl, hD, sU5.seq hSb, dpall_same sU5 _ _ hXb, lb, fun j q hj hq => bb j q hj hq i _ (Nat.le_refl _) hsg, fun ib' lb' bb1 bb2 => ?_⟩
      have ra := rowAt_idx Ra ba1 ba2
      have rb := rowAt_idx Rb bb1 bb2
      have sV : Same U V4 := x4.vv
      refine ⟨_, rfl, .inl ⟨rfl, _, SqL.of (x5.hh _ _ f2)⟩, _, rfl, _, rfl, _, rfl, _, rfl, _, rfl, r, lo, hi, D, Aa, pa, xa, ia', bg, V4, rfl, hD, x5.vh, sV.seq hSa, dpall_same sV _ _ hXa, fun va da => ?_⟩
      refine ⟨_, rfl, _, rfl, _, rfl, r, lo, hi, D, Bb, pb, xb, ib', bg, V4, rfl, hD, x5.vh, sV.seq hSb, dpall_same sV _ _ hXb, fun vb db => ?_⟩
      rw [← ra] at da
      rw [← rb] at db
      refine ⟨len_line (by show 4 ≤ 100000; decide), fun pt hpt => ?_⟩
      have x6 := x5.trans (Ext.new (o := .tup [.int bg, .int en, va, vb]) x5.vh hpt)
      have sq := same_upd (o := .tup [.int bg, .int en, va, vb]) (none_of_same x5.vh hpt)
      have dt : Dp K (upd V4 pt (.tup [.int bg, .int en, va, vb])) (.ref pt) (pieceD lo hi D Aa Bb (bg, en)) := .tup (SqT.of upd_same) (.cons (.int _) (.cons (.int _) (.cons (da.to sq) (.cons (db.to sq) .nil))))
      have hl : (((segs es).take i).map (pieceD lo hi D Aa Bb)).length < 100000 := by
        rw [List.length_map, List.length_take]
        have := (List.getElem?_eq_some_iff.mp hsg).1
        rw [segs_len] at this; omega
      obtain ⟨acc', j1, j2, j3⟩ := LcInv.push npp x4 f1 f2 f3 x6 dt hl
      refine ⟨pp, _, _, rfl, rfl, j1, j2, ?_⟩
      have et : ((segs es).take (i + 1)).map (pieceD lo hi D Aa Bb) = ((segs es).take i).map (pieceD lo hi D Aa Bb) ++ [pieceD lo hi D Aa Bb (bg, en)] := by
        obtain ⟨hl', e'⟩ := List.getElem?_eq_some_iff.mp hsg
        rw [List.take_succ_eq_append_getElem hl', List.map_append, e']; rfl
      refine ⟨ia', ib', _, _, rfl, by rw [et]; exact j3, ?_, ?_, la', lb', fun j q hj hq k t hk ht => ?_, fun j q hj hq k t hk ht => ?_⟩
      · rw [upd_ne npe]; exact x6.hh _ _ he4
      · rw [upd_ne np6]; exact x6.hh _ _ h64
      · exact Int.le_trans (ba1 j q hj hq) (segs_asc hep (i := i) (j := k) (by omega) hsg ht)
      · exact Int.le_trans (bb1 j q hj hq) (segs_asc hep (i := i) (j := k) (by omega) hsg ht)
    · rintro σ H4 ⟨ia, ib, v7, v8, rfl, inv4, _⟩
      rw [List.take_length] at inv4
      obtain ⟨U5, xs5, x5, k1, k2, k3⟩ := inv4.done npp
      exact ⟨_, rfl, q _ _ _ es ⟨x5.vv, x5.vh, s1.trans x5.hh, fun a h => by
        rcases x5.nw a h with z | z
        · exact .inl z
        · exact .inr (s1.free z)⟩ hel hep hem k3⟩
def sp__first_ending_behind_T (K : PySem.W.Frag) : Sp := fun vs H Q _ => ∃ (r : Type) (lo hi : r → Int) (D : r → PyData) (rows : List r) (p : Addr) (xs : List V) (i : Nat) (pl : Int), vs = [.ref p, .int (i : Int), .int pl] ∧ RowOf K lo hi D ∧ SqT K H p xs ∧ DpAll K H xs (rows.map D) ∧ i ≤ rows.length ∧ (∀ (j : Nat) (q : r), j < i → rows[j]? = some q → hi q ≤ pl) ∧
  ∀ i' : Nat, i' ≤ rows.length → (∀ (j : Nat) (q : r), j < i' → rows[j]? = some q → hi q ≤ pl) → (∀ q, rows[i']? = some q → pl < hi q) → Q (.int (i' : Int)) H
theorem ok__first_ending_behind_T (T : Txt0 P K mg A) : FnOk P w K mg base CX0 1 A.f_first_ending_behind A.d_first_ending_behind ["rows", "at", "place"] (sp__first_ending_behind_T K) := by
  refine T.F_first_ending_behind.ok sc__first_ending_behind (fun vs H Q E h => ?_) (fun cdv Ar outer s H vs Q E hr h => ?_)
  · obtain ⟨_, _, _, _, _, _, _, _, _, rfl, _⟩ := h
    rfl
  · obtain ⟨r, lo, hi, D, rows, p, xs, i, pl, rfl, hD, hS, hX, hi0, hb, q⟩ := h
    refine ⟨_, (pss_cons (ps_while PassesOwn.never (PW.pt (pw_and (pt_cmpR op_lt (pv 1) (pe_callB call_len_seq (by rfl) T.len PySem.boot_len (pa_cons (pv 0) pa_nil)) (nomark _)) (pw_and1 (pt_cmpR op_le (pe_ix (r := rIxT K) ix_tup (pe_ix (r := rIxT K) ix_tup (pv 0) (pv 1) (fun _ _ => rfl)) pe_int (fun _ _ => rfl)) (pv 2) (nomark _)))))
      (pss_one (ps_aug (i := 1) sc__first_ending_behind.nd rfl (Or.inl rfl) pe_int ip_add)))
      (pss_one (ps_ret (pv 1)))), ?_⟩
    have hx : xs.length = rows.length := by rw [dpall_len hX, List.length_map]
    refine ⟨fun m σ H' => H' = H ∧ ∃ k : Nat, σ = [some (.ref p), some (.int (k : Int)), some (.int pl)] ∧ k ≤ rows.length ∧ m = rows.length - k ∧ ∀ (j : Nat) (q : r), j < k → rows[j]? = some q → hi q ≤ pl, ⟨_, rfl, i, rfl, hi0, rfl, hb⟩, ?_⟩
    rintro m σ H' ⟨rfl, k, rfl, hk, rfl, hkb⟩
    have fin : (∀ q, rows[k]? = some q → pl < hi q) → tRet (tVar 1) { nx := fun x H' => Q V.non H', rt := Q } [some (.ref p), some (.int (k : Int)), some (.int pl)] H' := fun h => ⟨_, rfl, q k hk hkb h⟩
    refine ⟨_, rfl, _, rfl, p, _, rfl, .inr hS, _, _, rfl, rfl, _, rfl, iteP (fun h => ?_) (fun h => ?_)⟩
    · have hk2 : k < rows.length := by rw [← hx]; omega
      have hr' := List.getElem?_eq_getElem hk2
      obtain ⟨v, hv, dv⟩ := dpall_get' hX (i := k) (d := D rows[k]) (by rw [List.getElem?_map, hr']; rfl)
      obtain ⟨pr, rest, rfl, hpr⟩ := hD _ _ _ dv
      generalize rows[k] = row at hr' dv hpr
      refine ⟨_, rfl, _, rfl, p, _, _, _, rfl, rfl, hS, atI_nat hv, pr, _, _, _, rfl, rfl, hpr, atI_nat (j := 1) rfl, _, rfl, _, _, rfl, rfl, _, rfl, iteP (fun h2 => ?_) (fun h2 => ?_)⟩
      · refine ⟨fun σ' H2 => H2 = H' ∧ σ' = [some (.ref p), some (.int ((k + 1 : Nat) : Int)), some (.int pl)], ?_, ?_⟩
        · rintro σ' H2 ⟨rfl, rfl⟩
          refine ⟨rows.length - (k + 1), by omega, rfl, k + 1, rfl, hk2, rfl, fun j q hj hq => ?_⟩
          by_cases e : j = k
          · subst e; rw [hr'] at hq; cases hq; exact h2
          · exact hkb j q (by omega) hq
        · exact ⟨_, rfl, _, _, rfl, rfl, rfl, by rw [Int.natCast_add]; rfl⟩
      · exact fin fun q hq => by rw [hr'] at hq; cases hq; omega
    · exact fin fun q hq => by
        have := (List.getElem?_eq_some_iff.mp hq).1
        rw [hx] at h; omega
def sp__row_from_T (K : PySem.W.Frag) : Sp := fun vs H Q _ => ∃ (r : Type) (lo hi : r → Int) (D : r → PyData) (rows : List r) (p : Addr) (xs : List V) (i : Nat) (pl : Int) (U : Hp), vs = [.ref p, .int (i : Int), .int pl] ∧ RowOf K lo hi D ∧ Same U H ∧ SqT K U p xs ∧ DpAll K U xs (rows.map D) ∧
  ∀ v, Dp K U v (oD D ((rows[i]?).filter fun q => decide (lo q ≤ pl))) → Q v H
theorem ok__row_from_T (T : Txt0 P K mg A) : FnOk P w K mg base CX0 1 A.f_row_from A.d_row_from ["rows", "at", "place"] (sp__row_from_T K) := by
  refine T.F_row_from.ok sc__row_from (fun vs H Q E h => ?_) (fun cdv Ar outer s H vs Q E hr h => ?_)
  · obtain ⟨_, _, _, _, _, _, _, _, _, _, rfl, _⟩ := h
    rfl
  · obtain ⟨r, lo, hi, D, rows, p, xs, i, pl, U, rfl, hD, sU, hS0, hX, q⟩ := h
    have hS := sU.sqt hS0
    refine ⟨_, (pss_one (ps_ret (pe_ifExp (PW.pt (pw_and (pt_cmpR op_lt (pv 1) (pe_callB call_len_seq (by rfl) T.len PySem.boot_len (pa_cons (pv 0) pa_nil)) (nomark _)) (pw_and1 (pt_cmpR op_le (pe_ix (r := rIxT K) ix_tup (pe_ix (r := rIxT K) ix_tup (pv 0) (pv 1) (fun _ _ => rfl)) pe_int (fun _ _ => rfl)) (pv 2) (nomark _))))) (pe_ix (r := rIxT K) ix_tup (pv 0) (pv 1) (fun _ _ => rfl)) pe_non))), ?_⟩
    have hx : xs.length = rows.length := by rw [dpall_len hX, List.length_map]
    refine ⟨_, rfl, _, rfl, p, _, rfl, .inr hS, _, _, rfl, rfl, _, rfl, iteP (fun h => ?_) (fun h => ?_)⟩
    · have hk2 : i < rows.length := by rw [← hx]; omega
      have hr' := List.getElem?_eq_getElem hk2
      obtain ⟨v, hv, dv⟩ := dpall_get' hX (i := i) (d := D rows[i]) (by rw [List.getElem?_map, hr']; rfl)
      obtain ⟨pr, rest, rfl, hpr0⟩ := hD _ _ _ dv
      have hpr := sU.sqt hpr0
      generalize rows[i] = row at hr' dv hpr0 hpr
      rw [hr'] at q
      refine ⟨_, rfl, _, rfl, p, _, _, _, rfl, rfl, hS, atI_nat hv, pr, _, _, _, rfl, rfl, hpr, atI_nat (j := 0) rfl, _, rfl, _, _, rfl, rfl, _, rfl, iteP (fun h2 => ?_) (fun h2 => ?_)⟩
      · refine ⟨_, rfl, _, rfl, p, _, _, _, rfl, rfl, hS, atI_nat hv, q _ ?_⟩
        rw [Option.filter_some, decide_eq_true h2]; exact dv
      · refine q _ ?_
        rw [Option.filter_some, decide_eq_false h2]; exact .non
    · refine q _ ?_
      rw [List.getElem?_eq_none (by rw [hx] at h; omega)]
      exact .non
def sp__pieces_T (K : PySem.W.Frag) : Sp := fun vs H Q _ => ∃ (r : Type) (lo hi : r → Int) (D : r → PyData) (Aa Bb : List r) (pa pb : Addr) (xa xb : List V) (U : Hp), vs = [.ref pa, .ref pb] ∧ RowOf K lo hi D ∧ Same U H ∧ SqT K U pa xa ∧ DpAll K U xa (Aa.map D) ∧ SqT K U pb xb ∧ DpAll K U xb (Bb.map D) ∧
  Rows lo hi Aa ∧ Rows lo hi Bb ∧ Aa.length + Bb.length < 900 ∧ (∃ e0 : List Int, (∀ k, k ∈ edgeL lo hi Aa Bb → k ∈ e0) ∧ e0.length < 400) ∧
  ∀ v U' H' es, Ext U H U' H' → es.length < 400 → es.Pairwise (· < ·) → (∀ k, k ∈ es ↔ k ∈ edgeL lo hi Aa Bb) → Dp K U' v (.list ((segs es).map (pieceD lo hi D Aa Bb))) → Q v H'
theorem ok__pieces_T (T : Txt0 P K mg A) : FnOk P w K mg base CX0 2 A.f_pieces A.d_pieces ["a", "b"] (sp__pieces_T K) := by
  refine T.F_pieces.ok sc__pieces (fun vs H Q E h => ?_) (fun cdv Ar outer s H vs Q E hr h => ?_)
  · obtain ⟨_, _, _, _, _, _, _, _, _, _, _, rfl, _⟩ := h
    rfl
  · obtain ⟨r, lo, hi, D, Aa, Bb, pa, pb, xa, xb, U, rfl, hD, sU, hSa, hXa, hSb, hXb, Ra, Rb, hln, ⟨e0, he0, hl0⟩, q⟩ := h
    refine ⟨_, (C8.pss_cut (ps_set (i := 2) sc__pieces.nd rfl (Or.inl rfl) (pe_callB (cr_sortB rfl) (by rfl) T.sorted (by decide +kernel) (pa_cons (pe_callTy (cr_setI rfl) (by rfl) T.set (by decide +kernel) (pa_cons (pe_op op_cat (pe_op op_cat (pe_op op_cat (pe_lc (own := [("row", 3)]) (g := (gName 3)) (tt := tYes) rfl sc__pieces.nd (pi_tup (pv 0)) (blkOk_by (own := [("row", 3)]) (N := ["a", "b", "edges", "row", "pieces", "at_a", "at_b", "begin", "end"]) (sc := defScope s__pieces) (by decide +kernel)) (fun _ _ _ _ _ => (pg_name (i := 3) sc__pieces.nd rfl (Or.inl rfl))) (fun _ _ _ _ _ => pts_nil) (fun _ _ _ _ _ => by exact (pe_ix (r := rIxT K) ix_tup (pv 3) pe_int (fun _ _ => rfl)))) (pe_lc (own := [("row", 3)]) (g := (gName 3)) (tt := tYes) rfl sc__pieces.nd (pi_tup (pv 0)) (blkOk_by (own := [("row", 3)]) (N := ["a", "b", "edges", "row", "pieces", "at_a", "at_b", "begin", "end"]) (sc := defScope s__pieces) (by decide +kernel)) (fun _ _ _ _ _ => (pg_name (i := 3) sc__pieces.nd rfl (Or.inl rfl))) (fun _ _ _ _ _ => pts_nil) (fun _ _ _ _ _ => by exact (pe_ix (r := rIxT K) ix_tup (pv 3) pe_int (fun _ _ => rfl))))) (pe_lc (own := [("row", 3)]) (g := (gName 3)) (tt := tYes) rfl sc__pieces.nd (pi_tup (pv 1)) (blkOk_by (own := [("row", 3)]) (N := ["a", "b", "edges", "row", "pieces", "at_a", "at_b", "begin", "end"]) (sc := defScope s__pieces) (by decide +kernel)) (fun _ _ _ _ _ => (pg_name (i := 3) sc__pieces.nd rfl (Or.inl rfl))) (fun _ _ _ _ _ => pts_nil) (fun _ _ _ _ _ => by exact (pe_ix (r := rIxT K) ix_tup (pv 3) pe_int (fun _ _ => rfl))))) (pe_lc (own := [("row", 3)]) (g := (gName 3)) (tt := tYes) rfl sc__pieces.nd (pi_tup (pv 1)) (blkOk_by (own := [("row", 3)]) (N := ["a", "b", "edges", "row", "pieces", "at_a", "at_b", "begin", "end"]) (sc := defScope s__pieces) (by decide +kernel)) (fun _ _ _ _ _ => (pg_name (i := 3) sc__pieces.nd rfl (Or.inl rfl))) (fun _ _ _ _ _ => pts_nil) (fun _ _ _ _ _ => by exact (pe_ix (r := rIxT K) ix_tup (pv 3) pe_int (fun _ _ => rfl))))) pa_nil)) pa_nil)))
      (pss_cons (ps_set (i := 4) sc__pieces.nd rfl (Or.inl rfl) (pe_lst pa_nil))
      (pss_cons (ps_set (i := 5) sc__pieces.nd rfl (Or.inl rfl) pe_int)
      (pss_cons (ps_set (i := 6) sc__pieces.nd rfl (Or.inl rfl) pe_int)
      (pss_cons (ps_for PassesOwn.never rfl (pi_zip (by rfl) T.zip (pa_cons (pv 2) (pa_cons (pe_slice (r := rSlL K) sl_list (pv 2) (po_some pe_int) po_none) pa_nil))) (pg_tup rfl (pgs_cons (pg_name (i := 7) sc__pieces.nd rfl (Or.inl rfl)) (pgs_cons (pg_name (i := 8) sc__pieces.nd rfl (Or.inl rfl)) pgs_nil)))
      (pss_cons (ps_set (i := 5) sc__pieces.nd rfl (Or.inl rfl) (pe_call (ok__first_ending_behind_T T) (hr.mono (by decide)) rfl T.g_first_ending_behind T.k_first_ending_behind T.b_first_ending_behind .nil pass0 (pa_cons (pv 0) (pa_cons (pv 5) (pa_cons (pv 7) pa_nil)))))
      (pss_cons (ps_set (i := 6) sc__pieces.nd rfl (Or.inl rfl) (pe_call (ok__first_ending_behind_T T) (hr.mono (by decide)) rfl T.g_first_ending_behind T.k_first_ending_behind T.b_first_ending_behind .nil pass0 (pa_cons (pv 1) (pa_cons (pv 6) (pa_cons (pv 7) pa_nil)))))
      (pss_one (ps_expr (pe_bm PySem.F.plainAttrs_list PySem.F.slot_list_append PySem.F.type_list_append mt_append (pv 4) (pa_cons (pe_tup (pa_cons (pv 7) (pa_cons (pv 8) (pa_cons (pe_call (ok__row_from_T T) (hr.mono (by decide)) rfl T.g_row_from T.k_row_from T.b_row_from .nil pass0 (pa_cons (pv 0) (pa_cons (pv 5) (pa_cons (pv 7) pa_nil)))) (pa_cons (pe_call (ok__row_from_T T) (hr.mono (by decide)) rfl T.g_row_from T.k_row_from T.b_row_from .nil pass0 (pa_cons (pv 1) (pa_cons (pv 6) (pa_cons (pv 7) pa_nil)))) pa_nil))))) pa_nil)))))))
      (pss_one (ps_ret (pv 4)))))))), ?_⟩
    have lxa : xa.length = Aa.length := by rw [dpall_len hXa, List.length_map]
    have lxb : xb.length = Bb.length := by rw [dpall_len hXb, List.length_map]
    have atA : ∀ (i : Nat) (v : V), xa[i]? = some v → ∃ pr rest q, Aa[i]? = some q ∧ v = .ref pr ∧ SqT K U pr (.int (lo q) :: .int (hi q) :: rest) := row_at hD hXa
    have atB : ∀ (i : Nat) (v : V), xb[i]? = some v → ∃ pr rest q, Bb[i]? = some q ∧ v = .ref pr ∧ SqT K U pr (.int (lo q) :: .int (hi q) :: rest) := row_at hD hXb
    refine ⟨fun σ' H' => ∃ (pe : Addr) (es : List Int), σ' = [some (.ref pa), some (.ref pb), some (.ref pe), none, none, none, none, none, none] ∧ Same H H' ∧ H' pe = some (.lst (es.map V.int)) ∧ es.length < 400 ∧ es.Pairwise (· < ·) ∧ ∀ k, k ∈ es ↔ k ∈ edgeL lo hi Aa Bb, ?_, ?_⟩
    · refine ⟨_, rfl, pa, rfl, ⟨_, sU.sqt hSa⟩, fun D1 hD1 => ?_⟩
      refine lc_dp (walk_tup (K := K) (a := pa) (xs := xa)) (K := K) (V0 := H) (H0 := H) (fun i => (Aa[i]?).map fun q => PyData.int (lo q)) _ rfl (Same.refl _) hD1 (by omega) (fun H' s => s.sqt (sU.sqt hSa)) (fun i x H H' y => y.1) ?_ ?_
      · rintro j v U2 H2 hj xx ⟨_, hv⟩ Qy Qn hy _
        obtain ⟨pr, rest, qq, hq, rfl, hpr⟩ := atA j v hv
        exact ⟨rfl, _, rfl, pr, _, _, _, rfl, rfl, xx.hh.sqt (sU.sqt hpr), atI_nat (j := 0) rfl, hy _ _ _ _ (by rw [hq]; rfl) (Ext.refl xx.vh) (.int _)⟩
      rintro U1 H1 xs1 x1 d1 l1 _
      rw [lxa, fm_map] at l1
      have e1 : xs1 = (Aa.map lo).map V.int := dp_intsV (K := K) (H := U1) (by rw [List.map_map]; exact l1)
      subst e1
      have g1 := x1.vh _ _ d1
      have t1 := sU.trans x1.hh
      refine ⟨_, rfl, pa, rfl, ⟨_, t1.sqt hSa⟩, fun D2 hD2 => ?_⟩
      refine lc_dp (walk_tup (K := K) (a := pa) (xs := xa)) (K := K) (V0 := H1) (H0 := H1) (fun i => (Aa[i]?).map fun q => PyData.int (hi q)) _ rfl (Same.refl _) hD2 (by omega) (fun H' s => s.sqt (t1.sqt hSa)) (fun i x H H' y => y.1) ?_ ?_
      · rintro j v U2 H2 hj xx ⟨_, hv⟩ Qy Qn hy _
        obtain ⟨pr, rest, qq, hq, rfl, hpr⟩ := atA j v hv
        exact ⟨rfl, _, rfl, pr, _, _, _, rfl, rfl, xx.hh.sqt (t1.sqt hpr), atI_nat (j := 1) rfl, hy _ _ _ _ (by rw [hq]; rfl) (Ext.refl xx.vh) (.int _)⟩
      rintro U2 H2 xs2 x2 d2 l2 _
      rw [lxa, fm_map] at l2
      have e2 : xs2 = (Aa.map hi).map V.int := dp_intsV (K := K) (H := U2) (by rw [List.map_map]; exact l2)
      subst e2
      have g2 := x2.vh _ _ d2
      refine ⟨D1, D2, _, _, rfl, rfl, x2.hh _ _ g1, g2, len_line (by simp; omega), fun p3 hp3 => ?_⟩
      have g3 : (upd H2 p3 (.lst ((Aa.map lo).map V.int ++ (Aa.map hi).map V.int))) p3 = _ := upd_same
      have t3 := (t1.trans x2.hh).trans (same_upd (o := .lst ((Aa.map lo).map V.int ++ (Aa.map hi).map V.int)) hp3)
      have u3 := (x1.hh.trans x2.hh).trans (same_upd (o := .lst ((Aa.map lo).map V.int ++ (Aa.map hi).map V.int)) hp3)
      generalize upd H2 p3 (.lst ((Aa.map lo).map V.int ++ (Aa.map hi).map V.int)) = H3 at g3 t3 u3 ⊢
      refine ⟨_, rfl, pb, rfl, ⟨_, t3.sqt hSb⟩, fun D4 hD4 => ?_⟩
      refine lc_dp (walk_tup (K := K) (a := pb) (xs := xb)) (K := K) (V0 := H3) (H0 := H3) (fun i => (Bb[i]?).map fun q => PyData.int (lo q)) _ rfl (Same.refl _) hD4 (by omega) (fun H' s => s.sqt (t3.sqt hSb)) (fun i x H H' y => y.1) ?_ ?_
      · rintro j v U2 H2 hj xx ⟨_, hv⟩ Qy Qn hy _
        obtain ⟨pr, rest, qq, hq, rfl, hpr⟩ := atB j v hv
        exact ⟨rfl, _, rfl, pr, _, _, _, rfl, rfl, xx.hh.sqt (t3.sqt hpr), atI_nat (j := 0) rfl, hy _ _ _ _ (by rw [hq]; rfl) (Ext.refl xx.vh) (.int _)⟩
      rintro U4 H4 xs4 x4 d4 l4 _
      rw [lxb, fm_map] at l4
      have e4 : xs4 = (Bb.map lo).map V.int := dp_intsV (K := K) (H := U4) (by rw [List.map_map]; exact l4)
      subst e4
      have g4 := x4.vh _ _ d4
      refine ⟨p3, D4, _, _, rfl, rfl, x4.hh _ _ g3, g4, len_line (by simp; omega), fun p5 hp5 => ?_⟩
      have g5 : (upd H4 p5 (.lst (((Aa.map lo).map V.int ++ (Aa.map hi).map V.int) ++ (Bb.map lo).map V.int))) p5 = _ := upd_same
      have t5 := (t3.trans x4.hh).trans (same_upd (o := .lst (((Aa.map lo).map V.int ++ (Aa.map hi).map V.int) ++ (Bb.map lo).map V.int)) hp5)
      have u5 := (u3.trans x4.hh).trans (same_upd (o := .lst (((Aa.map lo).map V.int ++ (Aa.map hi).map V.int) ++ (Bb.map lo).map V.int)) hp5)
      generalize upd H4 p5 (.lst (((Aa.map lo).map V.int ++ (Aa.map hi).map V.int) ++ (Bb.map lo).map V.int)) = H5 at g5 t5 u5 ⊢
      refine ⟨_, rfl, pb, rfl, ⟨_, t5.sqt hSb⟩, fun D6 hD6 => ?_⟩
      refine lc_dp (walk_tup (K := K) (a := pb) (xs := xb)) (K := K) (V0 := H5) (H0 := H5) (fun i => (Bb[i]?).map fun q => PyData.int (hi q)) _ rfl (Same.refl _) hD6 (by omega) (fun H' s => s.sqt (t5.sqt hSb)) (fun i x H H' y => y.1) ?_ ?_
      · rintro j v U2 H2 hj xx ⟨_, hv⟩ Qy Qn hy _
        obtain ⟨pr, rest, qq, hq, rfl, hpr⟩ := atB j v hv
        exact ⟨rfl, _, rfl, pr, _, _, _, rfl, rfl, xx.hh.sqt (t5.sqt hpr), atI_nat (j := 1) rfl, hy _ _ _ _ (by rw [hq]; rfl) (Ext.refl xx.vh) (.int _)⟩
      rintro U6 H6 xs6 x6 d6 l6 _
      rw [lxb, fm_map] at l6
      have e6 : xs6 = (Bb.map hi).map V.int := dp_intsV (K := K) (H := U6) (by rw [List.map_map]; exact l6)
      subst e6
      have g6 := x6.vh _ _ d6
      refine ⟨p5, D6, _, _, rfl, rfl, x6.hh _ _ g5, g6, len_line (by simp; omega), fun p7 hp7 => ?_⟩
      have ee : (((Aa.map lo).map V.int ++ (Aa.map hi).map V.int) ++ (Bb.map lo).map V.int) ++ (Bb.map hi).map V.int = (edgeL lo hi Aa Bb).map V.int := by unfold edgeL; simp only [List.map_append]
      have el : (edgeL lo hi Aa Bb).length < 1800 := by unfold edgeL; simp only [List.length_append, List.length_map]; omega
      rw [ee]
      refine ⟨p7, edgeL lo hi Aa Bb, rfl, SqL.of upd_same, by unfold scanBound; omega, fun ps c hps hc hc2 => ?_⟩
      have hc3 := hc2 e0 he0
      refine ⟨ps, _, c, rfl, upd_same, fun es p8 hs hm hl hp8 => ?_⟩
      refine ⟨p8, es, rfl, ?_, upd_same, by omega, hs, fun k => by rw [hm k, decide_eq_true_eq]⟩
      exact (((u5.trans x6.hh).trans (same_upd hp7)).trans (same_upd hps)).trans (same_upd hp8)
    rintro σ' H1 ⟨pe, es, rfl, s1, he, hel, hep, hem⟩
    refine ⟨len_line (by show 0 ≤ 100000; decide), fun pp hpp => ?_⟩
    have sU1 := sU.trans s1
    have inv0 := LcInv.start (K := K) sU1 hpp
    have he2 := same_upd (o := .lst []) hpp _ _ he
    have s2 : Same H1 (upd H1 pp (.lst [])) := same_upd hpp
    generalize hH2 : upd H1 pp (.lst []) = H2 at inv0 he2 s2 ⊢
    refine ⟨_, rfl, _, rfl, _, rfl, pe, _, rfl, SqL.of he2, fun p6 hp6 => ?_⟩
    rw [cut_tail] at *
    have hsl : (segs es).length = min (es.map V.int).length (es.map V.int).tail.length := by rw [segs_len]; simp
    have he3 := same_upd (o := .lst (es.map V.int).tail) hp6 _ _ he2
    have h63 : (upd H2 p6 (.lst (es.map V.int).tail)) p6 = _ := upd_same
    have inv3 : LcInv K U H1 pp [] (upd H2 p6 (.lst (es.map V.int).tail)) := by
      obtain ⟨V1, xs, x, f1, f2, f3⟩ := inv0.ex
      have sn := same_upd (o := .lst (es.map V.int).tail) hp6
      exact ⟨V1, xs, ⟨x.vv, x.vh.trans sn, x.hh.trans sn, x.nw⟩, f1, sn _ _ f2, f3⟩
    have npp : H1 pp = none := hpp
    have npe : pe ≠ pp := fun z => by rw [z, npp] at he; cases he
    have np6 : p6 ≠ pp := (ne_of_none (by rw [← hH2]; exact upd_same : H2 pp = some (.lst [])) hp6).symm
    generalize upd H2 p6 (.lst (es.map V.int).tail) = H3 at he3 h63 inv3 ⊢
    have keep : ∀ H' acc, LcInv K U H1 pp acc H' → Same H1 H' := fun H' acc i => by obtain ⟨_, _, x, _⟩ := i.ex; exact x.hh
    refine ⟨pe, p6, _, _, rfl, SqL.of he3, SqL.of h63, for_it (walk_zip (K := K) (a := pe) (b := p6) (n := (segs es).length) hsl)
      (fun i σ H' => ∃ (ia ib : Nat) (v7 v8 : Option V), σ = [some (.ref pa), some (.ref pb), some (.ref pe), none, some (.ref pp), some (.int (ia : Int)), some (.int (ib : Int)), v7, v8] ∧ LcInv K U H1 pp (((segs es).take i).map (pieceD lo hi D Aa Bb)) H' ∧ H' pe = some (.lst (es.map V.int)) ∧ H' p6 = some (.lst (es.map V.int).tail) ∧
        ia ≤ Aa.length ∧ ib ≤ Bb.length ∧ (∀ (j : Nat) (q : r), j < ia → Aa[j]? = some q → ∀ (k : Nat) (t : Int × Int), i ≤ k → (segs es)[k]? = some t → hi q ≤ t.1) ∧ (∀ (j : Nat) (q : r), j < ib → Bb[j]? = some q → ∀ (k : Nat) (t : Int × Int), i ≤ k → (segs es)[k]? = some t → hi q ≤ t.1))
      ⟨0, 0, none, none, rfl, inv3, he3, h63, Nat.zero_le _, Nat.zero_le _, fun j q hj => absurd hj (Nat.not_lt_zero _), fun j q hj => absurd hj (Nat.not_lt_zero _)⟩ (fun i σ H' _ ⟨_, _, _, _, _, _, e1, e2, _⟩ => ⟨SqL.of e1, SqL.of e2⟩) ?_ ?_⟩
    · rintro i x σ H4 H5 hin ⟨ia, ib, v7, v8, rfl, inv4, he4, h64, la, lb, ba, bb⟩ ⟨T2, y1, y2, rfl, hT, rfl, hy1, hy2⟩
      obtain ⟨bg, en, rfl, rfl, hsg⟩ := segs_at hy1 hy2
      obtain ⟨V4, xs4, x4, f1, f2, f3⟩ := inv4.ex
      have sT : Same H4 (upd H4 T2 (.tup [.int bg, .int en])) := same_upd hT
      have x5 : Ext V4 H4 V4 (upd H4 T2 (.tup [.int bg, .int en])) := Ext.skip x4.vh hT
      have e5 : (upd H4 T2 (.tup [.int bg, .int en])) T2 = _ := upd_same
      have sU5 : Same U (upd H4 T2 (.tup [.int bg, .int en])) := x4.vv.trans x5.vh
      generalize upd H4 T2 (.tup [.int bg, .int en]) = H5 at sT x5 e5 sU5 ⊢
      refine ⟨T2, _, rfl, SqT.of e5, rfl, _, _, rfl, _, _, rfl, rfl, ?_⟩
      refine ⟨_, rfl, _, rfl, _, rfl, r, lo, hi, D, Aa, pa, xa, ia, bg, rfl, hD, sU5.sqt hSa, dpall_same sU5 _ _ hXa, la, fun j q hj hq => ba j q hj hq i _ (Nat.le_refl _) hsg, fun ia' la' ba1 ba2 => ?_⟩
      refine ⟨_, rfl, _, rfl, _, rfl, r, lo, hi, D, Bb, pb, xb, ib, bg, rfl, hD, sU5.sqt hSb, dpall_same sU5 _ _ hXb, lb, fun j q hj hq => bb j q hj hq i _ (Nat.le_refl _) hsg, fun ib' lb' bb1 bb2 => ?_⟩
      have ra := rowAt_idx Ra ba1 ba2
      have rb := rowAt_idx Rb bb1 bb2
      have sV : Same U V4 := x4.vv
      refine ⟨_, rfl, .inl ⟨rfl, _, SqL.of (x5.hh _ _ f2)⟩, _, rfl, _, rfl, _, rfl, _, rfl, _, rfl, r, lo, hi, D, Aa, pa, xa, ia', bg, V4, rfl, hD, x5.vh, sV.sqt hSa, dpall_same sV _ _ hXa, fun va da => ?_⟩
      refine ⟨_, rfl, _, rfl, _, rfl, r, lo, hi, D, Bb, pb, xb, ib', bg, V4, rfl, hD, x5.vh, sV.sqt hSb, dpall_same sV _ _ hXb, fun vb db => ?_⟩
      rw [← ra] at da
      rw [← rb] at db
      refine ⟨len_line (by show 4 ≤ 100000; decide), fun pt hpt => ?_⟩
      have x6 := x5.trans (Ext.new (o := .tup [.int bg, .int en, va, vb]) x5.vh hpt)
      have sq := same_upd (o := .tup [.int bg, .int en, va, vb]) (none_of_same x5.vh hpt)
      have dt : Dp K (upd V4 pt (.tup [.int bg, .int en, va, vb])) (.ref pt) (pieceD lo hi D Aa Bb (bg, en)) := .tup (SqT.of upd_same) (.cons (.int _) (.cons (.int _) (.cons (da.to sq) (.cons (db.to sq) .nil))))
      have hl : (((segs es).take i).map (pieceD lo hi D Aa Bb)).length < 100000 := by
        rw [List.length_map, List.length_take]
        have := (List.getElem?_eq_some_iff.mp hsg).1
        rw [segs_len] at this; omega
      obtain ⟨acc', j1, j2, j3⟩ := LcInv.push npp x4 f1 f2 f3 x6 dt hl
      refine ⟨pp, _, _, rfl, rfl, j1, j2, ?_⟩
      have et : ((segs es).take (i + 1)).map (pieceD lo hi D Aa Bb) = ((segs es).take i).map (pieceD lo hi D Aa Bb) ++ [pieceD lo hi D Aa Bb (bg, en)] := by
        obtain ⟨hl', e'⟩ := List.getElem?_eq_some_iff.mp hsg
        rw [List.take_succ_eq_append_getElem hl', List.map_append, e']; rfl
      refine ⟨ia', ib', _, _, rfl, by rw [et]; exact j3, ?_, ?_, la', lb', fun j q hj hq k t hk ht => ?_, fun j q hj hq k t hk ht => ?_⟩
      · rw [upd_ne npe]; exact x6.hh _ _ he4
      · rw [upd_ne np6]; exact x6.hh _ _ h64
      · exact Int.le_trans (ba1 j q hj hq) (segs_asc hep (i := i) (j := k) (by omega) hsg ht)
      · exact Int.le_trans (bb1 j q hj hq) (segs_asc hep (i := i) (j := k) (by omega) hsg ht)
    · rintro σ H4 ⟨ia, ib, v7, v8, rfl, inv4, _⟩
      rw [List.take_length] at inv4
      obtain ⟨U5, xs5, x5, k1, k2, k3⟩ := inv4.done npp
      exact ⟨_, rfl, q _ _ _ es ⟨x5.vv, x5.vh, s1.trans x5.hh, fun a h => by
        rcases x5.nw a h with z | z
        · exact .inl z
        · exact .inr (s1.free z)⟩ hel hep hem k3⟩
/-! ### what is kept; the spans of two bands together -/
def sp_keep (op : Bool → Bool → Bool) (K : PySem.W.Frag) : Sp := fun vs H Q _ => ∃ a b : Bool, vs = [.bl a, .bl b] ∧ Q (.bl (op a b)) H
def KeepAt (A : Adr) (f : Addr) (op : Bool → Bool → Bool) : Prop := (f = A.f_either ∧ op = or) ∨ (f = A.f_first_alone ∧ op = fun a b => a && !b)
theorem KeepAt.ff {A : Adr} {f : Addr} {op : Bool → Bool → Bool} (h : KeepAt A f op) : op false false = false := by
  rcases h with ⟨_, rfl⟩ | ⟨_, rfl⟩ <;> rfl
theorem sc__either : FnScope ["first", "second"] ["first", "second"] (defScope s__either) := ⟨rfl, rfl, rfl, by decide +kernel, rfl, by decide +kernel, by decide +kernel⟩
theorem sc__first_alone : FnScope ["first", "second"] ["first", "second"] (defScope s__first_alone) := ⟨rfl, rfl, rfl, by decide +kernel, rfl, by decide +kernel, by decide +kernel⟩
theorem ok__either (T : Txt0 P K mg A) : FnOk P w K mg base CX0 1 A.f_either A.d_either ["first", "second"] (sp_keep or K) := by
  refine T.F_either.ok sc__either (fun vs H Q E h => ?_) (fun cdv Ar outer s H vs Q E hr h => ?_)
  · obtain ⟨_, _, rfl, _⟩ := h
    rfl
  · obtain ⟨a, b, rfl, q⟩ := h
    refine ⟨_, (pss_one (ps_ret (pe_or (pv 0) (pe_one (pv 1))))), ?_⟩
    cases a <;> walk_at "go" <;> exact q
theorem ok__first_alone (T : Txt0 P K mg A) : FnOk P w K mg base CX0 1 A.f_first_alone A.d_first_alone ["first", "second"] (sp_keep (fun a b => a && !b) K) := by
  refine T.F_first_alone.ok sc__first_alone (fun vs H Q E h => ?_) (fun cdv Ar outer s H vs Q E hr h => ?_)
  · obtain ⟨_, _, rfl, _⟩ := h
    rfl
  · obtain ⟨a, b, rfl, q⟩ := h
    refine ⟨_, (pss_one (ps_ret (pe_and (pv 0) (pe_one (pe_not (pv 1)))))), ?_⟩
    cases a <;> walk_at "go" <;> exact q
theorem keep_ok (T : Txt0 P K mg A) {f : Addr} {op : Bool → Bool → Bool} (h : KeepAt A f op) : ∃ (fd : FuncData) (ps : List Str), FnOk P w K mg base CX0 1 f fd ps (sp_keep op K) ∧ PySem.W.keepIn K (.ref f) = true ∧ Binds K fd ps [] := by
  rcases h with ⟨rfl, rfl⟩ | ⟨rfl, rfl⟩
  · exact ⟨_, _, ok__either T, T.k_either, T.b_either⟩
  · exact ⟨_, _, ok__first_alone T, T.k_first_alone, T.b_first_alone⟩
theorem row_span : RowOf K Prod.fst Prod.snd spanD := fun H v q h => by
  obtain ⟨a, e, h2⟩ := dp_span h
  exact ⟨a, [], e, h2⟩
theorem row_band : RowOf K (fun b : Band => b.1) (fun b => b.2.1) bandD := fun H v q h => by
  obtain ⟨a, p, ss, e, h2, _⟩ := dp_band h
  exact ⟨a, [.ref p], e, h2⟩
def spC (p q : Span) : Bool := decide (p.2 = q.1)
def spJ (p q : Span) : Span := (p.1, q.2)
def keptS (op : Bool → Bool → Bool) (a b : List Span) (ss : List (Int × Int)) : List Span := ss.filter fun s => op (rowAt Prod.fst Prod.snd a s.1).isSome (rowAt Prod.fst Prod.snd b s.1).isSome
def combS (op : Bool → Bool → Bool) (a b : List Span) (es : List Int) : List Span := merge spC spJ (keptS op a b (segs es))
theorem not_none {r : Type} {lo hi : r → Int} {D : r → PyData} {K : PySem.W.Frag} {H : Hp} {v : V} {o : Option r} (hD : RowOf K lo hi D) (h : Dp K H v (oD D o)) : (!decide (v = .non)) = o.isSome := by
  cases o with
  | none => cases h; rfl
  | some q =>
    obtain ⟨p, rest, rfl, _⟩ := hD _ _ _ h
    rw [decide_eq_false (fun z => by cases z)]; rfl
theorem filter_snoc {α : Type} (f : α → Bool) {xs : List α} {i : Nat} {x : α} (h : xs[i]? = some x) : (xs.take (i + 1)).filter f = (xs.take i).filter f ++ (if f x = true then [x] else []) := by
  obtain ⟨hi, e⟩ := List.getElem?_eq_some_iff.mp h
  rw [List.take_succ_eq_append_getElem hi, List.filter_append, e]
  by_cases c : f x = true
  · rw [if_pos c, List.filter_cons_of_pos c]; rfl
  · rw [if_neg c, List.filter_cons_of_neg c]; rfl
theorem mstep_len {e : Type} (cond : e → e → Bool) (join : e → e → e) (acc : List e) (q : e) : (mstep cond join acc q).length ≤ acc.length + 1 := by
  rcases last_cases acc with rfl | ⟨a, p, rfl⟩
  · exact Nat.le_refl 1
  · rw [mstep_last]; split <;> simp
theorem merge_len {e : Type} (cond : e → e → Bool) (join : e → e → e) : ∀ (n : Nat) (qs : List e), qs.length = n → (merge cond join qs).length ≤ n
  | 0, qs, h => by cases List.eq_nil_of_length_eq_zero h; exact Nat.le_refl 0
  | n + 1, qs, h => by
    rcases last_cases qs with rfl | ⟨a, p, rfl⟩
    · cases h
    rw [merge_snoc]
    have h1 := merge_len cond join n a (by simpa using h)
    have h2 := mstep_len cond join (merge cond join a) p
    omega
theorem dpall_snoc {K : PySem.W.Frag} {H : Hp} : ∀ {ds : List PyData} {d : PyData} {zs : List V}, DpAll K H zs (ds ++ [d]) → ∃ z0 z, zs = z0 ++ [z] ∧ DpAll K H z0 ds ∧ Dp K H z d
  | [], d, zs, h => by
    cases h with | cons h1 h2 => cases h2; exact ⟨[], _, rfl, .nil, h1⟩
  | e :: ds, d, zs, h => by
    cases h with | cons h1 h2 =>
      obtain ⟨z0, z, e1, e2, e3⟩ := dpall_snoc h2
      exact ⟨_ :: z0, z, by rw [e1]; rfl, .cons h1 e2, e3⟩
def sp__combined_spans (A : Adr) (K : PySem.W.Frag) : Sp := fun vs H Q _ => ∃ (op : Bool → Bool → Bool) (a b : List Span) (pa pb f : Addr) (xa xb : List V) (U : Hp), vs = [.ref pa, .ref pb, .ref f] ∧ KeepAt A f op ∧ Same U H ∧ SqT K U pa xa ∧ DpAll K U xa (a.map spanD) ∧ SqT K U pb xb ∧ DpAll K U xb (b.map spanD) ∧
  Rows Prod.fst Prod.snd a ∧ Rows Prod.fst Prod.snd b ∧ a.length + b.length < 900 ∧ (∃ e0 : List Int, (∀ k, k ∈ edgeL Prod.fst Prod.snd a b → k ∈ e0) ∧ e0.length < 400) ∧
  ∀ v U' H' es, Ext U H U' H' → es.Pairwise (· < ·) → (∀ k, k ∈ es ↔ k ∈ edgeL Prod.fst Prod.snd a b) → Dp K U' v (spansD (combS op a b es)) → Q v H'
theorem sc__combined_spans : FnScope ["a", "b", "keeps", "spans", "begin", "end", "first", "second"] ["a", "b", "keeps"] (defScope s__combined_spans) := ⟨rfl, rfl, rfl, by decide +kernel, rfl, by decide +kernel, by decide +kernel⟩
theorem ok__combined_spans (T : Txt0 P K mg A) : FnOk P w K mg base CX0 3 A.f_combined_spans A.d_combined_spans ["a", "b", "keeps"] (sp__combined_spans A K) := by
  refine T.F_combined_spans.ok sc__combined_spans (fun vs H Q E h => ?_) (fun cdv Ar outer s H vs Q E hr h => ?_)
  · obtain ⟨_, _, _, _, _, _, _, _, _, rfl, _⟩ := h
    rfl
  · obtain ⟨op, a, b, pa, pb, f, xa, xb, U, rfl, hk, sU, hSa, hXa, hSb, hXb, Ra, Rb, hln, he0, q⟩ := h
    obtain ⟨fdk, psk, Fkeeps, kkeeps, bkeeps⟩ := keep_ok (P := P) (w := w) (base := base) T hk
    refine ⟨_, (pss_cons (ps_set (i := 3) sc__combined_spans.nd rfl (Or.inl rfl) (pe_lst pa_nil))
      (pss_cons (ps_for PassesOwn.never rfl (pi_list (pe_call (ok__pieces_T T) (hr.mono (by decide)) rfl T.g_pieces T.k_pieces T.b_pieces .nil pass0 (pa_cons (pv 0) (pa_cons (pv 1) pa_nil)))) (pg_tup rfl (pgs_cons (pg_name (i := 4) sc__combined_spans.nd rfl (Or.inl rfl)) (pgs_cons (pg_name (i := 5) sc__combined_spans.nd rfl (Or.inl rfl)) (pgs_cons (pg_name (i := 6) sc__combined_spans.nd rfl (Or.inl rfl)) (pgs_cons (pg_name (i := 7) sc__combined_spans.nd rfl (Or.inl rfl)) pgs_nil)))))
      (pss_cons (ps_if (pt_not (pt_val (pe_callL (i := 2) Fkeeps (hr.mono (by decide)) rfl (Or.inl rfl) kkeeps bkeeps .nil pass0 (pa_cons (pe_cmpR op_notN (pv 6) pe_non (nomark _)) (pa_cons (pe_cmpR op_notN (pv 7) pe_non (nomark _)) pa_nil)))))
      (pss_one ps_continue)
      pss_nil)
      (C8.pss_cut (ps_if (PW.pt (pw_and (pt_truth (pv 3) (by intro _; rfl)) (pw_and1 (pt_cmpR op_eq (pe_ix (r := rIxT K) ix_tup (pe_ix (r := rIxL K) ix_list (pv 3) (pe_un un_neg pe_int) (fun _ _ => rfl)) pe_int (fun _ _ => rfl)) (pv 4) (nomark _)))))
      (pss_one (ps_set (i := 4) sc__combined_spans.nd rfl (Or.inl rfl) (pe_ix (r := rIxT K) ix_tup (pe_bm0 PySem.F.plainAttrs_list PySem.F.slot_list_pop PySem.F.type_list_pop mt_pop (pv 3)) pe_int (fun _ _ => rfl))))
      pss_nil)
      (pss_one (ps_expr (pe_bm PySem.F.plainAttrs_list PySem.F.slot_list_append PySem.F.type_list_append mt_append (pv 3) (pa_cons (pe_tup (pa_cons (pv 4) (pa_cons (pv 5) pa_nil))) pa_nil)))))))
      (pss_one (ps_ret (pe_callTy call_tuple_of (by rfl) T.tuple (by decide +kernel) (pa_cons (pv 3) pa_nil)))))), ?_⟩
    refine ⟨len_line (by show 0 ≤ 100000; decide), fun D hD => ?_⟩
    have npD : H D = none := hD
    have inv0 := LcInv.start (K := K) sU hD
    have s0 : Same H (upd H D (.lst [])) := same_upd hD
    have eD0 : (upd H D (.lst [])) D = _ := upd_same
    generalize upd H D (.lst []) = H1 at inv0 s0 eD0 ⊢
    refine ⟨_, rfl, _, rfl, Span, Prod.fst, Prod.snd, spanD, a, b, pa, pb, xa, xb, U, rfl, row_span, sU.trans s0, hSa, hXa, hSb, hXb, Ra, Rb, hln, he0, fun vp U2 H2 es x2 hel hep hem dvp => ?_⟩
    obtain ⟨pp, ps, rfl, hpp, hps⟩ := dp_list dvp
    have lps : ps.length = (segs es).length := by rw [dpall_len hps, List.length_map]
    -- the view of the loop: U2, in which D is not
    have hD2 : U2 D = none := x2.keepOut (none_of_same sU hD) (by rw [eD0]; exact fun z => by cases z)
    have lsg : (segs es).length < 1000 := by rw [segs_len]; omega
    have xb : Ext U H U2 H2 := ⟨x2.vv, x2.vh, s0.trans x2.hh, fun a h => by
      rcases x2.nw a h with z | z
      · exact .inl z
      · exact .inr (s0.free z)⟩
    refine ⟨pp, rfl, ⟨_, x2.vh.seq hpp⟩, for_list (K := K) (a := pp) (xs := ps) (fun i σ H' => ∃ (v4 v5 v6 v7 : Option V) (V' : Hp) (zs : List V), σ = [some (.ref pa), some (.ref pb), some (.ref f), some (.ref D), v4, v5, v6, v7] ∧ Ext U H V' H' ∧ Same U2 V' ∧ V' D = none ∧ H' D = some (.lst zs) ∧ DpAll K V' zs ((merge spC spJ (keptS op a b ((segs es).take i))).map spanD)) ?_ ?_ ?_ ?_⟩
    · exact ⟨_, _, _, _, U2, [], rfl, xb, Same.refl _, hD2, x2.hh _ _ eD0, .nil⟩
    · rintro i σ H' _ ⟨_, _, _, _, V', zs, _, x, sv, _⟩
      exact x.vh.seq (sv.seq hpp)
    · rintro i x σ H3 hx ⟨v4, v5, v6, v7, V3, zs, rfl, x3, sv3, hV3, hz, dz⟩
      obtain ⟨d, hd, dv⟩ := dpall_get hps hx
      rw [List.getElem?_map] at hd
      obtain ⟨⟨bg, en⟩, hsg, rfl⟩ := Option.map_eq_some_iff.mp hd
      obtain ⟨pt, ws, rfl, qt, rt⟩ := dp_tuple dv
      cases rt with | cons r1 rt => cases rt with | cons r2 rt => cases rt with | cons r3 rt => cases rt with | cons r4 rt =>
      cases rt; cases r1; cases r2
      rename_i va vb
      have n1 := not_none row_span r3
      have n2 := not_none row_span r4
      refine ⟨pt, _, rfl, x3.vh.sqt (sv3.sqt qt), rfl, _, _, rfl, _, _, rfl, _, _, rfl, _, _, rfl, rfl, ?_⟩
      refine ⟨rfl, _, rfl, rfl, _, rfl, rfl, _, _, rfl, _, rfl, ?_⟩
      rw [n1, n2]
      have hf := filter_snoc (fun s => op (rowAt Prod.fst Prod.snd a s.1).isSome (rowAt Prod.fst Prod.snd b s.1).isSome) hsg
      have hi : i < (segs es).length := (List.getElem?_eq_some_iff.mp hsg).1
      cases hc : op (rowAt Prod.fst Prod.snd a bg).isSome (rowAt Prod.fst Prod.snd b bg).isSome with
      | false =>
        refine if_t rfl ?_
        refine ⟨_, _, _, _, V3, zs, rfl, x3, sv3, hV3, hz, ?_⟩
        have e : keptS op a b ((segs es).take (i + 1)) = keptS op a b ((segs es).take i) := by
          unfold keptS; rw [hf]; dsimp only; rw [hc]; simp
        rw [e]; exact dz
      | true =>
        refine if_f rfl ?_
        have e : merge spC spJ (keptS op a b ((segs es).take (i + 1))) = mstep spC spJ (merge spC spJ (keptS op a b ((segs es).take i))) (bg, en) := by
          rw [← merge_snoc]; unfold keptS; rw [hf]; dsimp only; rw [hc]; simp
        rw [e]
        have lm : (merge spC spJ (keptS op a b ((segs es).take i))).length ≤ 1000 := by
          have h1 := merge_len spC spJ _ (keptS op a b ((segs es).take i)) rfl
          have h2 : (keptS op a b ((segs es).take i)).length ≤ ((segs es).take i).length := List.length_filter_le _ _
          rw [List.length_take] at h2
          omega
        generalize merge spC spJ (keptS op a b ((segs es).take i)) = m at dz lm ⊢
        refine ⟨fun σ' H' => ∃ (bg' : Int) (m' : List Span) (zs' : List V), σ' = [some (.ref pa), some (.ref pb), some (.ref f), some (.ref D), some (.int bg'), some (.int en), some va, some vb] ∧ Ext U H V3 H' ∧ H' D = some (.lst zs') ∧ DpAll K V3 zs' (m'.map spanD) ∧ mstep spC spJ m (bg, en) = m' ++ [(bg', en)] ∧ m'.length ≤ 1000, ?_, ?_⟩
        · rcases last_cases m with rfl | ⟨m0, p0, rfl⟩
          · cases dz
            refine ⟨_, rfl, false, .inl ⟨[], SqL.of hz, rfl⟩, if_f rfl ?_⟩
            exact ⟨bg, [], [], rfl, x3, hz, .nil, rfl, Nat.zero_le _⟩
          · rw [List.map_append] at dz
            obtain ⟨z0, zp, rfl, d0, dp0⟩ := dpall_snoc dz
            obtain ⟨ap, rfl, qp⟩ := dp_span dp0
            have qp3 := x3.vh.sqt qp
            refine ⟨_, rfl, true, .inl ⟨_, SqL.of hz, by simp⟩, if_t rfl ?_⟩
            refine ⟨_, rfl, _, rfl, D, _, _, _, rfl, rfl, SqL.of hz, atI_last _ _, ap, _, _, _, rfl, rfl, qp3, atI_nat (j := 1) rfl, ?_⟩
            refine ⟨_, rfl, rfl, _, rfl, iteEq (fun h => ?_) (fun h => ?_)⟩
            · refine ⟨_, rfl, .inl ⟨rfl, _, SqL.of hz⟩, D, _, .ref ap, rfl, rfl, hz, by simp, ?_⟩
              rw [List.dropLast_concat]
              have x4 := x3.poke (o := .lst z0) npD hV3
              refine ⟨ap, _, _, _, rfl, rfl, x4.vh.sqt qp, atI_nat (j := 0) rfl, ?_⟩
              refine ⟨p0.1, m0, z0, rfl, x4, upd_same, d0, ?_, by rw [List.length_append] at lm; omega⟩
              rw [mstep_last, if_pos (by unfold spC; exact decide_eq_true h)]; rfl
            · refine ⟨bg, m0 ++ [p0], z0 ++ [.ref ap], rfl, x3, hz, by rw [List.map_append]; exact dz, ?_, lm⟩
              rw [mstep_last, if_neg (by unfold spC; rw [decide_eq_false h]; decide)]
        · rintro σ' H4 ⟨bg', m', zs', rfl, x4, hz4, dz4, em, lm'⟩
          rw [em]
          refine ⟨_, rfl, .inl ⟨rfl, _, SqL.of hz4⟩, _, rfl, _, rfl, len_line (by show 2 ≤ 100000; decide), fun p5 h5 => ?_⟩
          have xn := Ext.new (o := .tup [.int bg', .int en]) x4.vh h5
          have x5 := x4.trans xn
          have hV5 := xn.keepOut hV3 (by rw [hz4]; exact fun z => by cases z)
          have hz5 := xn.hh _ _ hz4
          refine ⟨D, _, _, rfl, rfl, hz5, lt_line (by rw [dpall_len dz4, List.length_map]; omega), ?_⟩
          refine ⟨_, _, _, _, _, _, rfl, x5.poke npD hV5, sv3.trans xn.vv, hV5, upd_same, ?_⟩
          rw [List.map_append]
          exact dpall_app (dz4.to xn.vv) (.cons (mk_span (s := (bg', en)) (SqT.of upd_same)) .nil)
    · rintro σ H3 ⟨v4, v5, v6, v7, V3, zs, rfl, x3, sv3, hV3, hz, dz⟩
      rw [lps, List.take_length] at dz
      refine ⟨_, rfl, D, zs, rfl, .inl ⟨SqL.of hz, fun pr hpr => ?_⟩⟩
      have xn := Ext.new (o := .tup zs) x3.vh hpr
      exact q _ _ _ es (x3.trans xn) hep hem (.tup (SqT.of upd_same) (dz.to xn.vv))

def spansOf : Option Band → List Span
  | none => []
  | some b => b.2.2
def sp__spans_of (K : PySem.W.Frag) : Sp := fun vs H Q _ => ∃ (v : V) (o : Option Band) (U : Hp), vs = [v] ∧ Same U H ∧ Dp K U v (oD bandD o) ∧ ∀ p xs U' H', Ext U H U' H' → SqT K U' p xs → DpAll K U' xs ((spansOf o).map spanD) → Q (.ref p) H'
theorem sc__spans_of : FnScope ["band"] ["band"] (defScope s__spans_of) := ⟨rfl, rfl, rfl, by decide +kernel, rfl, by decide +kernel, by decide +kernel⟩
theorem ok__spans_of (T : Txt0 P K mg A) : FnOk P w K mg base CX0 1 A.f_spans_of A.d_spans_of ["band"] (sp__spans_of K) := by
  refine T.F_spans_of.ok sc__spans_of (fun vs H Q E h => ?_) (fun cdv Ar outer s H vs Q E hr h => ?_)
  · obtain ⟨_, _, _, rfl, _⟩ := h
    rfl
  · obtain ⟨v, o, U, rfl, sU, dv, q⟩ := h
    refine ⟨_, (pss_one (ps_ret (pe_ifExp (pt_cmpR op_isN (pv 0) pe_non (nomark _)) (pe_tup pa_nil) (pe_ix (r := rIxT K) ix_tup (pv 0) pe_int (fun _ _ => rfl))))), ?_⟩
    cases o with
    | none =>
      cases dv
      refine ⟨_, rfl, rfl, _, rfl, if_t rfl ?_⟩
      refine ⟨len_line (by show 0 ≤ 100000; decide), fun p hp => q p [] _ _ (Ext.new sU hp) (SqT.of upd_same) .nil⟩
    | some b =>
      obtain ⟨a, p, ss, rfl, h1, h2, h3⟩ := dp_band dv
      refine ⟨_, rfl, rfl, _, rfl, if_f rfl ?_⟩
      refine ⟨_, rfl, a, _, _, _, rfl, rfl, sU.sqt h1, atI_nat (j := 2) rfl, ?_⟩
      exact q p ss U H (Ext.refl sU) h2 h3
/-! ### bands that touch become one; the three operations -/
theorem eqv_span (s t : Span) : PyData.eqv (spanD s) (spanD t) = decide (s = t) := by
  obtain ⟨a, b⟩ := s
  obtain ⟨c, d⟩ := t
  show PyData.eqv (.tuple [.int a, .int b]) (.tuple [.int c, .int d]) = _
  simp only [PyData.eqv, PyData.eqvAll, Bool.and_true]
  by_cases h1 : a = c
  · by_cases h2 : b = d
    · subst h1; subst h2; simp
    · simp [h2]
  · simp [h1]
theorem eqvAll_spans : ∀ s t : List Span, PyData.eqvAll (s.map spanD) (t.map spanD) = decide (s = t)
  | [], [] => by simp [PyData.eqvAll]
  | [], _ :: _ => by simp [PyData.eqvAll]
  | _ :: _, [] => by simp [PyData.eqvAll]
  | a :: s, b :: t => by
    simp only [List.map_cons, PyData.eqvAll]
    rw [eqv_span, eqvAll_spans s t]
    by_cases h1 : a = b
    · subst h1; by_cases h2 : s = t <;> simp [h2]
    · simp [h1]
theorem eqv_spans (s t : List Span) : PyData.eqv (spansD s) (spansD t) = decide (s = t) := by
  unfold spansD
  rw [show PyData.eqv (.tuple (s.map spanD)) (.tuple (t.map spanD)) = PyData.eqvAll (s.map spanD) (t.map spanD) from by simp only [PyData.eqv]]
  exact eqvAll_spans s t
def bdC (p q : Band) : Bool := decide (p.2.1 = q.1) && decide (p.2.2 = q.2.2)
def bdJ (p q : Band) : Band := (p.1, q.2.1, q.2.2)
def joinM (bs : List Band) : List Band := merge bdC bdJ (bs.filter fun b => !b.2.2.isEmpty)
def sp__joined (K : PySem.W.Frag) : Sp := fun vs H Q _ => ∃ (bs : List Band) (v : V) (U : Hp), vs = [v] ∧ Same U H ∧ Dp K U v (regD bs) ∧ bs.length ≤ 20000 ∧ ∀ v' U' H', Ext U H U' H' → Dp K U' v' (regD (joinM bs)) → Q v' H'
theorem sc__joined : FnScope ["bands", "region", "top", "bottom", "spans"] ["bands"] (defScope s__joined) := ⟨rfl, rfl, rfl, by decide +kernel, rfl, by decide +kernel, by decide +kernel⟩
theorem ok__joined (T : Txt0 P K mg A) : FnOk P w K mg base CX0 1 A.f_joined A.d_joined ["bands"] (sp__joined K) := by
  refine T.F_joined.ok sc__joined (fun vs H Q E h => ?_) (fun cdv Ar outer s H vs Q E hr h => ?_)
  · obtain ⟨_, _, _, rfl, _⟩ := h
    rfl
  · obtain ⟨bs, v, U, rfl, sU, dv, hln, q⟩ := h
    obtain ⟨pb, xs, rfl, hpb, hxs⟩ := dp_list dv
    have lxs : xs.length = bs.length := by rw [dpall_len hxs, List.length_map]
    refine ⟨_, (pss_cons (ps_set (i := 1) sc__joined.nd rfl (Or.inl rfl) (pe_lst pa_nil))
      (pss_cons (ps_for PassesOwn.never rfl (pi_list (pv 0)) (pg_tup rfl (pgs_cons (pg_name (i := 2) sc__joined.nd rfl (Or.inl rfl)) (pgs_cons (pg_name (i := 3) sc__joined.nd rfl (Or.inl rfl)) (pgs_cons (pg_name (i := 4) sc__joined.nd rfl (Or.inl rfl)) pgs_nil))))
      (pss_cons (ps_if (pt_not (pt_truth (pv 4) (by intro _; rfl)))
      (pss_one ps_continue)
      pss_nil)
      (C8.pss_cut (ps_if (PW.pt (pw_and (pt_truth (pv 1) (by intro _; rfl)) (pw_and (pt_cmpR op_eq (pe_ix (r := rIxT K) ix_tup (pe_ix (r := rIxL K) ix_list (pv 1) (pe_un un_neg pe_int) (fun _ _ => rfl)) pe_int (fun _ _ => rfl)) (pv 2) (nomark _)) (pw_and1 (pt_cmpR (op_eqD hr.units) (pe_ix (r := rIxT K) ix_tup (pe_ix (r := rIxL K) ix_list (pv 1) (pe_un un_neg pe_int) (fun _ _ => rfl)) pe_int (fun _ _ => rfl)) (pv 4) (nomark _))))))
      (pss_one (ps_set (i := 2) sc__joined.nd rfl (Or.inl rfl) (pe_ix (r := rIxT K) ix_tup (pe_bm0 PySem.F.plainAttrs_list PySem.F.slot_list_pop PySem.F.type_list_pop mt_pop (pv 1)) pe_int (fun _ _ => rfl))))
      pss_nil)
      (pss_one (ps_expr (pe_bm PySem.F.plainAttrs_list PySem.F.slot_list_append PySem.F.type_list_append mt_append (pv 1) (pa_cons (pe_tup (pa_cons (pv 2) (pa_cons (pv 3) (pa_cons (pv 4) pa_nil)))) pa_nil)))))))
      (pss_one (ps_ret (pv 1))))), ?_⟩
    refine ⟨len_line (by show 0 ≤ 100000; decide), fun D hD => ?_⟩
    have npD : H D = none := hD
    have hUD : U D = none := none_of_same sU hD
    refine ⟨_, rfl, pb, rfl, ⟨_, (same_upd hD).seq (sU.seq hpb)⟩, for_list (K := K) (a := pb) (xs := xs) (fun i σ H' => ∃ (v2 v3 v4 : Option V) (V' : Hp) (zs : List V), σ = [some (.ref pb), some (.ref D), v2, v3, v4] ∧ Ext U H V' H' ∧ V' D = none ∧ H' D = some (.lst zs) ∧ DpAll K V' zs ((merge bdC bdJ ((bs.take i).filter fun b => !b.2.2.isEmpty)).map bandD)) ?_ ?_ ?_ ?_⟩
    · exact ⟨_, _, _, U, [], rfl, Ext.skip sU hD, hUD, upd_same, .nil⟩
    · rintro i σ H' _ ⟨_, _, _, V', zs, _, x, _⟩
      exact x.vh.seq (x.vv.seq hpb)
    · rintro i x σ H3 hx ⟨v2, v3, v4, V3, zs, rfl, x3, hV3, hz, dz⟩
      obtain ⟨d, hd, dv⟩ := dpall_get hxs hx
      rw [List.getElem?_map] at hd
      obtain ⟨⟨tp, bt, ss⟩, hb, rfl⟩ := Option.map_eq_some_iff.mp hd
      obtain ⟨pt, p2, ws, rfl, qt, q2, r2⟩ := dp_band dv
      have qt3 := x3.vh.sqt (x3.vv.sqt qt)
      have q23 := x3.vh.sqt (x3.vv.sqt q2)
      have lws : ws.isEmpty = ss.isEmpty := by
        have := dpall_len r2
        rw [List.length_map] at this
        cases ws <;> cases ss <;> first | rfl | (simp at this)
      refine ⟨pt, _, rfl, qt3, rfl, _, _, rfl, _, _, rfl, _, _, rfl, rfl, ?_⟩
      refine ⟨_, rfl, _, .inr (.inl ⟨ws, q23, rfl⟩), ?_⟩
      rw [lws]
      have hf := filter_snoc (fun b : Band => !b.2.2.isEmpty) hb
      have hi : i < bs.length := (List.getElem?_eq_some_iff.mp hb).1
      cases hc : ss.isEmpty with
      | true =>
        refine if_t rfl ?_
        refine ⟨_, _, _, V3, zs, rfl, x3, hV3, hz, ?_⟩
        rw [hf]; dsimp only; rw [hc]; simpa using dz
      | false =>
        refine if_f rfl ?_
        have e : merge bdC bdJ ((bs.take (i + 1)).filter fun b => !b.2.2.isEmpty) = mstep bdC bdJ (merge bdC bdJ ((bs.take i).filter fun b => !b.2.2.isEmpty)) (tp, bt, ss) := by
          rw [← merge_snoc, hf]; dsimp only; rw [hc]; simp
        rw [e]
        have lm : (merge bdC bdJ ((bs.take i).filter fun b => !b.2.2.isEmpty)).length ≤ 20000 := by
          have h1 := merge_len bdC bdJ _ ((bs.take i).filter fun b => !b.2.2.isEmpty) rfl
          have h2 : ((bs.take i).filter fun b => !b.2.2.isEmpty).length ≤ (bs.take i).length := List.length_filter_le _ _
          rw [List.length_take] at h2
          omega
        generalize merge bdC bdJ ((bs.take i).filter fun b => !b.2.2.isEmpty) = m at dz lm ⊢
        refine ⟨fun σ' H' => ∃ (tp' : Int) (m' : List Band) (zs' : List V), σ' = [some (.ref pb), some (.ref D), some (.int tp'), some (.int bt), some (.ref p2)] ∧ Ext U H V3 H' ∧ H' D = some (.lst zs') ∧ DpAll K V3 zs' (m'.map bandD) ∧ mstep bdC bdJ m (tp, bt, ss) = m' ++ [(tp', bt, ss)] ∧ m'.length ≤ 20000, ?_, ?_⟩
        · rcases last_cases m with rfl | ⟨m0, p0, rfl⟩
          · cases dz
            refine ⟨_, rfl, false, .inl ⟨[], SqL.of hz, rfl⟩, if_f rfl ?_⟩
            exact ⟨tp, [], [], rfl, x3, hz, .nil, rfl, Nat.zero_le _⟩
          · rw [List.map_append] at dz
            obtain ⟨z0, zp, rfl, d0, dp0⟩ := dpall_snoc dz
            obtain ⟨ap, pp0, ss0, rfl, qp, qq, rr⟩ := dp_band dp0
            have qp3 := x3.vh.sqt qp
            have same : ∀ h : ¬ (p0.2.1 = tp ∧ p0.2.2 = ss), ∃ (tp' : Int) (m' : List Band) (zs' : List V), [some (V.ref pb), some (V.ref D), some (V.int tp), some (V.int bt), some (V.ref p2)] = [some (V.ref pb), some (V.ref D), some (V.int tp'), some (V.int bt), some (V.ref p2)] ∧ Ext U H V3 H3 ∧ H3 D = some (.lst zs') ∧ DpAll K V3 zs' (m'.map bandD) ∧ mstep bdC bdJ (m0 ++ [p0]) (tp, bt, ss) = m' ++ [(tp', bt, ss)] ∧ m'.length ≤ 20000 := fun h => by
              refine ⟨tp, m0 ++ [p0], z0 ++ [.ref ap], rfl, x3, hz, by rw [List.map_append]; exact dz, ?_, lm⟩
              rw [mstep_last, if_neg]
              unfold bdC
              intro c
              rw [Bool.and_eq_true, decide_eq_true_eq, decide_eq_true_eq] at c
              exact h c
            refine ⟨_, rfl, true, .inl ⟨_, SqL.of hz, by simp⟩, if_t rfl ?_⟩
            refine ⟨_, rfl, _, rfl, D, _, _, _, rfl, rfl, SqL.of hz, atI_last _ _, ap, _, _, _, rfl, rfl, qp3, atI_nat (j := 1) rfl, ?_⟩
            refine ⟨_, rfl, rfl, _, rfl, iteEq (fun h => ?_) (fun h => ?_)⟩
            · refine ⟨_, rfl, _, rfl, D, _, _, _, rfl, rfl, SqL.of hz, atI_last _ _, ap, _, _, _, rfl, rfl, qp3, atI_nat (j := 2) rfl, ?_⟩
              have ds0 : Dp K H3 (.ref pp0) (spansD p0.2.2) := (Dp.tup qq rr : Dp K V3 (.ref pp0) (spansD p0.2.2)).to x3.vh
              have ds1 : Dp K H3 (.ref p2) (spansD ss) := ((Dp.tup q2 r2 : Dp K U (.ref p2) (spansD ss)).to x3.vv).to x3.vh
              refine ⟨_, rfl, _, _, ds0, ds1, (sh_spans _).shaped, (sh_spans _).shaped, _, rfl, ?_⟩
              rw [eqv_spans]
              refine iteP (fun h2 => ?_) (fun h2 => ?_)
              · refine ⟨_, rfl, .inl ⟨rfl, _, SqL.of hz⟩, D, _, .ref ap, rfl, rfl, hz, by simp, ?_⟩
                rw [List.dropLast_concat]
                have x4 := x3.poke (o := .lst z0) npD hV3
                refine ⟨ap, _, _, _, rfl, rfl, x4.vh.sqt qp, atI_nat (j := 0) rfl, ?_⟩
                refine ⟨p0.1, m0, z0, rfl, x4, upd_same, d0, ?_, by rw [List.length_append] at lm; omega⟩
                rw [mstep_last, if_pos (by unfold bdC; rw [decide_eq_true h, decide_eq_true h2]; rfl)]; rfl
              · exact same fun c => h2 c.2
            · exact same fun c => h c.1
        · rintro σ' H4 ⟨tp', m', zs', rfl, x4, hz4, dz4, em, lm'⟩
          rw [em]
          refine ⟨_, rfl, .inl ⟨rfl, _, SqL.of hz4⟩, _, rfl, _, rfl, _, rfl, len_line (by show 3 ≤ 100000; decide), fun p5 h5 => ?_⟩
          have xn := Ext.new (o := .tup [.int tp', .int bt, .ref p2]) x4.vh h5
          have hV5 := xn.keepOut hV3 (by rw [hz4]; exact fun z => by cases z)
          have hz5 := xn.hh _ _ hz4
          refine ⟨D, _, _, rfl, rfl, hz5, lt_line (by rw [dpall_len dz4, List.length_map]; omega), ?_⟩
          refine ⟨_, _, _, _, _, rfl, (x4.trans xn).poke npD hV5, hV5, upd_same, ?_⟩
          rw [List.map_append]
          have sv := x3.vv.trans xn.vv
          exact dpall_app (dz4.to xn.vv) (.cons (mk_band (b := (tp', bt, ss)) (SqT.of upd_same) (sv.sqt q2) (r2.to sv)) .nil)
    · rintro σ H3 ⟨v2, v3, v4, V3, zs, rfl, x3, hV3, hz, dz⟩
      rw [lxs, List.take_length] at dz
      refine ⟨_, rfl, ?_⟩
      exact q _ _ _ (x3.take npD hV3 hz) (.lst (SqL.of upd_same) (dz.to (same_upd hV3)))
/-! ### the edges as a function; two regions together -/
def insE (x : Int) : List Int → List Int
  | [] => [x]
  | y :: t => if x < y then x :: y :: t else if x = y then y :: t else y :: insE x t
def esOf (L : List Int) : List Int := L.foldr insE []
theorem insE_mem (x : Int) : ∀ (l : List Int) (k : Int), k ∈ insE x l ↔ k = x ∨ k ∈ l
  | [], k => by simp [insE]
  | y :: t, k => by
    unfold insE
    by_cases h1 : x < y
    · rw [if_pos h1]; simp
    · rw [if_neg h1]
      by_cases h2 : x = y
      · rw [if_pos h2]; subst h2; simp
      · rw [if_neg h2, List.mem_cons, insE_mem x t k, List.mem_cons]
        constructor
        · rintro (h | h | h)
          · exact .inr (.inl h)
          · exact .inl h
          · exact .inr (.inr h)
        · rintro (h | h | h)
          · exact .inr (.inl h)
          · exact .inl h
          · exact .inr (.inr h)
theorem insE_pw (x : Int) : ∀ (l : List Int), l.Pairwise (· < ·) → (insE x l).Pairwise (· < ·)
  | [], _ => List.pairwise_singleton _ _
  | y :: t, h => by
    have h' := List.pairwise_cons.mp h
    unfold insE
    by_cases h1 : x < y
    · rw [if_pos h1]
      refine List.pairwise_cons.mpr ⟨fun z hz => ?_, h⟩
      rcases List.mem_cons.mp hz with rfl | hz
      · exact h1
      · exact Int.lt_trans h1 (h'.1 z hz)
    · rw [if_neg h1]
      by_cases h2 : x = y
      · rw [if_pos h2]; exact h
      · rw [if_neg h2]
        refine List.pairwise_cons.mpr ⟨fun z hz => ?_, insE_pw x t h'.2⟩
        rcases (insE_mem x t z).mp hz with rfl | hz
        · omega
        · exact h'.1 z hz
theorem esOf_mem (L : List Int) (k : Int) : k ∈ esOf L ↔ k ∈ L := by
  unfold esOf
  induction L with
  | nil => exact Iff.rfl
  | cons x t ih => rw [List.foldr_cons, insE_mem, ih, List.mem_cons]
theorem esOf_pw (L : List Int) : (esOf L).Pairwise (· < ·) := by
  unfold esOf
  induction L with
  | nil => exact .nil
  | cons x t ih => exact insE_pw x _ ih
theorem sorted_eq : ∀ {a b : List Int}, a.Pairwise (· < ·) → b.Pairwise (· < ·) → (∀ k, k ∈ a ↔ k ∈ b) → a = b
  | [], [], _, _, _ => rfl
  | [], y :: t, _, _, h => by have := (h y).mpr List.mem_cons_self; cases this
  | x :: s, [], _, _, h => by have := (h x).mp List.mem_cons_self; cases this
  | x :: s, y :: t, ha, hb, h => by
    have ha' := List.pairwise_cons.mp ha
    have hb' := List.pairwise_cons.mp hb
    have e : x = y := by
      have h1 := (h x).mp List.mem_cons_self
      have h2 := (h y).mpr List.mem_cons_self
      rcases List.mem_cons.mp h1 with h1 | h1
      · exact h1
      · rcases List.mem_cons.mp h2 with h2 | h2
        · exact h2.symm
        · have g1 := hb'.1 x h1
          have g2 := ha'.1 y h2
          omega
    subst e
    rw [sorted_eq ha'.2 hb'.2 fun k => ?_]
    have hk := h k
    constructor
    · intro hs
      have g := ha'.1 k hs
      rcases List.mem_cons.mp (hk.mp (List.mem_cons_of_mem _ hs)) with e | e
      · omega
      · exact e
    · intro hs
      have g := hb'.1 k hs
      rcases List.mem_cons.mp (hk.mpr (List.mem_cons_of_mem _ hs)) with e | e
      · omega
      · exact e
theorem es_eq {es L : List Int} (h1 : es.Pairwise (· < ·)) (h2 : ∀ k, k ∈ es ↔ k ∈ L) : es = esOf L :=
  sorted_eq h1 (esOf_pw L) fun k => by rw [h2, esOf_mem]
def cmbS (op : Bool → Bool → Bool) (a b : List Span) : List Span := combS op a b (esOf (edgeL Prod.fst Prod.snd a b))
abbrev bLo (b : Band) : Int := b.1
abbrev bHi (b : Band) : Int := b.2.1
def cmbB (op : Bool → Bool → Bool) (A B : List Band) (s : Int × Int) : Band := (s.1, s.2, cmbS op (spansOf (rowAt bLo bHi A s.1)) (spansOf (rowAt bLo bHi B s.1)))
def cmbR (op : Bool → Bool → Bool) (A B : List Band) : List Band := joinM ((segs (esOf (edgeL bLo bHi A B))).map (cmbB op A B))
structure RegOk (R : List Band) : Prop where
  rows : Rows bLo bHi R
  sps : ∀ b ∈ R, Rows Prod.fst Prod.snd b.2.2
  few : R.length < 100
  fews : ∀ b ∈ R, b.2.2.length < 200
  gaps : ∀ b ∈ R, b.2.2.Pairwise fun s t => s.2 < t.1
/-- two regions whose edges are few, taken together -/
def Pair (A B : List Band) : Prop := (∃ e0 : List Int, (∀ k, k ∈ edgeL bLo bHi A B → k ∈ e0) ∧ e0.length < 400) ∧
  ∀ p, ∃ e0 : List Int, (∀ k, k ∈ edgeL Prod.fst Prod.snd (spansOf (rowAt bLo bHi A p)) (spansOf (rowAt bLo bHi B p)) → k ∈ e0) ∧ e0.length < 400
theorem RegOk.at_ {R : List Band} (h : RegOk R) (p : Int) : Rows Prod.fst Prod.snd (spansOf (rowAt bLo bHi R p)) ∧ (spansOf (rowAt bLo bHi R p)).length < 200 := by
  cases e : rowAt bLo bHi R p with
  | none => exact ⟨⟨fun q hq => (by cases hq), List.Pairwise.nil⟩, by show 0 < 200; decide⟩
  | some b =>
    have hb : b ∈ R := List.mem_of_find?_eq_some e
    exact ⟨h.sps b hb, h.fews b hb⟩
def sp__combined (A : Adr) (K : PySem.W.Frag) : Sp := fun vs H Q _ => ∃ (op : Bool → Bool → Bool) (Ra Rb : List Band) (va vb : V) (f : Addr) (U : Hp), vs = [va, vb, .ref f] ∧ KeepAt A f op ∧ Same U H ∧ Dp K U va (regD Ra) ∧ Dp K U vb (regD Rb) ∧ RegOk Ra ∧ RegOk Rb ∧ Pair Ra Rb ∧
  ∀ v U' H', Ext U H U' H' → Dp K U' v (regD (cmbR op Ra Rb)) → Q v H'
theorem sc__combined : FnScope ["a", "b", "keeps", "top", "bottom", "first", "second"] ["a", "b", "keeps"] (defScope s__combined) := ⟨rfl, rfl, rfl, by decide +kernel, rfl, by decide +kernel, by decide +kernel⟩
theorem ok__combined (T : Txt0 P K mg A) : FnOk P w K mg base CX0 4 A.f_combined A.d_combined ["a", "b", "keeps"] (sp__combined A K) := by
  refine T.F_combined.ok sc__combined (fun vs H Q E h => ?_) (fun cdv Ar outer s H vs Q E hr h => ?_)
  · obtain ⟨_, _, _, _, _, _, _, rfl, _⟩ := h
    rfl
  · obtain ⟨op, Ra, Rb, va, vb, f, U, rfl, hk, sU, da, db, oa, ob, pr, q⟩ := h
    obtain ⟨pa, xa, rfl, hpa, hxa⟩ := dp_list da
    obtain ⟨pb, xb, rfl, hpb, hxb⟩ := dp_list db
    refine ⟨_, (pss_one (ps_ret (pe_call (ok__joined T) (hr.mono (by decide)) rfl T.g_joined T.k_joined T.b_joined .nil pass0 (pa_cons (pe_lc (own := [("top", 3), ("bottom", 4), ("first", 5), ("second", 6)]) (g := (gTup K 4 (gCons (gName 3) (gCons (gName 4) (gCons (gName 5) (gCons (gName 6) gNil)))))) (tt := tYes) rfl sc__combined.nd (pi_list (pe_call (ok__pieces_L T) (hr.mono (by decide)) rfl T.g_pieces T.k_pieces T.b_pieces .nil pass0 (pa_cons (pv 0) (pa_cons (pv 1) pa_nil)))) (blkOk_by (own := [("top", 3), ("bottom", 4), ("first", 5), ("second", 6)]) (N := ["a", "b", "keeps", "top", "bottom", "first", "second"]) (sc := defScope s__combined) (by decide +kernel)) (fun _ _ _ _ _ => by exact (pg_tup rfl (pgs_cons (pg_name (i := 3) sc__combined.nd rfl (Or.inl rfl)) (pgs_cons (pg_name (i := 4) sc__combined.nd rfl (Or.inl rfl)) (pgs_cons (pg_name (i := 5) sc__combined.nd rfl (Or.inl rfl)) (pgs_cons (pg_name (i := 6) sc__combined.nd rfl (Or.inl rfl)) pgs_nil)))))) (fun _ _ _ _ _ => pts_nil) (fun _ _ _ _ _ => by exact (pe_tup (pa_cons (pv 3) (pa_cons (pv 4) (pa_cons (pe_call (ok__combined_spans T) (hr.mono (by decide)) rfl T.g_combined_spans T.k_combined_spans T.b_combined_spans .nil pass0 (pa_cons (pe_call (ok__spans_of T) (hr.mono (by decide)) rfl T.g_spans_of T.k_spans_of T.b_spans_of .nil pass0 (pa_cons (pv 5) pa_nil)) (pa_cons (pe_call (ok__spans_of T) (hr.mono (by decide)) rfl T.g_spans_of T.k_spans_of T.b_spans_of .nil pass0 (pa_cons (pv 6) pa_nil)) (pa_cons (pv 2) pa_nil)))) pa_nil)))))) pa_nil)))), ?_⟩
    refine ⟨_, rfl, _, rfl, Band, bLo, bHi, bandD, Ra, Rb, pa, pb, xa, xb, U, rfl, row_band, sU, hpa, hxa, hpb, hxb, oa.rows, ob.rows, by have := oa.few; have := ob.few; omega, pr.1, fun vp U2 H2 es x2 hel hep hem dvp => ?_⟩
    obtain ⟨pp, ps, rfl, hpp, hps⟩ := dp_list dvp
    have lps : ps.length = (segs es).length := by rw [dpall_len hps, List.length_map]
    have lsg : (segs es).length < 400 := by rw [segs_len]; omega
    refine ⟨pp, rfl, ⟨_, x2.vh.seq hpp⟩, fun D hD => ?_⟩
    refine lc_dp (walk_list (K := K) (a := pp) (xs := ps)) (K := K) (V0 := U2) (H0 := H2) (fun i => ((segs es)[i]?).map fun s => bandD (cmbB op Ra Rb s)) _ rfl x2.vh hD (by omega) (fun H' s => s.seq (x2.vh.seq hpp)) (fun i x H H' y => y.1) ?_ ?_
    · rintro j v V3 H3 hj x3 ⟨_, hv⟩ Qy Qn hy _
      obtain ⟨d, hd, dv⟩ := dpall_get hps hv
      rw [List.getElem?_map] at hd
      obtain ⟨⟨tp, bt⟩, hsg, rfl⟩ := Option.map_eq_some_iff.mp hd
      obtain ⟨pt, ws, rfl, qt, rt⟩ := dp_tuple dv
      cases rt with | cons r1 rt => cases rt with | cons r2 rt => cases rt with | cons r3 rt => cases rt with | cons r4 rt =>
      cases rt; cases r1; cases r2
      rename_i v1 v2
      refine ⟨pt, _, rfl, x3.hh.sqt (x2.vh.sqt qt), rfl, _, _, rfl, _, _, rfl, _, _, rfl, _, _, rfl, rfl, rfl, ?_⟩
      refine ⟨_, rfl, _, rfl, _, rfl, v1, rowAt bLo bHi Ra tp, V3, rfl, x3.vh, r3.to x3.vv, fun p1 y1 V4 H4 x4 s4 d4 => ?_⟩
      refine ⟨_, rfl, v2, rowAt bLo bHi Rb tp, V4, rfl, x4.vh, (r4.to x3.vv).to x4.vv, fun p2 y2 V5 H5 x5 s5 d5 => ?_⟩
      have ka := oa.at_ tp
      have kb := ob.at_ tp
      refine ⟨_, rfl, op, spansOf (rowAt bLo bHi Ra tp), spansOf (rowAt bLo bHi Rb tp), p1, p2, f, y1, y2, V5, rfl, hk, x5.vh, x5.vv.sqt s4, d4.to x5.vv, s5, d5, ka.1, kb.1, by omega, pr.2 tp, fun v6 V6 H6 es6 x6 hp6 hm6 d6 => ?_⟩
      have e6 := es_eq hp6 hm6
      subst e6
      refine ⟨len_line (by show 3 ≤ 100000; decide), fun p7 h7 => ?_⟩
      have x7 := (x4.trans x5).trans (x6.trans (Ext.new (o := .tup [.int tp, .int bt, v6]) x6.vh h7))
      obtain ⟨p6, z6, rfl, q6, w6⟩ := dp_tuple d6
      have sn := same_upd (o := .tup [.int tp, .int bt, .ref p6]) (none_of_same x6.vh h7)
      exact hy (bandD (cmbB op Ra Rb (tp, bt))) _ _ _ (by rw [hsg]; rfl) x7 (mk_band (b := cmbB op Ra Rb (tp, bt)) (SqT.of upd_same) (sn.sqt q6) (w6.to sn))
    · rintro U7 H7 zs x7 _ _ d7
      rw [lps, fm_map] at d7
      have e0 := es_eq hep hem
      subst e0
      refine ⟨(segs (esOf (edgeL bLo bHi Ra Rb))).map (cmbB op Ra Rb), _, U7, rfl, x7.vh, by unfold regD; rw [List.map_map]; exact d7, by rw [List.length_map]; omega, fun v8 U8 H8 x8 d8 => ?_⟩
      exact q _ _ _ ((x2.trans x7).trans x8) d8
/-! ### the squares of two regions together -/
theorem any_filter' {α : Type} (p c : α → Bool) : ∀ l : List α, (l.filter p).any c = l.any fun z => p z && c z
  | [] => rfl
  | a :: t => by
    by_cases h : p a = true
    · rw [List.filter_cons_of_pos h, List.any_cons, List.any_cons, any_filter' p c t, h, Bool.true_and]
    · rw [List.filter_cons_of_neg h, List.any_cons, any_filter' p c t]
      rw [Bool.not_eq_true] at h
      rw [h, Bool.false_and, Bool.false_or]
theorem seg_any {es : List Int} {x : Int} {g : Int → Bool} {W : Bool} (h1 : ∀ s ∈ segs es, s.1 ≤ x → x < s.2 → g s.1 = W) (h2 : (∀ s ∈ segs es, ¬ (s.1 ≤ x ∧ x < s.2)) → W = false) :
    (segs es).any (fun s => decide (s.1 ≤ x ∧ x < s.2) && g s.1) = W := by
  by_cases c : ∃ s ∈ segs es, s.1 ≤ x ∧ x < s.2
  · obtain ⟨s, hs, c1, c2⟩ := c
    cases hW : W with
    | true => exact List.any_eq_true.mpr ⟨s, hs, by rw [decide_eq_true ⟨c1, c2⟩, h1 s hs c1 c2, hW]; rfl⟩
    | false =>
      refine List.any_eq_false.mpr fun t ht => ?_
      by_cases d : t.1 ≤ x ∧ x < t.2
      · rw [decide_eq_true d, h1 t ht d.1 d.2, hW]; decide
      · rw [decide_eq_false d]; simp
  · have c' : ∀ s ∈ segs es, ¬ (s.1 ≤ x ∧ x < s.2) := fun s hs z => c ⟨s, hs, z⟩
    rw [h2 c']
    refine List.any_eq_false.mpr fun t ht => ?_
    rw [decide_eq_false (c' t ht)]; simp
theorem isSome_row {r : Type} {lo hi : r → Int} (rows : List r) (x : Int) : (rowAt lo hi rows x).isSome = rows.any fun q => decide (lo q ≤ x ∧ x < hi q) := by
  unfold rowAt
  induction rows with
  | nil => rfl
  | cons q t ih =>
    rw [List.find?_cons, List.any_cons]
    cases decide (lo q ≤ x ∧ x < hi q) with
    | true => rfl
    | false => simpa using ih
theorem edge_in {r : Type} {lo hi : r → Int} {Aa Bb : List r} : (∀ q ∈ Aa, lo q ∈ esOf (edgeL lo hi Aa Bb) ∧ hi q ∈ esOf (edgeL lo hi Aa Bb)) ∧ (∀ q ∈ Bb, lo q ∈ esOf (edgeL lo hi Aa Bb) ∧ hi q ∈ esOf (edgeL lo hi Aa Bb)) := by
  simp only [esOf_mem]
  unfold edgeL
  refine ⟨fun q hq => ⟨?_, ?_⟩, fun q hq => ⟨?_, ?_⟩⟩
  · exact List.mem_append_left _ (List.mem_append_left _ (List.mem_append_left _ (List.mem_map_of_mem hq)))
  · exact List.mem_append_left _ (List.mem_append_left _ (List.mem_append_right _ (List.mem_map_of_mem hq)))
  · exact List.mem_append_left _ (List.mem_append_right _ (List.mem_map_of_mem hq))
  · exact List.mem_append_right _ (List.mem_map_of_mem hq)
theorem segs_pw : ∀ {es : List Int}, es.Pairwise (· < ·) → (segs es).Pairwise fun s t => s.2 ≤ t.1
  | [], _ => List.Pairwise.nil
  | [a], _ => List.Pairwise.nil
  | a :: c :: t, hp => by
    rw [segs_cons]
    have hp2 := List.pairwise_cons.mp hp
    refine List.pairwise_cons.mpr ⟨fun s hs => ?_, segs_pw hp2.2⟩
    obtain ⟨_, _, m, _⟩ := seg_mem hp2.2 (b := s.1) (e := s.2) hs
    rcases List.mem_cons.mp m with e | e
    · rw [e]; exact Int.le_refl _
    · exact Int.le_of_lt ((List.pairwise_cons.mp hp2.2).1 _ e)
theorem segs_rows {es : List Int} (hp : es.Pairwise (· < ·)) : Rows (r := Int × Int) Prod.fst Prod.snd (segs es) := ⟨fun s hs => (seg_mem hp (b := s.1) (e := s.2) hs).1, segs_pw hp⟩
theorem Rows.filter {r : Type} {lo hi : r → Int} {l : List r} (R : Rows lo hi l) (p : r → Bool) : Rows lo hi (l.filter p) := ⟨fun q hq => R.pos q ((List.mem_filter.mp hq).1), R.ord.filter p⟩
theorem cmbS_rows (op : Bool → Bool → Bool) (a b : List Span) : Rows Prod.fst Prod.snd (cmbS op a b) ∧ ∀ z ∈ cmbS op a b, z.1 ∈ edgeL Prod.fst Prod.snd a b ∧ z.2 ∈ edgeL Prod.fst Prod.snd a b := by
  have hp := esOf_pw (edgeL Prod.fst Prod.snd a b)
  have R : Rows (r := Span) Prod.fst Prod.snd (keptS op a b (segs (esOf (edgeL Prod.fst Prod.snd a b)))) := (segs_rows hp).filter _
  obtain ⟨h1, h2⟩ := merge_rows spC spJ (lo := Prod.fst) (hi := Prod.snd) (fun _ _ => rfl) (fun _ _ => rfl) _ _ rfl R
  refine ⟨h1, fun z hz => ?_⟩
  obtain ⟨p, hp1, q, hq1, e1, e2⟩ := h2 z hz
  have m1 := seg_mem hp (b := p.1) (e := p.2) ((List.mem_filter.mp hp1).1)
  have m2 := seg_mem hp (b := q.1) (e := q.2) ((List.mem_filter.mp hq1).1)
  exact ⟨by rw [e1]; exact (esOf_mem _ _).mp m1.2.2.1, by rw [e2]; exact (esOf_mem _ _).mp m2.2.2.2⟩
theorem cmbS_in (op : Bool → Bool → Bool) (h0 : op false false = false) (a b : List Span) (x : Int) : inS (cmbS op a b) x = op (inS a x) (inS b x) := by
  have hp := esOf_pw (edgeL Prod.fst Prod.snd a b)
  have he := edge_in (lo := Prod.fst) (hi := Prod.snd) (Aa := a) (Bb := b)
  have ha : inS a x = (rowAt Prod.fst Prod.snd a x).isSome := (isSome_row a x).symm
  have hb : inS b x = (rowAt Prod.fst Prod.snd b x).isSome := (isSome_row b x).symm
  have R : Rows (r := Span) Prod.fst Prod.snd (keptS op a b (segs (esOf (edgeL Prod.fst Prod.snd a b)))) := (segs_rows hp).filter _
  have m := (merge_any spC spJ (fun s : Span => decide (s.1 ≤ x ∧ x < s.2)) (fun s => s.1 < s.2) (fun p q hp hq hc => by
    have hc' : p.2 = q.1 := of_decide_eq_true hc
    refine ⟨by show p.1 < q.2; omega, ?_⟩
    show decide (p.1 ≤ x ∧ x < q.2) = (decide (p.1 ≤ x ∧ x < p.2) || decide (q.1 ≤ x ∧ x < q.2))
    rw [← Bool.decide_or]
    congr 1
    refine propext ⟨fun h => ?_, fun h => ?_⟩ <;> omega) _ _ rfl R.pos).2
  show (merge spC spJ _).any _ = _
  rw [m]
  unfold keptS
  rw [any_filter', ha, hb]
  rw [show (fun z : Int × Int => (op (rowAt Prod.fst Prod.snd a z.1).isSome (rowAt Prod.fst Prod.snd b z.1).isSome && decide (z.1 ≤ x ∧ x < z.2))) = fun z => decide (z.1 ≤ x ∧ x < z.2) && op (rowAt Prod.fst Prod.snd a z.1).isSome (rowAt Prod.fst Prod.snd b z.1).isSome from funext fun z => Bool.and_comm _ _]
  refine seg_any (g := fun p => op (rowAt Prod.fst Prod.snd a p).isSome (rowAt Prod.fst Prod.snd b p).isSome) (fun s hs c1 c2 => ?_) fun c => ?_
  · show op _ _ = _
    rw [rowAt_seg hp he.1 hs c1 c2, rowAt_seg hp he.2 hs c1 c2]
  · rw [rowAt_off hp he.1 c, rowAt_off hp he.2 c]; exact h0
theorem hasSq_row (R : List Band) (x y : Int) : hasSq R x y = inS (spansOf (rowAt bLo bHi R y)) x := by
  unfold rowAt
  induction R with
  | nil => rfl
  | cons b t ih =>
    rw [List.find?_cons]
    unfold hasSq
    by_cases c : b.1 ≤ y ∧ y < b.2.1
    · rw [if_pos c, decide_eq_true (show bLo b ≤ y ∧ y < bHi b from c)]; rfl
    · rw [if_neg c, decide_eq_false (show ¬ (bLo b ≤ y ∧ y < bHi b) from c)]; exact ih
def covB (x y : Int) (b : Band) : Bool := decide (b.1 ≤ y ∧ y < b.2.1) && inS b.2.2 x
theorem hasSq_any {R : List Band} (h : Rows bLo bHi R) (x y : Int) : hasSq R x y = R.any (covB x y) := by
  induction R with
  | nil => rfl
  | cons b t ih =>
    have ht : Rows bLo bHi t := ⟨fun q hq => h.pos q (List.mem_cons_of_mem _ hq), (List.pairwise_cons.mp h.ord).2⟩
    rw [List.any_cons]
    unfold hasSq
    by_cases c : b.1 ≤ y ∧ y < b.2.1
    · rw [if_pos c]
      have off : t.any (covB x y) = false := by
        refine List.any_eq_false.mpr fun q hq => ?_
        have o : b.2.1 ≤ q.1 := (List.pairwise_cons.mp h.ord).1 q hq
        unfold covB
        rw [decide_eq_false (fun z => by omega)]; simp
      rw [off, Bool.or_false]
      unfold covB
      rw [decide_eq_true c, Bool.true_and]; rfl
    · rw [if_neg c, ih ht]
      unfold covB
      rw [decide_eq_false c, Bool.false_and, Bool.false_or]
theorem merge_pay {e β : Type} (cond : e → e → Bool) (join : e → e → e) (f : e → β) (hf : ∀ p q, f (join p q) = f q) : ∀ (n : Nat) (qs : List e), qs.length = n → ∀ z ∈ merge cond join qs, ∃ q ∈ qs, f z = f q
  | 0, qs, h => by cases List.eq_nil_of_length_eq_zero h; intro z hz; cases hz
  | n + 1, qs, h => by
    rcases last_cases qs with rfl | ⟨a, q, rfl⟩
    · cases h
    have ih := merge_pay cond join f hf n a (by simpa using h)
    rw [merge_snoc]
    generalize merge cond join a = m at ih
    have mq : q ∈ a ++ [q] := List.mem_append_right _ List.mem_cons_self
    intro z hz
    rcases last_cases m with rfl | ⟨b, p, rfl⟩
    · cases List.mem_singleton.mp hz; exact ⟨q, mq, rfl⟩
    rw [mstep_last] at hz
    split at hz
    · rcases List.mem_append.mp hz with hz | hz
      · obtain ⟨q', h1, h2⟩ := ih z (List.mem_append_left _ hz)
        exact ⟨q', List.mem_append_left _ h1, h2⟩
      · cases List.mem_singleton.mp hz; exact ⟨q, mq, hf p q⟩
    · rcases List.mem_append.mp hz with hz | hz
      · obtain ⟨q', h1, h2⟩ := ih z hz
        exact ⟨q', List.mem_append_left _ h1, h2⟩
      · cases List.mem_singleton.mp hz; exact ⟨q, mq, rfl⟩
theorem cmbB_rows (op : Bool → Bool → Bool) (A B : List Band) : Rows bLo bHi ((segs (esOf (edgeL bLo bHi A B))).map (cmbB op A B)) := by
  have R := segs_rows (esOf_pw (edgeL bLo bHi A B))
  refine ⟨fun q hq => ?_, List.pairwise_map.mpr R.ord⟩
  obtain ⟨s, hs, rfl⟩ := List.mem_map.mp hq
  exact R.pos s hs
theorem cmbR_rows (op : Bool → Bool → Bool) (A B : List Band) : Rows bLo bHi (cmbR op A B) ∧ (∀ z ∈ cmbR op A B, (z.1 ∈ edgeL bLo bHi A B ∧ z.2.1 ∈ edgeL bLo bHi A B) ∧ ∃ p, z.2.2 = cmbS op (spansOf (rowAt bLo bHi A p)) (spansOf (rowAt bLo bHi B p))) := by
  have hp := esOf_pw (edgeL bLo bHi A B)
  have R := (cmbB_rows op A B).filter fun b => !b.2.2.isEmpty
  obtain ⟨h1, h2⟩ := merge_rows bdC bdJ (lo := bLo) (hi := bHi) (fun _ _ => rfl) (fun _ _ => rfl) _ _ rfl R
  have mem : ∀ q ∈ ((segs (esOf (edgeL bLo bHi A B))).map (cmbB op A B)).filter (fun b => !b.2.2.isEmpty), ∃ s ∈ segs (esOf (edgeL bLo bHi A B)), q = cmbB op A B s := fun q hq => by
    obtain ⟨s, hs, e⟩ := List.mem_map.mp ((List.mem_filter.mp hq).1)
    exact ⟨s, hs, e.symm⟩
  refine ⟨h1, fun z hz => ⟨?_, ?_⟩⟩
  · obtain ⟨p, hp1, q, hq1, e1, e2⟩ := h2 z hz
    obtain ⟨s, hs, rfl⟩ := mem p hp1
    obtain ⟨t, ht, rfl⟩ := mem q hq1
    have m1 := seg_mem hp (b := s.1) (e := s.2) hs
    have m2 := seg_mem hp (b := t.1) (e := t.2) ht
    refine ⟨?_, ?_⟩
    · show bLo z ∈ _; rw [e1]; exact (esOf_mem _ _).mp m1.2.2.1
    · show bHi z ∈ _; rw [e2]; exact (esOf_mem _ _).mp m2.2.2.2
  · obtain ⟨q, hq, e⟩ := merge_pay bdC bdJ (fun b : Band => b.2.2) (fun _ _ => rfl) _ _ rfl z hz
    obtain ⟨s, hs, rfl⟩ := mem q hq
    exact ⟨s.1, e⟩
theorem cmbR_sq (op : Bool → Bool → Bool) (h0 : op false false = false) (A B : List Band) (x y : Int) : hasSq (cmbR op A B) x y = op (hasSq A x y) (hasSq B x y) := by
  have hp := esOf_pw (edgeL bLo bHi A B)
  have he := edge_in (lo := bLo) (hi := bHi) (Aa := A) (Bb := B)
  rw [hasSq_any (cmbR_rows op A B).1, hasSq_row A, hasSq_row B]
  have R := (cmbB_rows op A B).filter fun b => !b.2.2.isEmpty
  have m := (merge_any bdC bdJ (covB x y) (fun b => b.1 < b.2.1) (fun p q hp hq hc => by
    unfold bdC at hc
    rw [Bool.and_eq_true, decide_eq_true_eq, decide_eq_true_eq] at hc
    refine ⟨by show p.1 < q.2.1; omega, ?_⟩
    show (decide (p.1 ≤ y ∧ y < q.2.1) && inS q.2.2 x) = ((decide (p.1 ≤ y ∧ y < p.2.1) && inS p.2.2 x) || (decide (q.1 ≤ y ∧ y < q.2.1) && inS q.2.2 x))
    rw [hc.2, ← Bool.and_or_distrib_right, ← Bool.decide_or]
    congr 2
    refine propext ⟨fun h => ?_, fun h => ?_⟩ <;> omega) _ _ rfl R.pos).2
  show (merge bdC bdJ _).any _ = _
  rw [m, any_filter', List.any_map]
  have e : ((fun z : Band => !z.2.2.isEmpty && covB x y z) ∘ cmbB op A B) = fun s : Int × Int => decide (s.1 ≤ y ∧ y < s.2) && op (inS (spansOf (rowAt bLo bHi A s.1)) x) (inS (spansOf (rowAt bLo bHi B s.1)) x) := by
    funext s
    show (!(cmbB op A B s).2.2.isEmpty && (decide (s.1 ≤ y ∧ y < s.2) && inS (cmbB op A B s).2.2 x)) = _
    have ei : inS (cmbB op A B s).2.2 x = op (inS (spansOf (rowAt bLo bHi A s.1)) x) (inS (spansOf (rowAt bLo bHi B s.1)) x) := cmbS_in op h0 _ _ x
    rw [← ei]
    generalize (cmbB op A B s).2.2 = l
    cases l with
    | nil => simp [inS]
    | cons a t => rfl
  rw [e]
  refine seg_any (g := fun p => op (inS (spansOf (rowAt bLo bHi A p)) x) (inS (spansOf (rowAt bLo bHi B p)) x)) (fun s hs c1 c2 => ?_) fun c => ?_
  · show op _ _ = _
    rw [rowAt_seg hp he.1 hs c1 c2, rowAt_seg hp he.2 hs c1 c2]
  · rw [rowAt_off hp he.1 c, rowAt_off hp he.2 c]; exact h0
/-! ### what merging leaves does not touch -/
def Ch {e : Type} (cond : e → e → Bool) (l : List e) : Prop := ∀ (i : Nat) (p q : e), l[i]? = some p → l[i + 1]? = some q → cond p q = false
theorem Ch.snoc {e : Type} {cond : e → e → Bool} {m : List e} {q : e} (h : Ch cond m) (hl : ∀ a p, m = a ++ [p] → cond p q = false) : Ch cond (m ++ [q]) := by
  intro i p z hp hz
  by_cases c : i + 1 < m.length
  · rw [List.getElem?_append_left (by omega)] at hp
    rw [List.getElem?_append_left c] at hz
    exact h i p z hp hz
  · have hb : i + 1 < (m ++ [q]).length := (List.getElem?_eq_some_iff.mp hz).1
    rw [List.length_append] at hb
    have hb' : i + 1 < m.length + 1 := hb
    have e1 : i + 1 = m.length := by omega
    rw [e1, List.getElem?_append_right (Nat.le_refl _), Nat.sub_self] at hz
    cases hz
    rcases last_cases m with rfl | ⟨a, p', rfl⟩
    · simp at e1
    · rw [List.length_append] at e1
      have e2 : i = a.length := by simpa using e1
      rw [List.getElem?_append_left (by rw [List.length_append]; simp; omega), e2, List.getElem?_append_right (Nat.le_refl _), Nat.sub_self] at hp
      cases hp
      exact hl a _ rfl
theorem Ch.init {e : Type} {cond : e → e → Bool} {m : List e} {q : e} (h : Ch cond (m ++ [q])) : Ch cond m ∧ ∀ a p, m = a ++ [p] → cond p q = false := by
  refine ⟨fun i p z hp hz => ?_, fun a p e => ?_⟩
  · have h1 := (List.getElem?_eq_some_iff.mp hp).1
    have h2 := (List.getElem?_eq_some_iff.mp hz).1
    exact h i p z (by rw [List.getElem?_append_left h1]; exact hp) (by rw [List.getElem?_append_left h2]; exact hz)
  · subst e
    refine h a.length p q ?_ ?_
    · rw [List.getElem?_append_left (by rw [List.length_append]; simp), List.getElem?_append_right (Nat.le_refl _), Nat.sub_self]; rfl
    · rw [List.getElem?_append_right (by rw [List.length_append]; simp)]
      simp
theorem merge_chain {e : Type} (cond : e → e → Bool) (join : e → e → e) (hc : ∀ r p q, cond p q = true → cond r (join p q) = cond r p) :
    ∀ (n : Nat) (qs : List e), qs.length = n → Ch cond (merge cond join qs)
  | 0, qs, h => by cases List.eq_nil_of_length_eq_zero h; intro i p q hp; cases hp
  | n + 1, qs, h => by
    rcases last_cases qs with rfl | ⟨a, q, rfl⟩
    · cases h
    have ih := merge_chain cond join hc n a (by simpa using h)
    rw [merge_snoc]
    generalize merge cond join a = m at ih
    rcases last_cases m with rfl | ⟨b, p, rfl⟩
    · intro i p z hp hz
      have this : i + 1 < 1 := (List.getElem?_eq_some_iff.mp hz).1
      omega
    rw [mstep_last]
    obtain ⟨i1, i2⟩ := ih.init
    by_cases c : cond p q = true
    · rw [if_pos c]
      exact i1.snoc fun x y e => by rw [hc y p q c]; exact i2 x y e
    · rw [if_neg c]
      refine ih.snoc fun x y e => ?_
      have e2 := congrArg List.getLast? e
      simp at e2
      subst e2
      simpa using c
theorem cmbS_chain (op : Bool → Bool → Bool) (a b : List Span) : Ch spC (cmbS op a b) :=
  merge_chain spC spJ (fun _ _ _ _ => rfl) _ _ rfl
theorem cmbR_chain (op : Bool → Bool → Bool) (A B : List Band) : Ch bdC (cmbR op A B) :=
  merge_chain bdC bdJ (fun r p q h => by
    unfold bdC at h ⊢
    rw [Bool.and_eq_true, decide_eq_true_eq, decide_eq_true_eq] at h
    show (decide (r.2.1 = p.1) && decide (r.2.2 = q.2.2)) = (decide (r.2.1 = p.1) && decide (r.2.2 = p.2.2))
    rw [h.2]) _ _ rfl
theorem gap {l : List Span} (R : Rows Prod.fst Prod.snd l) (h : Ch spC l) : l.Pairwise fun s t => s.2 < t.1 := by
  have ord := List.pairwise_iff_getElem.mp R.ord
  refine List.pairwise_iff_getElem.mpr fun i j hi hj hij => ?_
  have hi1 : i + 1 < l.length := by omega
  have o1 : l[i].2 ≤ l[i + 1].1 := ord i (i + 1) hi hi1 (by omega)
  have c : spC l[i] l[i + 1] = false := h i _ _ (List.getElem?_eq_getElem hi) (List.getElem?_eq_getElem hi1)
  have c' : ¬ l[i].2 = l[i + 1].1 := of_decide_eq_false c
  by_cases e : i + 1 = j
  · subst e; omega
  · have o2 : l[i + 1].2 ≤ l[j].1 := ord (i + 1) j hi1 hj (by omega)
    have p : l[i + 1].1 < l[i + 1].2 := R.pos _ (List.getElem_mem hi1)
    omega
/-! ### the one form is one: the same squares, the same region -/
structure Gap (l : List Span) : Prop where
  pos : ∀ s ∈ l, s.1 < s.2
  gap : l.Pairwise fun s t => s.2 < t.1
theorem Gap.tail {s : Span} {l : List Span} (h : Gap (s :: l)) : Gap l := ⟨fun q hq => h.pos q (List.mem_cons_of_mem _ hq), (List.pairwise_cons.mp h.gap).2⟩
theorem inS_ex {l : List Span} {x : Int} : inS l x = true ↔ ∃ s ∈ l, s.1 ≤ x ∧ x < s.2 := by
  unfold inS
  rw [List.any_eq_true]
  exact exists_congr fun s => and_congr_right fun _ => decide_eq_true_iff
theorem Gap.first {s : Span} {l : List Span} (h : Gap (s :: l)) {x : Int} (hx : inS (s :: l) x = true) : s.1 ≤ x := by
  obtain ⟨q, hq, h1, _⟩ := inS_ex.mp hx
  rcases List.mem_cons.mp hq with rfl | hq
  · exact h1
  · have := (List.pairwise_cons.mp h.gap).1 q hq
    have := h.pos s List.mem_cons_self
    omega
theorem Gap.end_ {s : Span} {l : List Span} (h : Gap (s :: l)) : inS (s :: l) s.2 = false := by
  rw [← Bool.not_eq_true]
  intro hx
  obtain ⟨q, hq, h1, h2⟩ := inS_ex.mp hx
  rcases List.mem_cons.mp hq with rfl | hq
  · omega
  · have := (List.pairwise_cons.mp h.gap).1 q hq
    omega
theorem Gap.in_ {s : Span} {l : List Span} {x : Int} (h1 : s.1 ≤ x) (h2 : x < s.2) : inS (s :: l) x = true := inS_ex.mpr ⟨s, List.mem_cons_self, h1, h2⟩
theorem Gap.rest {s : Span} {l : List Span} (h : Gap (s :: l)) (x : Int) : inS l x = (inS (s :: l) x && decide (s.2 ≤ x)) := by
  by_cases c : s.2 ≤ x
  · rw [decide_eq_true c, Bool.and_true]
    show _ = (decide (s.1 ≤ x ∧ x < s.2) || inS l x)
    rw [decide_eq_false (fun z => by omega), Bool.false_or]
  · rw [decide_eq_false c, Bool.and_false, ← Bool.not_eq_true]
    intro hx
    obtain ⟨q, hq, h1, _⟩ := inS_ex.mp hx
    have := (List.pairwise_cons.mp h.gap).1 q hq
    omega
theorem spans_eq : ∀ {l m : List Span}, Gap l → Gap m → (∀ x, inS l x = inS m x) → l = m
  | [], [], _, _, _ => rfl
  | [], t :: m, _, hm, e => by
    have := e t.1
    rw [Gap.in_ (Int.le_refl _) (hm.pos t List.mem_cons_self)] at this
    cases this
  | s :: l, [], hl, _, e => by
    have := e s.1
    rw [Gap.in_ (Int.le_refl _) (hl.pos s List.mem_cons_self)] at this
    cases this
  | s :: l, t :: m, hl, hm, e => by
    have ps := hl.pos s List.mem_cons_self
    have pt := hm.pos t List.mem_cons_self
    have a1 : t.1 ≤ s.1 := hm.first (by rw [← e]; exact Gap.in_ (Int.le_refl _) ps)
    have a2 : s.1 ≤ t.1 := hl.first (by rw [e]; exact Gap.in_ (Int.le_refl _) pt)
    have e1 : s.1 = t.1 := by omega
    have e2 : s.2 = t.2 := by
      rcases Int.lt_trichotomy s.2 t.2 with c | c | c
      · have h1 := hl.end_
        rw [e, Gap.in_ (by omega) c] at h1
        cases h1
      · exact c
      · have h1 := hm.end_
        rw [← e, Gap.in_ (by omega) c] at h1
        cases h1
    have est : s = t := Prod.ext e1 e2
    subst est
    rw [spans_eq hl.tail hm.tail fun x => by rw [hl.rest, hm.rest, e]]
/-- the spans of a row -/
def spAt (R : List Band) (y : Int) : List Span := spansOf (rowAt bLo bHi R y)
structure CanU (R : List Band) : Prop where
  rows : Rows bLo bHi R
  gap : ∀ b ∈ R, Gap b.2.2
  ch : Ch bdC R
  ne : ∀ b ∈ R, b.2.2 ≠ []
theorem CanU.tail {b : Band} {R : List Band} (h : CanU (b :: R)) : CanU R :=
  ⟨⟨fun q hq => h.rows.pos q (List.mem_cons_of_mem _ hq), (List.pairwise_cons.mp h.rows.ord).2⟩, fun q hq => h.gap q (List.mem_cons_of_mem _ hq),
    fun i p q hp hq => h.ch (i + 1) p q (by rw [List.getElem?_cons_succ]; exact hp) (by rw [List.getElem?_cons_succ]; exact hq), fun q hq => h.ne q (List.mem_cons_of_mem _ hq)⟩
theorem spAt_cons (b : Band) (R : List Band) (y : Int) : spAt (b :: R) y = if b.1 ≤ y ∧ y < b.2.1 then b.2.2 else spAt R y := by
  unfold spAt rowAt
  rw [List.find?_cons]
  by_cases c : b.1 ≤ y ∧ y < b.2.1
  · rw [if_pos c, decide_eq_true (show bLo b ≤ y ∧ y < bHi b from c)]; rfl
  · rw [if_neg c, decide_eq_false (show ¬ (bLo b ≤ y ∧ y < bHi b) from c)]
theorem spAt_mem {R : List Band} {y : Int} (h : spAt R y ≠ []) : ∃ b ∈ R, b.1 ≤ y ∧ y < b.2.1 ∧ spAt R y = b.2.2 := by
  induction R with
  | nil => exact absurd rfl h
  | cons b t ih =>
    rw [spAt_cons] at h ⊢
    by_cases c : b.1 ≤ y ∧ y < b.2.1
    · exact ⟨b, List.mem_cons_self, c.1, c.2, by rw [if_pos c]⟩
    · rw [if_neg c] at h ⊢
      obtain ⟨q, hq, r⟩ := ih h
      exact ⟨q, List.mem_cons_of_mem _ hq, r⟩
theorem CanU.gapAt {R : List Band} (h : CanU R) (y : Int) : Gap (spAt R y) := by
  by_cases c : spAt R y = []
  · rw [c]; exact ⟨fun s hs => (by cases hs), List.Pairwise.nil⟩
  · obtain ⟨b, hb, _, _, e⟩ := spAt_mem c
    rw [e]; exact h.gap b hb
theorem CanU.first {b : Band} {R : List Band} (h : CanU (b :: R)) {y : Int} (hy : spAt (b :: R) y ≠ []) : b.1 ≤ y := by
  obtain ⟨q, hq, h1, _⟩ := spAt_mem hy
  rcases List.mem_cons.mp hq with rfl | hq
  · exact h1
  · have o : b.2.1 ≤ q.1 := (List.pairwise_cons.mp h.rows.ord).1 q hq
    have p : b.1 < b.2.1 := h.rows.pos b List.mem_cons_self
    omega
theorem CanU.in_ {b : Band} {R : List Band} {y : Int} (h1 : b.1 ≤ y) (h2 : y < b.2.1) : spAt (b :: R) y = b.2.2 := by rw [spAt_cons, if_pos ⟨h1, h2⟩]
/-- behind the last row of a band there are other spans -/
theorem CanU.end_ {b : Band} {R : List Band} (h : CanU (b :: R)) : spAt (b :: R) b.2.1 ≠ b.2.2 := by
  intro e
  have hne : spAt (b :: R) b.2.1 ≠ [] := by rw [e]; exact h.ne b List.mem_cons_self
  obtain ⟨q, hq, h1, h2, e2⟩ := spAt_mem hne
  rcases List.mem_cons.mp hq with rfl | hq
  · omega
  cases R with
  | nil => cases hq
  | cons n t =>
    have o := List.pairwise_cons.mp h.rows.ord
    have on : b.2.1 ≤ n.1 := o.1 n List.mem_cons_self
    have pn : n.1 < n.2.1 := h.rows.pos n (List.mem_cons_of_mem _ List.mem_cons_self)
    have hqn : q = n := by
      rcases List.mem_cons.mp hq with r | hq
      · exact r
      · have o2 : n.2.1 ≤ q.1 := (List.pairwise_cons.mp o.2).1 q hq
        omega
    subst hqn
    have c := h.ch 0 b q rfl rfl
    unfold bdC at c
    rw [decide_eq_true (show b.2.1 = q.1 by omega), Bool.true_and] at c
    exact of_decide_eq_false c (by rw [← e, e2])
theorem CanU.rest {b : Band} {R : List Band} (h : CanU (b :: R)) (y : Int) : spAt R y = if b.2.1 ≤ y then spAt (b :: R) y else [] := by
  by_cases c : b.2.1 ≤ y
  · rw [if_pos c, spAt_cons, if_neg (by omega)]
  · rw [if_neg c]
    by_cases d : spAt R y = []
    · exact d
    · obtain ⟨q, hq, h1, _⟩ := spAt_mem d
      have o : b.2.1 ≤ q.1 := (List.pairwise_cons.mp h.rows.ord).1 q hq
      omega
theorem bands_eq : ∀ {l m : List Band}, CanU l → CanU m → (∀ y, spAt l y = spAt m y) → l = m
  | [], [], _, _, _ => rfl
  | [], t :: m, _, hm, e => by
    have := e t.1
    rw [CanU.in_ (Int.le_refl _) (hm.rows.pos t List.mem_cons_self)] at this
    exact absurd this.symm (hm.ne t List.mem_cons_self)
  | s :: l, [], hl, _, e => by
    have := e s.1
    rw [CanU.in_ (Int.le_refl _) (hl.rows.pos s List.mem_cons_self)] at this
    exact absurd this (hl.ne s List.mem_cons_self)
  | s :: l, t :: m, hl, hm, e => by
    have ps : s.1 < s.2.1 := hl.rows.pos s List.mem_cons_self
    have pt : t.1 < t.2.1 := hm.rows.pos t List.mem_cons_self
    have a1 : t.1 ≤ s.1 := hm.first (by rw [← e, CanU.in_ (Int.le_refl _) ps]; exact hl.ne s List.mem_cons_self)
    have a2 : s.1 ≤ t.1 := hl.first (by rw [e, CanU.in_ (Int.le_refl _) pt]; exact hm.ne t List.mem_cons_self)
    have e1 : s.1 = t.1 := by omega
    have e3 : s.2.2 = t.2.2 := by
      have := e s.1
      rw [CanU.in_ (Int.le_refl _) ps, CanU.in_ (by omega) (by omega)] at this
      exact this
    have e2 : s.2.1 = t.2.1 := by
      rcases Int.lt_trichotomy s.2.1 t.2.1 with c | c | c
      · exact absurd (by rw [e, CanU.in_ (by omega) c, e3]) hl.end_
      · exact c
      · exact absurd (by rw [← e, CanU.in_ (by omega) c, e3]) hm.end_
    have est : s = t := Prod.ext e1 (Prod.ext e2 e3)
    subst est
    rw [bands_eq hl.tail hm.tail fun y => by rw [hl.rest, hm.rest, e]]
/-- the same squares, the same region -/
theorem one_form {A B : List Band} (ha : CanU A) (hb : CanU B) (h : ∀ x y, hasSq A x y = hasSq B x y) : A = B :=
  bands_eq ha hb fun y => spans_eq (ha.gapAt y) (hb.gapAt y) fun x => by
    have := h x y
    rw [hasSq_row, hasSq_row] at this
    exact this
theorem Gap.rows {l : List Span} (h : Gap l) : Rows Prod.fst Prod.snd l := ⟨h.pos, h.gap.imp fun {s t} z => by show s.2 ≤ t.1; omega⟩
theorem cmbR_u (op : Bool → Bool → Bool) (A B : List Band) : CanU (cmbR op A B) := by
  refine ⟨(cmbR_rows op A B).1, fun z hz => ?_, cmbR_chain op A B, fun z hz => ?_⟩
  · obtain ⟨_, p, e⟩ := (cmbR_rows op A B).2 z hz
    rw [e]
    exact ⟨(cmbS_rows op _ _).1.pos, My.gap (cmbS_rows op _ _).1 (cmbS_chain _ _ _)⟩
  · obtain ⟨q, hq, e⟩ := merge_pay bdC bdJ (fun b : Band => b.2.2) (fun _ _ => rfl) _ _ rfl z hz
    have hn := (List.mem_filter.mp hq).2
    have e' : z.2.2 = q.2.2 := e
    rw [e']
    intro h0
    rw [h0] at hn
    exact absurd hn (by decide)
/-! the three operations, and boxes -/
structure Box (R : List Band) : Prop where
  bs : ∀ b ∈ R, -1 ≤ b.1 ∧ b.2.1 ≤ 10 ∧ ∀ s ∈ b.2.2, -1 ≤ s.1 ∧ s.2 ≤ 10
  rows : Rows bLo bHi R
  sps : ∀ b ∈ R, Rows Prod.fst Prod.snd b.2.2
  gaps : ∀ b ∈ R, b.2.2.Pairwise fun s t => s.2 < t.1
theorem rows_few : ∀ {r : Type} {lo hi : r → Int} {l : List r} {c : Int}, Rows lo hi l → c ≤ 10 → (∀ q ∈ l, c ≤ lo q ∧ hi q ≤ 10) → (l.length : Int) ≤ 10 - c
  | _, _, _, [], c, _, hc, _ => by show (0 : Int) ≤ 10 - c; omega
  | _, lo, hi, q :: t, c, R, hc, h => by
    have hq := h q List.mem_cons_self
    have p := R.pos q List.mem_cons_self
    have ih := rows_few (l := t) (c := hi q) ⟨fun z hz => R.pos z (List.mem_cons_of_mem _ hz), (List.pairwise_cons.mp R.ord).2⟩ hq.2 fun z hz => ⟨(List.pairwise_cons.mp R.ord).1 z hz, (h z (List.mem_cons_of_mem _ hz)).2⟩
    rw [List.length_cons]
    omega
theorem Box.ok {R : List Band} (h : Box R) : RegOk R := by
  refine ⟨h.rows, h.sps, ?_, fun b hb => ?_, h.gaps⟩
  · have := rows_few (c := -1) h.rows (by decide) fun q hq => ⟨(h.bs q hq).1, (h.bs q hq).2.1⟩
    omega
  · have := rows_few (c := -1) (h.sps b hb) (by decide) fun q hq => (h.bs b hb).2.2 q hq
    omega
theorem Box.cmb {A B : List Band} (op : Bool → Bool → Bool) (ha : Box A) (hb : Box B) : Box (cmbR op A B) := by
  obtain ⟨h1, h2⟩ := cmbR_rows op A B
  have inE : ∀ {R : List Band}, Box R → ∀ b ∈ R, -1 ≤ bLo b ∧ bLo b ≤ 10 ∧ -1 ≤ bHi b ∧ bHi b ≤ 10 := fun hR b hb => by
    have := hR.bs b hb
    have := hR.rows.pos b hb
    have e1 : bLo b = b.1 := rfl
    have e2 : bHi b = b.2.1 := rfl
    omega
  have sp : ∀ {R : List Band}, Box R → ∀ p, ∀ s ∈ spansOf (rowAt bLo bHi R p), -1 ≤ s.1 ∧ s.1 ≤ 10 ∧ -1 ≤ s.2 ∧ s.2 ≤ 10 := fun {R} hR p s hs => by
    cases e : rowAt bLo bHi R p with
    | none => rw [e] at hs; cases hs
    | some b =>
      rw [e] at hs
      have hb : b ∈ R := List.mem_of_find?_eq_some e
      have g := (hR.bs b hb).2.2 s hs
      have g2 := (hR.sps b hb).pos s hs
      omega
  have ed : ∀ k ∈ edgeL bLo bHi A B, -1 ≤ k ∧ k ≤ 10 := fun k hk => by
    unfold edgeL at hk
    simp only [List.mem_append, List.mem_map] at hk
    rcases hk with ((⟨b, h, rfl⟩ | ⟨b, h, rfl⟩) | ⟨b, h, rfl⟩) | ⟨b, h, rfl⟩
    · have := inE ha b h; omega
    · have := inE ha b h; omega
    · have := inE hb b h; omega
    · have := inE hb b h; omega
  refine ⟨fun z hz => ?_, h1, fun z hz => ?_, fun z hz => ((cmbR_u op A B).gap z hz).gap⟩
  · obtain ⟨⟨e1, e2⟩, p, ep⟩ := h2 z hz
    refine ⟨(ed _ e1).1, (ed _ e2).2, fun s hs => ?_⟩
    rw [ep] at hs
    obtain ⟨m1, m2⟩ := (cmbS_rows op _ _).2 s hs
    have es : ∀ k ∈ edgeL Prod.fst Prod.snd (spansOf (rowAt bLo bHi A p)) (spansOf (rowAt bLo bHi B p)), -1 ≤ k ∧ k ≤ 10 := fun k hk => by
      unfold edgeL at hk
      simp only [List.mem_append, List.mem_map] at hk
      rcases hk with ((⟨b, h, rfl⟩ | ⟨b, h, rfl⟩) | ⟨b, h, rfl⟩) | ⟨b, h, rfl⟩
      · have := sp ha p b h; omega
      · have := sp ha p b h; omega
      · have := sp hb p b h; omega
      · have := sp hb p b h; omega
    exact ⟨(es _ m1).1, (es _ m2).2⟩
  · obtain ⟨_, p, ep⟩ := h2 z hz
    rw [ep]
    exact (cmbS_rows op _ _).1
theorem Box.nil : Box [] := ⟨fun b hb => (by cases hb), ⟨fun q hq => (by cases hq), List.Pairwise.nil⟩, fun b hb => (by cases hb), fun b hb => (by cases hb)⟩
theorem Box.rect {x y wd ht : Int} (hx : -1 ≤ x ∧ x + wd ≤ 10) (hy : -1 ≤ y ∧ y + ht ≤ 10) : Box (rectReg x y wd ht) := by
  unfold rectReg
  split
  · exact Box.nil
  · rename_i h
    refine ⟨fun b hb => ?_, ⟨fun q hq => ?_, List.pairwise_singleton _ _⟩, fun b hb => ?_, fun b hb => ?_⟩
    · cases List.mem_singleton.mp hb
      exact ⟨hy.1, hy.2, fun s hs => by cases List.mem_singleton.mp hs; exact hx⟩
    · cases List.mem_singleton.mp hq
      show y < y + ht; omega
    · cases List.mem_singleton.mp hb
      exact ⟨fun q hq => by cases List.mem_singleton.mp hq; show x < x + wd; omega, List.pairwise_singleton _ _⟩
    · cases List.mem_singleton.mp hb
      exact List.pairwise_singleton _ _
theorem Box.edge {A B : List Band} (ha : Box A) (hb : Box B) : (∀ k ∈ edgeL bLo bHi A B, -1 ≤ k ∧ k ≤ 10) ∧ ∀ p, ∀ k ∈ edgeL Prod.fst Prod.snd (spansOf (rowAt bLo bHi A p)) (spansOf (rowAt bLo bHi B p)), -1 ≤ k ∧ k ≤ 10 := by
  have inE : ∀ {R : List Band}, Box R → ∀ b ∈ R, -1 ≤ bLo b ∧ bLo b ≤ 10 ∧ -1 ≤ bHi b ∧ bHi b ≤ 10 := fun hR b hb => by
    have := hR.bs b hb
    have := hR.rows.pos b hb
    have e1 : bLo b = b.1 := rfl
    have e2 : bHi b = b.2.1 := rfl
    omega
  have sp : ∀ {R : List Band}, Box R → ∀ p, ∀ s ∈ spansOf (rowAt bLo bHi R p), -1 ≤ s.1 ∧ s.1 ≤ 10 ∧ -1 ≤ s.2 ∧ s.2 ≤ 10 := fun {R} hR p s hs => by
    cases e : rowAt bLo bHi R p with
    | none => rw [e] at hs; cases hs
    | some b =>
      rw [e] at hs
      have hb : b ∈ R := List.mem_of_find?_eq_some e
      have g := (hR.bs b hb).2.2 s hs
      have g2 := (hR.sps b hb).pos s hs
      omega
  refine ⟨fun k hk => ?_, fun p k hk => ?_⟩
  · unfold edgeL at hk
    simp only [List.mem_append, List.mem_map] at hk
    rcases hk with ((⟨b, h, rfl⟩ | ⟨b, h, rfl⟩) | ⟨b, h, rfl⟩) | ⟨b, h, rfl⟩
    · have := inE ha b h; omega
    · have := inE ha b h; omega
    · have := inE hb b h; omega
    · have := inE hb b h; omega
  · unfold edgeL at hk
    simp only [List.mem_append, List.mem_map] at hk
    rcases hk with ((⟨b, h, rfl⟩ | ⟨b, h, rfl⟩) | ⟨b, h, rfl⟩) | ⟨b, h, rfl⟩
    · have := sp ha p b h; omega
    · have := sp ha p b h; omega
    · have := sp hb p b h; omega
    · have := sp hb p b h; omega
def sides : List Int := (List.range 12).map fun i : Nat => (i : Int) - 1
theorem sides_len : sides.length < 64 := by unfold sides; rw [List.length_map, List.length_range]; decide
theorem in_sides {k : Int} (h : -1 ≤ k ∧ k ≤ 10) : k ∈ sides := List.mem_map.mpr ⟨(k + 1).toNat, List.mem_range.mpr (by omega), by show (((k + 1).toNat : Nat) : Int) - 1 = k; omega⟩
theorem Box.pair {A B : List Band} (ha : Box A) (hb : Box B) : Pair A B :=
  ⟨⟨sides, fun k hk => in_sides ((ha.edge hb).1 k hk), Nat.lt_trans sides_len (by decide)⟩, fun p => ⟨sides, fun k hk => in_sides ((ha.edge hb).2 p k hk), Nat.lt_trans sides_len (by decide)⟩⟩
def sp_op2 (op : Bool → Bool → Bool) (K : PySem.W.Frag) : Sp := fun vs H Q _ => ∃ (Ra Rb : List Band) (va vb : V) (U : Hp), vs = [va, vb] ∧ Same U H ∧ Dp K U va (regD Ra) ∧ Dp K U vb (regD Rb) ∧ RegOk Ra ∧ RegOk Rb ∧ Pair Ra Rb ∧
  ∀ v U' H', Ext U H U' H' → Dp K U' v (regD (cmbR op Ra Rb)) → Q v H'
theorem sc_united : FnScope ["a", "b"] ["a", "b"] (defScope s_united) := ⟨rfl, rfl, rfl, by decide +kernel, rfl, by decide +kernel, by decide +kernel⟩
theorem sc_without : FnScope ["a", "b"] ["a", "b"] (defScope s_without) := ⟨rfl, rfl, rfl, by decide +kernel, rfl, by decide +kernel, by decide +kernel⟩
theorem ok_united (T : Txt0 P K mg A) : FnOk P w K mg base CX0 5 A.funited A.dunited ["a", "b"] (sp_op2 or K) := by
  refine T.Funited.ok sc_united (fun vs H Q E h => ?_) (fun cdv Ar outer s H vs Q E hr h => ?_)
  · obtain ⟨_, _, _, _, _, rfl, _⟩ := h
    rfl
  · obtain ⟨Ra, Rb, va, vb, U, rfl, sU, da, db, oa, ob, pr, q⟩ := h
    refine ⟨_, (pss_one (ps_ret (pe_call (ok__combined T) (hr.mono (by decide)) rfl T.g_combined T.k_combined T.b_combined .nil pass0 (pa_cons (pv 0) (pa_cons (pv 1) (pa_cons (pe_glob (v := .ref A.f_either) rfl T.g_either rfl) pa_nil)))))), ?_⟩
    exact ⟨_, rfl, _, rfl, or, Ra, Rb, va, vb, A.f_either, U, rfl, .inl ⟨rfl, rfl⟩, sU, da, db, oa, ob, pr, q⟩
theorem ok_without (T : Txt0 P K mg A) : FnOk P w K mg base CX0 5 A.fwithout A.dwithout ["a", "b"] (sp_op2 (fun a b => a && !b) K) := by
  refine T.Fwithout.ok sc_without (fun vs H Q E h => ?_) (fun cdv Ar outer s H vs Q E hr h => ?_)
  · obtain ⟨_, _, _, _, _, rfl, _⟩ := h
    rfl
  · obtain ⟨Ra, Rb, va, vb, U, rfl, sU, da, db, oa, ob, pr, q⟩ := h
    refine ⟨_, (pss_one (ps_ret (pe_call (ok__combined T) (hr.mono (by decide)) rfl T.g_combined T.k_combined T.b_combined .nil pass0 (pa_cons (pv 0) (pa_cons (pv 1) (pa_cons (pe_glob (v := .ref A.f_first_alone) rfl T.g_first_alone rfl) pa_nil)))))), ?_⟩
    exact ⟨_, rfl, _, rfl, (fun a b => a && !b), Ra, Rb, va, vb, A.f_first_alone, U, rfl, .inr ⟨rfl, rfl⟩, sU, da, db, oa, ob, pr, q⟩
/-! ### a heap without some places -/
def hide (H : Hp) (a : Addr) : Hp := fun b => if b = a then none else H b
def paneV : List Int → V
  | [] => .non
  | p :: _ => .int p
def ofF (tr kd : Addr) (on : Bool) : List (Str × V) := [("_transfers", .ref tr), ("_kept", .ref kd), ("_is_hovered", .bl on)]
/-- what is not to be looked at -/
structure Hid (p : Prop) : Prop where
  go : p
/-- where words that go on by themselves stop -/
structure Stop (p : Prop) : Prop where
  go : p
  tr : True
theorem stop {p : Prop} (h : p) : Stop p := ⟨h, trivial⟩
/-! ### more words -/
local macro_rules | `(tactic| walk_at "go2") => `(tactic| first
  | walk_at "go1"
  | refine ⟨(⟨by omega, by omega⟩ : CDiv _ _), ?_⟩
  | refine ⟨(Or.inl ⟨by omega, by omega⟩ : CMul _ _), ?_⟩
  | refine ⟨(Or.inr ⟨by omega, by omega⟩ : CMul _ _), ?_⟩
  | refine ⟨(by show (0 : Int) < _; omega), ?_⟩)
local macro_rules | `(tactic| walk_at "gx") => `(tactic| repeat walk_at "go2")
/-! words for fields and heaps -/
local macro_rules | `(tactic| walk_at "lk") => `(tactic| first
  | exact List.lookup_cons_self
  | (refine (lk_ne (by decide +kernel)).trans ?_; walk_at "lk"))
local macro_rules | `(tactic| walk_at "ln") => `(tactic| first
  | exact ln_nil
  | (refine (lk_ne (by decide +kernel)).trans ?_; walk_at "ln"))
local macro_rules | `(tactic| walk_at "pf") => `(tactic| first
  | exact pf_eq
  | exact pf_nil
  | (apply pf_ne; (focus decide +kernel); walk_at "pf"))
local macro_rules | `(tactic| walk_at "h") => `(tactic| ((try simp only [same_iff] at *); grind [L2.upd]))
local macro_rules | `(tactic| walk_at "gf1") => `(tactic| first
  | refine ⟨_, _, _, _, rfl, (by assumption), (by walk_at "lk"), ?_⟩
  | refine ⟨_, _, _, _, rfl, (by assumption), (by exact Nat.le_of_ble_eq_true rfl), (by walk_at "pf"), ?_⟩
  | refine ⟨_, _, _, rfl, (by assumption), (by walk_at "ln"), ?_⟩
  | refine .inl ⟨rfl, _, SqL.of (by assumption), ?_⟩
  | (refine And.intro (.inl ⟨rfl, _, SqL.of (by assumption)⟩) ?_)
  | walk_at "go2")
local macro_rules | `(tactic| walk_at "gf") => `(tactic| repeat walk_at "gf1")
local macro_rules | `(tactic| walk_at "nn") => `(tactic| walk_at "h")
local macro_rules | `(tactic| walk_at "nl") => `(tactic| ((try unfold L2.tNil); (try dsimp only)))
/-! ### what only adds to the view and the heap -/
structure Pu (U H U' H' : Hp) : Prop where
  vv : Same U U'
  vh : Same U' H'
  out : ∀ b, U b = none → H b ≠ none → U' b = none
  nn : ∀ b, H' b = none → H b = none
  kp : ∀ b, H b ≠ none → H' b = H b
theorem Pu.refl {U H : Hp} (s : Same U H) : Pu U H U H := ⟨Same.refl U, s, fun _ h _ => h, fun _ h => h, fun _ _ => rfl⟩
theorem Pu.trans {U H U1 H1 U2 H2 : Hp} (a : Pu U H U1 H1) (b : Pu U1 H1 U2 H2) : Pu U H U2 H2 := by
  obtain ⟨a1, a2, a3, a4, a5⟩ := a
  obtain ⟨b1, b2, b3, b4, b5⟩ := b
  exact ⟨a1.trans b1, b2, by walk_at "h", by walk_at "h", by walk_at "h"⟩
theorem Pu.new {U H : Hp} (s : Same U H) {p : Addr} {o : HO} (h : H p = none) : Pu U H (upd U p o) (upd H p o) :=
  ⟨by walk_at "h", by walk_at "h", by walk_at "h", by walk_at "h", by walk_at "h"⟩
theorem Pu.skip {U H : Hp} (s : Same U H) {p : Addr} {o : HO} (h : H p = none) : Pu U H U (upd H p o) :=
  ⟨Same.refl U, by walk_at "h", fun _ h _ => h, by walk_at "h", by walk_at "h"⟩
theorem _root_.My.Ext.pu {U H U' H' : Hp} (x : Ext U H U' H') : Pu U H U' H' := by
  obtain ⟨x1, x2, x3, x4⟩ := x
  refine ⟨x1, x2, fun b h n => ?_, by walk_at "h", by walk_at "h"⟩
  cases e : U' b with
  | none => rfl
  | some u => exact ((x4 b (by rw [e]; exact fun z => by cases z)).elim (fun z => absurd h z) (fun z => absurd z n))
/-! ### Fault.__init__, and a Fault that is raised -/
def ffF (n c : Int) (wd : Str) : List (Str × V) := [("words", .str wd), ("code", .int c), ("number", .int n)]
def sp_Fault___init__ (C : Addr) : Sp := fun vs H Q _ => ∃ (a : Addr) (n c : Int) (wd : Str), vs = [.ref a, .int n, .int c, .str wd] ∧ H a = some (exo a C none) ∧
  ∀ (dx : Addr) (H' : Hp), H dx = none → (∀ b, b ≠ a → H b ≠ none → H' b = H b) → (∀ b, H' b = none → H b = none) → ExV H' a C dx (ffF n c wd) → Q .non H'
theorem sc_Fault___init__ : SupScope ["self", "number", "code", "words"] ["self", "number", "code", "words"] (defScope s_Fault___init__) := ⟨rfl, rfl, rfl, by decide +kernel, rfl, by decide +kernel, by decide +kernel, by decide +kernel, rfl, rfl⟩
theorem ok_Fault___init__ (T : Txt0 P K mg A) : FnOk P w K mg base CX0 1 A.fFault___init__ A.dFault___init__ ["self", "number", "code", "words"] (sp_Fault___init__ A.CFault) := by
  refine T.FFault___init__.ok T.prg (ar := _) (rest := _) sc_Fault___init__ (fun vs H Q E h => ?_) rfl rfl rfl T.super (fun _ _ _ => rfl) (fun _ => rfl) (fun _ => rfl) (fun cc cda Ar outer s H vs Q E hr h => ?_)
  · obtain ⟨_, _, _, _, rfl, _⟩ := h
    rfl
  · obtain ⟨a, n, c, wd, rfl, ea, q⟩ := h
    replace q := Hid.mk q
    refine ⟨_, _, a, A.CFault, _, pa_cons (pv 3) pa_nil, pss_cons (ps_ost (pv 0) (pv 1)) (pss_cons (ps_ost (pv 0) (pv 2)) (pss_one (ps_ost (pv 0) (pv 3)))), rfl, ea, T.vFault, ?_⟩
    refine ⟨_, rfl, (by show 1 ≤ 1000; decide), ea, ?_⟩
    refine ⟨_, rfl, _, rfl, a, A.CFault, rfl, T.oFault, T.nFault_number, .inl ⟨ea, fun dx hdx hne => ?_⟩⟩
    have o1 : (upd (upd H dx (exd dx [("number", .int n)])) a (exo a A.CFault (some dx))) a = some (exo a A.CFault (some dx)) := upd_same
    have d1 : (upd (upd H dx (exd dx [("number", .int n)])) a (exo a A.CFault (some dx))) dx = some (exd dx [("number", .int n)]) := by rw [upd_ne hne, upd_same]
    have k1 : ∀ b, b ≠ a → H b ≠ none → (upd (upd H dx (exd dx [("number", .int n)])) a (exo a A.CFault (some dx))) b = H b := by walk_at "h"
    have m1 : ∀ b, (upd (upd H dx (exd dx [("number", .int n)])) a (exo a A.CFault (some dx))) b = none → H b = none := by walk_at "h"
    generalize upd (upd H dx (exd dx [("number", .int n)])) a (exo a A.CFault (some dx)) = H1 at o1 d1 k1 m1 ⊢
    refine ⟨_, rfl, _, rfl, a, A.CFault, rfl, T.oFault, T.nFault_code, .inr ⟨dx, _, o1, d1, (by show 1 ≤ 900; decide), ?_⟩⟩
    have o2 : (upd H1 dx (exd dx [("code", .int c), ("number", .int n)])) a = some (exo a A.CFault (some dx)) := by rw [upd_ne hne.symm]; exact o1
    refine ⟨_, rfl, _, rfl, a, A.CFault, rfl, T.oFault, T.nFault_words, .inr ⟨dx, _, o2, upd_same, (by show 2 ≤ 900; decide), ?_⟩⟩
    refine q.go dx _ hdx ?_ ?_ ⟨by rw [upd_ne hne.symm]; exact o2, upd_same⟩
    · intro b hb hn
      have hbd : b ≠ dx := fun z => hn (by rw [z]; exact hdx)
      rw [upd_ne hbd, upd_ne hbd]; exact k1 b hb hn
    · intro b hb
      by_cases hbd : b = dx
      · rw [hbd]; exact hdx
      · rw [upd_ne hbd, upd_ne hbd] at hb; exact m1 b hb
/-- the raising's reading, told shortly -/
theorem fault_go {C : Addr} {H : Hp} {n c : Int} {wd : Str} {E : XK} (q : ∀ (d : Addr) (H' : Hp), H d = none → H' d = some (.xd (ffF n c wd)) → (∀ b, H b ≠ none → H' b = H b) → (∀ b, b ≠ d → H' b = none → H b = none) → E (.ref C) (some d) H') :
    ∀ a, H a = none → sp_Fault___init__ C [.ref a, .int n, .int c, .str wd] (upd H a (exo a C none)) (fun v H2 => v = .non ∧ ∃ (d : Addr) (fs : List (Str × V)), H2 a = some (exo a C (some d)) ∧ H2 d = some (exd d fs) ∧ H d = none ∧ E (.ref C) (some d) (upd (del H2 a) d (.xd fs))) (fun _ _ _ => False) := by
  intro a ha
  refine ⟨a, n, c, wd, rfl, upd_same, fun dx H' hdx k m ev => ⟨rfl, dx, _, ev.ob, ev.di, ?_, ?_⟩⟩
  · have : dx ≠ a := fun z => by rw [z, upd_same] at hdx; cases hdx
    rw [upd_ne this] at hdx; exact hdx
  · have hda : dx ≠ a := fun z => by rw [z, upd_same] at hdx; cases hdx
    rw [upd_ne hda] at hdx
    refine q dx _ hdx upd_same (fun b hb => ?_) (fun b hbd hb => ?_)
    · have h1 : b ≠ dx := fun z => hb (by rw [z]; exact hdx)
      have h2 : b ≠ a := fun z => hb (by rw [z]; exact ha)
      rw [upd_ne h1, del_ne h2, k b h2 (by rw [upd_ne h2]; exact hb), upd_ne h2]
    · rw [upd_ne hbd] at hb
      by_cases h2 : b = a
      · rw [h2]; exact ha
      · rw [del_ne h2] at hb
        have := m b hb
        rw [upd_ne h2] at this; exact this
/-! ### a request; a fault that goes up -/
def sp_Request___init__ (C : Addr) : Sp := fun vs H Q _ => ∃ (a dx : Addr) (n : Int) (i m : Str) (va : V) (e : Bool), vs = [.ref a, .int n, .str i, .str m, va, .bl e] ∧ H a = some (.ins C dx []) ∧ ∀ H' : Hp, H' a = some (.ins C dx [("number", .int n), ("interface", .str i), ("name", .str m), ("arguments", va), ("ends", .bl e)]) → (∀ b, b ≠ a → H' b = H b) → Q .non H'
theorem sc_Request___init__ : FnScope ["self", "number", "interface", "name", "arguments", "ends"] ["self", "number", "interface", "name", "arguments", "ends"] (defScope s_Request___init__) := ⟨rfl, rfl, rfl, by decide +kernel, rfl, by decide +kernel, by decide +kernel⟩
theorem ok_Request___init__ (T : Txt0 P K mg A) : FnOk P w K mg base CX0 1 A.fRequest___init__ A.dRequest___init__ ["self", "number", "interface", "name", "arguments", "ends"] (sp_Request___init__ A.CRequest) := by
  refine T.FRequest___init__.ok sc_Request___init__ (fun vs H Q E h => ?_) (fun cdv Ar outer st H vs Q E hr h => ?_)
  · obtain ⟨_, _, _, _, _, _, _, rfl, _⟩ := h
    rfl
  · obtain ⟨a, dx, n, i, m, va, e, rfl, ho, q⟩ := h
    replace q := Hid.mk q
    refine ⟨_, (pss_cons (ps_fldC T.clRequest T.nRequest_number (pv 0) (pv 1) rfl)
      (pss_cons (ps_fldC T.clRequest T.nRequest_interface (pv 0) (pv 2) rfl)
      (pss_cons (ps_fldC T.clRequest T.nRequest_name (pv 0) (pv 3) rfl)
      (pss_cons (ps_fldC T.clRequest T.nRequest_arguments (pv 0) (pv 4) rfl)
      (pss_one (ps_fldC T.clRequest T.nRequest_ends (pv 0) (pv 5) rfl)))))), ?_⟩
    walk_at "gf"
    intro H1 f1 k1
    walk_at "gf"
    intro H2 f2 k2
    walk_at "gf"
    intro H3 f3 k3
    walk_at "gf"
    intro H4 f4 k4
    walk_at "gf"
    intro H5 f5 k5
    exact q.go H5 f5 (fun b hb => by rw [k5 b hb, k4 b hb, k3 b hb, k2 b hb, k1 b hb])
structure Rq (C : Addr) (H : Hp) (r : Addr) (n : Int) (i m : Str) (va : V) : Prop where
  ob : ∃ dx e, H r = some (.ins C dx [("number", .int n), ("interface", .str i), ("name", .str m), ("arguments", va), ("ends", .bl e)])
/-- a Fault goes up -/
def FaultTo (A : Adr) (H : Hp) (E : XK) (n c : Int) (wd : Str) : Prop := ∀ dd H', H dd = none → H' dd = some (.xd (ffF n c wd)) → (∀ b, H b ≠ none → H' b = H b) → (∀ b, b ≠ dd → H' b = none → H b = none) → E (.ref A.CFault) (some dd) H'
/-! ### a Reply -/
def rpF (t e w a : V) : List (Str × V) := [("told", t), ("ended", e), ("wishes", w), ("applied", a)]
def tsD (ts : List (List Int)) : PyData := .list (ts.map pInts)
theorem sh_ts (ts : List (List Int)) : Sh 2 (tsD ts) := sh_list fun d hd => by
  obtain ⟨n, _, rfl⟩ := List.mem_map.mp hd
  exact sh_ints n
structure Rp (C : Addr) (K : PySem.W.Frag) (U H : Hp) (o lt le lw : Addr) (ts : List (List Int)) (es : List Int) (ws : List PyData) : Prop where
  ob : ∃ dx va, H o = some (.ins C dx [("told", .ref lt), ("ended", .ref le), ("wishes", .ref lw), ("applied", va)])
  uo : U o = none
  ut : U lt = none
  ue : U le = none
  uw : U lw = none
  n1 : lt ≠ le
  n2 : lt ≠ lw
  n3 : le ≠ lw
  t : ∃ ys, H lt = some (.lst ys) ∧ DpAll K U ys (ts.map pInts)
  e : H le = some (.lst (es.map V.int))
  w : ∃ ys, H lw = some (.lst ys) ∧ DpAll K U ys ws
theorem Rp.frame {C : Addr} {K : PySem.W.Frag} {U H U' H' : Hp} {o lt le lw : Addr} {ts : List (List Int)} {es : List Int} {ws : List PyData} (h : Rp C K U H o lt le lw ts es ws) (s : Same U U')
    (k : ∀ b, H b ≠ none → U b = none → (b = o ∨ b = lt ∨ b = le ∨ b = lw) → U' b = none ∧ H' b = H b) : Rp C K U' H' o lt le lw ts es ws := by
  obtain ⟨dx, va, e1⟩ := h.ob
  obtain ⟨yt, e2, d2⟩ := h.t
  obtain ⟨yw, e4, d4⟩ := h.w
  have e3 := h.e
  have k1 := k _ (by rw [e1]; exact fun z => by cases z) h.uo (.inl rfl)
  have k1 := (show _ ∧ _ = _ from ⟨k1.1, k1.2.trans e1⟩)
  have k2 := k _ (by rw [e2]; exact fun z => by cases z) h.ut (.inr (.inl rfl))
  have k2 := (show _ ∧ _ = _ from ⟨k2.1, k2.2.trans e2⟩)
  have k3 := k _ (by rw [e3]; exact fun z => by cases z) h.ue (.inr (.inr (.inl rfl)))
  have k3 := (show _ ∧ _ = _ from ⟨k3.1, k3.2.trans e3⟩)
  have k4 := k _ (by rw [e4]; exact fun z => by cases z) h.uw (.inr (.inr (.inr rfl)))
  have k4 := (show _ ∧ _ = _ from ⟨k4.1, k4.2.trans e4⟩)
  exact ⟨⟨dx, va, k1.2⟩, k1.1, k2.1, k3.1, k4.1, h.n1, h.n2, h.n3, ⟨yt, k2.2, d2.to s⟩, k3.2, ⟨yw, k4.2, d4.to s⟩⟩
def sp_Reply___init__ (C : Addr) (K : PySem.W.Frag) : Sp := fun vs H Q _ => ∃ (o dx : Addr) (U : Hp), vs = [.ref o] ∧ H o = some (.ins C dx []) ∧ Same U H ∧ U o = none ∧ ∀ (p1 p2 p3 : Addr) (H' : Hp), Same U H' → (∀ b, b ≠ o → H b ≠ none → H' b = H b) → (∀ b, H' b = none → H b = none) → H p1 = none → H p2 = none → H p3 = none →
  Rp C K U H' o p1 p2 p3 [] [] [] → Q .non H'
theorem sc_Reply___init__ : FnScope ["self"] ["self"] (defScope s_Reply___init__) := ⟨rfl, rfl, rfl, by decide +kernel, rfl, by decide +kernel, by decide +kernel⟩
theorem ok_Reply___init__ (T : Txt0 P K mg A) : FnOk P w K mg base CX0 1 A.fReply___init__ A.dReply___init__ ["self"] (sp_Reply___init__ A.CReply K) := by
  refine T.FReply___init__.ok sc_Reply___init__ (fun vs H Q E h => ?_) (fun cdv Ar outer st H vs Q E hr h => ?_)
  · obtain ⟨_, _, _, rfl, _⟩ := h
    rfl
  · obtain ⟨ob, dx, U, rfl, ho, sU, uo, q⟩ := h
    refine ⟨_, (pss_cons (ps_fldC T.clReply T.nReply_told (pv 0) (pe_lst pa_nil) rfl)
      (pss_cons (ps_fldC T.clReply T.nReply_ended (pv 0) (pe_lst pa_nil) rfl)
      (pss_cons (ps_fldC T.clReply T.nReply_wishes (pv 0) (pe_lst pa_nil) rfl)
      (pss_one (ps_fldC T.clReply T.nReply_applied (pv 0) (pe_lst pa_nil) rfl))))), ?_⟩
    refine ⟨len_line (by show 0 ≤ 100000; decide), fun p1 n1 => ?_⟩
    have e1 : (upd H p1 (.lst [])) ob = some (.ins A.CReply dx []) := by walk_at "h"
    walk_at "gf"
    intro H1 f1 k1
    refine ⟨len_line (by show 0 ≤ 100000; decide), fun p2 n2 => ?_⟩
    have e2 : (upd H1 p2 (.lst [])) ob = some (.ins A.CReply dx _) := (same_upd n2) _ _ f1
    walk_at "gf"
    intro H2 f2 k2
    refine ⟨len_line (by show 0 ≤ 100000; decide), fun p3 n3 => ?_⟩
    have e3 : (upd H2 p3 (.lst [])) ob = some (.ins A.CReply dx _) := (same_upd n3) _ _ f2
    walk_at "gf"
    intro H3 f3 k3
    refine ⟨len_line (by show 0 ≤ 100000; decide), fun p4 n4 => ?_⟩
    have e4 : (upd H3 p4 (.lst [])) ob = some (.ins A.CReply dx _) := (same_upd n4) _ _ f3
    walk_at "gf"
    intro H4 f4 k4
    have z1 : p1 ≠ ob := by walk_at "h"
    have z2 : p2 ≠ ob := by walk_at "h"
    have z3 : p3 ≠ ob := by walk_at "h"
    have z4 : p4 ≠ ob := by walk_at "h"
    have g1 : H1 p1 = some (.lst []) := by walk_at "h"
    have g12 : p1 ≠ p2 := by walk_at "h"
    have g2 : H2 p1 = some (.lst []) ∧ H2 p2 = some (.lst []) := by walk_at "h"
    have g13 : p1 ≠ p3 := by walk_at "h"
    have g23 : p2 ≠ p3 := by walk_at "h"
    have g3 : H3 p1 = some (.lst []) ∧ H3 p2 = some (.lst []) ∧ H3 p3 = some (.lst []) := by walk_at "h"
    have g4 : H4 p1 = some (.lst []) ∧ H4 p2 = some (.lst []) ∧ H4 p3 = some (.lst []) := by walk_at "h"
    have m1 : ∀ b, b ≠ ob → H b ≠ none → H1 b = H b := by walk_at "h"
    have m2 : ∀ b, b ≠ ob → H b ≠ none → H2 b = H b := by walk_at "h"
    have m3 : ∀ b, b ≠ ob → H b ≠ none → H3 b = H b := by walk_at "h"
    have m4 : ∀ b, b ≠ ob → H b ≠ none → H4 b = H b := by walk_at "h"
    have f1' : H p1 = none := by walk_at "h"
    have f2' : H p2 = none := by walk_at "h"
    have f3' : H p3 = none := by walk_at "h"
    have sm : Same U H4 := by walk_at "h"
    refine q p1 p2 p3 H4 sm m4 (by walk_at "nn") f1' f2' f3' ⟨⟨dx, _, f4⟩, uo, sU.free f1', sU.free f2', sU.free f3', g12, g13, g23, ⟨[], g4.1, .nil⟩, g4.2.1, ⟨[], g4.2.2, .nil⟩⟩
/-! ### pictures, buffers -/
def picF (wd ht : Int) (l : Addr) : List (Str × V) := [("width", .int wd), ("height", .int ht), ("pixels", .ref l)]
def sp_Picture___init__ (C : Addr) : Sp := fun vs H Q _ => ∃ (a dx l : Addr) (wd ht : Int), vs = [.ref a, .int wd, .int ht, .ref l] ∧ H a = some (.ins C dx []) ∧ ∀ H' : Hp, H' a = some (.ins C dx (picF wd ht l)) → (∀ b, b ≠ a → H' b = H b) → Q .non H'
theorem sc_Picture___init__ : FnScope ["self", "width", "height", "pixels"] ["self", "width", "height", "pixels"] (defScope s_Picture___init__) := ⟨rfl, rfl, rfl, by decide +kernel, rfl, by decide +kernel, by decide +kernel⟩
theorem ok_Picture___init__ (T : Txt0 P K mg A) : FnOk P w K mg base CX0 1 A.fPicture___init__ A.dPicture___init__ ["self", "width", "height", "pixels"] (sp_Picture___init__ A.CPicture) := by
  refine T.FPicture___init__.ok sc_Picture___init__ (fun vs H Q E h => ?_) (fun cdv Ar outer st H vs Q E hr h => ?_)
  · obtain ⟨_, _, _, _, _, rfl, _⟩ := h
    rfl
  · obtain ⟨a, dx, l, wd, ht, rfl, ho, q⟩ := h
    replace q := Hid.mk q
    refine ⟨_, (pss_cons (ps_fldC T.clPicture T.nPicture_width (pv 0) (pv 1) rfl)
      (pss_cons (ps_fldC T.clPicture T.nPicture_height (pv 0) (pv 2) rfl)
      (pss_one (ps_fldC T.clPicture T.nPicture_pixels (pv 0) (pv 3) rfl)))), ?_⟩
    walk_at "gf"
    intro H1 f1 k1
    walk_at "gf"
    intro H2 f2 k2
    walk_at "gf"
    intro H3 f3 k3
    exact q.go H3 f3 fun b hb => (k3 b hb).trans ((k2 b hb).trans (k1 b hb))
def sp_clear_picture (A : Adr) : Sp := fun vs H Q _ => ∃ (wd ht : Int) (U : Hp), vs = [.int wd, .int ht] ∧ (1 ≤ wd ∧ wd ≤ 128) ∧ (1 ≤ ht ∧ ht ≤ 128) ∧ Same U H ∧ ∀ (o l dx : Addr) (n : Nat) (U' H' : Hp), Pu U H U' H' → U' o = some (.ins A.CPicture dx (picF wd ht l)) → U' l = some (.lst (List.replicate n (.int 0))) → n ≤ 20000 → Q (.ref o) H'
theorem sc_clear_picture : FnScope ["width", "height"] ["width", "height"] (defScope s_clear_picture) := ⟨rfl, rfl, rfl, by decide +kernel, rfl, by decide +kernel, by decide +kernel⟩
theorem ok_clear_picture (T : Txt0 P K mg A) : FnOk P w K mg base CX0 3 A.fclear_picture A.dclear_picture ["width", "height"] (sp_clear_picture A) := by
  refine T.Fclear_picture.ok sc_clear_picture (fun vs H Q E h => ?_) (fun cdv Ar outer st H vs Q E hr h => ?_)
  · obtain ⟨_, _, _, rfl, _⟩ := h
    rfl
  · obtain ⟨wd, ht, U, rfl, hw, hh, sU, q⟩ := h
    replace q := Hid.mk q
    refine ⟨_, (pss_one (ps_ret (pe_make T.MPicture (ok_Picture___init__ T) (hr.mono (by decide)) rfl T.gPicture T.bPicture___init__ .nil pass0 (pa_cons (pv 0) (pa_cons (pv 1) (pa_cons (pe_op op_rep (pe_lst (pa_cons (pe_glob (v := .int (0)) rfl T.gCLEAR ⟨_, rfl⟩) pa_nil)) (pe_op op_mul (pv 0) (pv 1))) pa_nil)))))), ?_⟩
    walk_at "gf"
    rename_i p hp
    have e1 : (upd H p (.lst [.int 0])) p = some (.lst [.int 0]) := upd_same
    have P1 := Pu.skip (o := .lst [.int 0]) sU hp
    generalize upd H p (.lst [.int 0]) = H1 at e1 P1 ⊢
    have ha : 1 * 1 ≤ wd * ht := Int.mul_le_mul hw.1 hh.1 (by decide) (by omega)
    have hb : wd * ht ≤ 128 * 128 := Int.mul_le_mul hw.2 hh.2 (by omega) (by decide)
    refine ⟨p, _, _, rfl, rfl, e1, by omega, by omega, len_line (by show 1 * _ ≤ 100000; omega), fun p2 hp2 => ?_⟩
    rw [rep_flat]
    have P2 := P1.trans (Pu.new (o := .lst (List.replicate (wd * ht).toNat (.int 0))) P1.vh hp2)
    have e2 : (upd U p2 (.lst (List.replicate (wd * ht).toNat (.int 0)))) p2 = some (.lst (List.replicate (wd * ht).toNat (.int 0))) := upd_same
    generalize upd U p2 (.lst (List.replicate (wd * ht).toNat (.int 0))) = U2 at P2 e2 ⊢
    generalize upd H1 p2 (.lst (List.replicate (wd * ht).toNat (.int 0))) = H2 at P2 ⊢
    walk_at "gf"
    intro o dx ho hdx nod
    refine ⟨o, dx, p2, wd, ht, rfl, upd_same, fun H3 e3 k3 => ⟨rfl, ?_⟩⟩
    have s2 := P2.vh
    have uo : U2 o = none := s2.free ho
    have P3 : Pu U2 H2 (upd U2 o (.ins A.CPicture dx (picF wd ht p2))) H3 := by
      refine ⟨same_upd uo, fun b u e => ?_, fun b h n => ?_, fun b h => ?_, fun b h => ?_⟩
      · by_cases c : b = o
        · rw [c, upd_same] at e; rw [c, e3]; exact e
        · rw [upd_ne c] at e
          have := s2 b u e
          rw [k3 b c, upd_ne c, upd_ne (fun z => by rw [z, hdx] at this; cases this)]
          exact this
      · rw [upd_ne (fun z => n (by rw [z]; exact ho))]; exact h
      · by_cases c : b = o
        · rw [c, e3] at h; cases h
        · rw [k3 b c, upd_ne c] at h
          by_cases c2 : b = dx
          · rw [c2]; exact hdx
          · rw [upd_ne c2] at h; exact h
      · have c : b ≠ o := fun z => h (by rw [z]; exact ho)
        have c2 : b ≠ dx := fun z => h (by rw [z]; exact hdx)
        rw [k3 b c, upd_ne c, upd_ne c2]
    exact q.go o p2 dx (wd * ht).toNat _ H3 (P2.trans P3) upd_same (P3.vv _ _ e2) (by omega)
/-! ### the object -/
structure Pic where
  n : Int
  wd : Int
  ht : Int
  o : Addr
structure Rgn where
  n : Int
  R : List Band
  v : V
def kvP (ps : List Pic) : List (Key × V) := ps.map fun p => ((.inl p.n : Key), V.ref p.o)
def kvR (rs : List Rgn) : List (Key × V) := rs.map fun r => ((.inl r.n : Key), r.v)
structure BufAt (A : Adr) (K : PySem.W.Frag) (U H : Hp) (bo pd rd : Addr) (ps : List Pic) (rs : List Rgn) : Prop where
  ob : ∃ dx, U bo = some (.ins A.CBuffers dx [("_pictures", .ref pd), ("_regions", .ref rd)])
  ep : H pd = some (.dK (kvP ps))
  er : H rd = some (.dK (kvR rs))
  up : U pd = none
  ur : U rd = none
  ne : pd ≠ rd
  pi : ∀ p ∈ ps, ((1 ≤ p.wd ∧ p.wd ≤ 128) ∧ 1 ≤ p.ht ∧ p.ht ≤ 128) ∧ ∃ dx l n, U p.o = some (.ins A.CPicture dx (picF p.wd p.ht l)) ∧ U l = some (.lst (List.replicate n (.int 0))) ∧ n ≤ 20000
  ri : ∀ r ∈ rs, Dp K U r.v (regD r.R)
theorem BufAt.frame {A : Adr} {K : PySem.W.Frag} {U H U' H' : Hp} {bo pd rd : Addr} {ps : List Pic} {rs : List Rgn} (b : BufAt A K U H bo pd rd ps rs) (s : Same U U') (kp : U' pd = none ∧ H' pd = H pd) (kr : U' rd = none ∧ H' rd = H rd) : BufAt A K U' H' bo pd rd ps rs := by
  obtain ⟨dx, e⟩ := b.ob
  refine ⟨⟨dx, s _ _ e⟩, kp.2.trans b.ep, kr.2.trans b.er, kp.1, kr.1, b.ne, fun p hp => ?_, fun r hr => (b.ri r hr).to s⟩
  obtain ⟨h1, dx, l, n, h2, h3, h4⟩ := b.pi p hp
  exact ⟨h1, dx, l, n, s _ _ h2, s _ _ h3, h4⟩
theorem BufAt.pu {A : Adr} {K : PySem.W.Frag} {U H U' H' : Hp} {bo pd rd : Addr} {ps : List Pic} {rs : List Rgn} (b : BufAt A K U H bo pd rd ps rs) (p : Pu U H U' H') : BufAt A K U' H' bo pd rd ps rs := by
  have n1 : H pd ≠ none := by rw [b.ep]; exact fun z => by cases z
  have n2 : H rd ≠ none := by rw [b.er]; exact fun z => by cases z
  exact b.frame p.vv ⟨p.out _ b.up n1, p.kp _ n1⟩ ⟨p.out _ b.ur n2, p.kp _ n2⟩
def sp_Buffers___init__ (A : Adr) (K : PySem.W.Frag) : Sp := fun vs H Q _ => ∃ (o dx : Addr), vs = [.ref o] ∧ H o = some (.ins A.CBuffers dx []) ∧ ∀ (pd rd : Addr) (H' : Hp), H pd = none → H rd = none → H' o = some (.ins A.CBuffers dx [("_pictures", .ref pd), ("_regions", .ref rd)]) → H' pd = some (.dK []) → H' rd = some (.dK []) → pd ≠ rd → (∀ b, b ≠ o → H b ≠ none → H' b = H b) → (∀ b, H' b = none → H b = none) → Q .non H'
theorem sc_Buffers___init__ : FnScope ["self"] ["self"] (defScope s_Buffers___init__) := ⟨rfl, rfl, rfl, by decide +kernel, rfl, by decide +kernel, by decide +kernel⟩
theorem ok_Buffers___init__ (T : Txt0 P K mg A) : FnOk P w K mg base CX0 1 A.fBuffers___init__ A.dBuffers___init__ ["self"] (sp_Buffers___init__ A K) := by
  refine T.FBuffers___init__.ok sc_Buffers___init__ (fun vs H Q E h => ?_) (fun cdv Ar outer st H vs Q E hr h => ?_)
  · obtain ⟨_, _, rfl, _⟩ := h
    rfl
  · obtain ⟨o, dx, rfl, ho, q⟩ := h
    replace q := Hid.mk q
    refine ⟨_, (pss_cons (ps_fldC T.clBuffers T.nBuffers__pictures (pv 0) pe_dnewK rfl)
      (pss_one (ps_fldC T.clBuffers T.nBuffers__regions (pv 0) pe_dnewK rfl))), ?_⟩
    intro pd hpd
    have e1 : (upd H pd (.dK [])) o = some (.ins A.CBuffers dx []) := by walk_at "h"
    walk_at "gf"
    intro H1 f1 k1
    intro rd hrd
    have e2 : (upd H1 rd (.dK [])) o = some (.ins A.CBuffers dx _) := (same_upd hrd) _ _ f1
    walk_at "gf"
    intro H2 f2 k2
    exact q.go pd rd H2 hpd (by walk_at "h") f2 (by walk_at "h") (by walk_at "h") (by walk_at "h") (by walk_at "h") (by walk_at "h")
/-! ### what is asked of the buffers -/
theorem Pu.unlock {U H V1 H1 : Hp} {d : Addr} {od : Obj} {kvs : List (Key × V)} (e : H d = some (.dK kvs)) (u : U d = none) (P : Pu U (upd H d (.frz od (.dK kvs))) V1 H1) : Pu U H V1 (upd H1 d (.dK kvs)) := by
  have vd : V1 d = none := P.out d u (by rw [upd_same]; exact fun z => by cases z)
  refine ⟨P.vv, fun b o e1 => ?_, fun b h n => ?_, fun b h => ?_, fun b h => ?_⟩
  · rw [upd_ne (fun z => by rw [z, vd] at e1; cases e1)]; exact P.vh b o e1
  · refine P.out b h ?_
    by_cases c : b = d
    · rw [c, upd_same]; exact fun z => by cases z
    · rw [upd_ne c]; exact n
  · by_cases c : b = d
    · rw [c, upd_same] at h; cases h
    · rw [upd_ne c] at h
      have := P.nn b h
      rwa [upd_ne c] at this
  · by_cases c : b = d
    · rw [c, upd_same, e]
    · rw [upd_ne c, P.kp b (by rw [upd_ne c]; exact h), upd_ne c]
def pxs (ps : List Pic) : Int := (ps.map fun p => p.wd * p.ht).sum
def sp_Buffers_pixel_count (A : Adr) (K : PySem.W.Frag) : Sp := fun vs H Q _ => ∃ (bo pd rd : Addr) (ps : List Pic) (rs : List Rgn) (U : Hp), vs = [.ref bo] ∧ Same U H ∧ BufAt A K U H bo pd rd ps rs ∧ ps.length ≤ 1000 ∧ ∀ U' H', Pu U H U' H' → Q (.int (pxs ps)) H'
theorem sc_Buffers_pixel_count : FnScope ["self", "picture"] ["self"] (defScope s_Buffers_pixel_count) := ⟨rfl, rfl, rfl, by decide +kernel, rfl, by decide +kernel, by decide +kernel⟩
theorem ok_Buffers_pixel_count (T : Txt0 P K mg A) : FnOk P w K mg base CX0 1 A.fBuffers_pixel_count A.dBuffers_pixel_count ["self"] (sp_Buffers_pixel_count A K) := by
  refine T.FBuffers_pixel_count.ok sc_Buffers_pixel_count (fun vs H Q E h => ?_) (fun cdv Ar outer st H vs Q E hr h => ?_)
  · obtain ⟨_, _, _, _, _, _, rfl, _⟩ := h
    rfl
  · obtain ⟨bo, pd, rd, ps, rs, U, rfl, sU, B, hn, q⟩ := h
    replace q := Hid.mk q
    obtain ⟨dx, eo⟩ := B.ob
    refine ⟨_, (pss_one (ps_ret (pe_callB (cr_sum rfl) (by rfl) T.sum (by decide +kernel) (pa_cons (pe_lock (pe_lc (own := [("picture", 1)]) (g := (gName 1)) (te := (tOp (rI CMul fun i j => .int (i * j)) (tFld K (tVar 1) "width") (tFld K (tVar 1) "height"))) (tt := tYes) rfl sc_Buffers_pixel_count.nd (pi_values (pe_fldC T.clBuffers T.nBuffers__pictures (pv 0) rfl)) (blkOk_by (own := [("picture", 1)]) (N := ["self", "picture"]) (sc := defScope s_Buffers_pixel_count) (by decide +kernel)) (fun _ _ _ _ _ => (pg_name (i := 1) sc_Buffers_pixel_count.nd rfl (Or.inl rfl))) (fun _ _ _ _ _ => pts_nil) (fun _ _ _ _ _ => by exact (pe_op op_mul (pe_fld (pv 1) rfl) (pe_fld (pv 1) rfl))))) pa_nil)))), ?_⟩
    refine ⟨pd, _, B.ep, trivial, fun od => ?_⟩
    have sF : Same U (upd H pd (.frz od (.dK (kvP ps)))) := fun b u e => by
      rw [upd_ne (fun z => by rw [z, B.up] at e; cases e)]; exact sU b u e
    have eoF := sF _ _ eo
    have edF : (upd H pd (.frz od (.dK (kvP ps)))) pd = some (.frz od (.dK (kvP ps))) := upd_same
    walk_at "gf"
    refine ⟨pd, od, kvP ps, rfl, edF, fun D hD => ?_⟩
    have hkl : (kvP ps).length = ps.length := by unfold kvP; rw [List.length_map]
    refine lc_dp (walk_values (d := pd) (o := od) (kvs := kvP ps)) (K := K) (V0 := U) (H0 := upd H pd (.frz od (.dK (kvP ps)))) (fun i => (ps[i]?).map fun p => PyData.int (p.wd * p.ht)) _ rfl sF hD (by omega) (fun H' s => s _ _ edF) (fun i x H H' y => y.1) ?_ ?_
    · rintro i v V1 H1 hi xx ⟨_, k, hv⟩ Qy Qn hy _
      unfold kvP at hv
      rw [List.getElem?_map] at hv
      obtain ⟨p, hp, hpv⟩ := Option.map_eq_some_iff.mp hv
      obtain ⟨_, rfl⟩ := Prod.mk.inj hpv
      obtain ⟨⟨hw, hh⟩, dx2, l, n, e2, _⟩ := B.pi p (List.mem_of_getElem? hp)
      have e3 := xx.vh _ _ (xx.vv _ _ e2)
      refine ⟨rfl, _, rfl, p.o, A.CPicture, dx2, _, .int p.wd, rfl, e3, T.clPicture, T.nPicture_width, by unfold picF; walk_at "lk", _, rfl, p.o, A.CPicture, dx2, _, .int p.ht, rfl, e3, T.clPicture, T.nPicture_height, by unfold picF; walk_at "lk", ?_⟩
      refine ⟨_, _, rfl, rfl, Or.inl ⟨by omega, by omega⟩, ?_⟩
      exact hy (.int (p.wd * p.ht)) _ _ _ (by rw [hp]; rfl) (Ext.refl xx.vh) (.int _)
    · rintro V1 H1 xs xx eD da dl
      rw [hkl, fm_map, show (ps.map fun p => PyData.int (p.wd * p.ht)) = (ps.map fun p => p.wd * p.ht).map PyData.int from by rw [List.map_map]; rfl] at da
      have exs := dp_intsV da
      subst exs
      refine ⟨xx.hh _ _ edF, ?_⟩
      have P1 := Pu.unlock B.ep B.up xx.pu
      have eD1 := P1.vh _ _ eD
      refine ⟨D, _, rfl, SqL.of eD1, ?_⟩
      exact q.go _ _ P1
def findP (ps : List Pic) (n : Int) : Option Pic := ps.find? fun p => decide (p.n = n)
def findR (rs : List Rgn) (n : Int) : Option Rgn := rs.find? fun r => decide (r.n = n)
theorem kvP_val (n : Int) : ∀ ps : List Pic, valV (kvP ps) (.inl n) = (findP ps n).map fun p => V.ref p.o
  | [] => rfl
  | p :: ps => by
    have e : kvP (p :: ps) = (.inl p.n, V.ref p.o) :: kvP ps := rfl
    unfold findP
    rw [e]
    by_cases c : p.n = n
    · rw [valV_pos (by show (Sum.inl _ : Key) = _; rw [c]), List.find?_cons_of_pos (by simp [c])]; rfl
    · rw [valV_neg (fun z => c (by injection z)), List.find?_cons_of_neg (by simp [c])]
      exact kvP_val n ps
theorem kvR_val (n : Int) : ∀ rs : List Rgn, valV (kvR rs) (.inl n) = (findR rs n).map fun r => r.v
  | [] => rfl
  | r :: rs => by
    have e : kvR (r :: rs) = (.inl r.n, r.v) :: kvR rs := rfl
    unfold findR
    rw [e]
    by_cases c : r.n = n
    · rw [valV_pos (by show (Sum.inl _ : Key) = _; rw [c]), List.find?_cons_of_pos (by simp [c])]; rfl
    · rw [valV_neg (fun z => c (by injection z)), List.find?_cons_of_neg (by simp [c])]
      exact kvR_val n rs
def sp_Buffers_picture_of (A : Adr) (K : PySem.W.Frag) : Sp := fun vs H Q _ => ∃ (bo pd rd : Addr) (ps : List Pic) (rs : List Rgn) (n : Int) (U : Hp), vs = [.ref bo, .int n] ∧ Same U H ∧ BufAt A K U H bo pd rd ps rs ∧ (findP ps n = none → Q .non H) ∧ (∀ p, findP ps n = some p → ∀ o U' H', Pu U H U' H' → Q (.ref o) H')
theorem sc_Buffers_picture_of : FnScope ["self", "number", "picture"] ["self", "number"] (defScope s_Buffers_picture_of) := ⟨rfl, rfl, rfl, by decide +kernel, rfl, by decide +kernel, by decide +kernel⟩
theorem ok_Buffers_picture_of (T : Txt0 P K mg A) : FnOk P w K mg base CX0 3 A.fBuffers_picture_of A.dBuffers_picture_of ["self", "number"] (sp_Buffers_picture_of A K) := by
  refine T.FBuffers_picture_of.ok sc_Buffers_picture_of (fun vs H Q E h => ?_) (fun cdv Ar outer st H vs Q E hr h => ?_)
  · obtain ⟨_, _, _, _, _, _, _, rfl, _⟩ := h
    rfl
  · obtain ⟨bo, pd, rd, ps, rs, n, U, rfl, sU, B, q1, q2⟩ := h
    replace q1 := Hid.mk q1
    replace q2 := Hid.mk q2
    obtain ⟨dx, eo⟩ := B.ob
    have eoH := sU _ _ eo
    have ep := B.ep
    refine ⟨_, (pss_cons (ps_set (i := 2) sc_Buffers_picture_of.nd rfl (Or.inl rfl) (pe_dget1 (hu_of hr) (pe_fldC T.clBuffers T.nBuffers__pictures (pv 0) rfl) (pv 1) ⟨rfl, rfl, rfl, rfl⟩))
      (pss_cons (ps_if (pt_cmpR op_isN (pv 2) pe_non (nomark _))
      (pss_one (ps_ret pe_non))
      pss_nil)
      (pss_one (ps_ret (pe_make T.MPicture (ok_Picture___init__ T) (hr.mono (by decide)) rfl T.gPicture T.bPicture___init__ .nil pass0 (pa_cons (pe_fldC T.clPicture T.nPicture_width (pv 2) rfl) (pa_cons (pe_fldC T.clPicture T.nPicture_height (pv 2) rfl) (pa_cons (pe_callTy call_list_of (by rfl) T.list (by decide +kernel) (pa_cons (pe_fldC T.clPicture T.nPicture_pixels (pv 2) rfl) pa_nil)) pa_nil)))))))), ?_⟩
    walk_at "gf"
    have dg : DGet H pd (kV (.inl n)) (valV (kvP ps) (.inl n)) := DGet.k ep
    rw [kvP_val] at dg
    cases hf : findP ps n with
    | none =>
      rw [hf] at dg
      refine ⟨.inl ⟨_, .inl ep⟩, _, rfl, _, dg, ?_⟩
      walk_at "gf"
      exact q1.go hf
    | some p =>
      rw [hf] at dg
      obtain ⟨_, dx2, l, m, e2, e3, hm⟩ := B.pi p (List.mem_of_find?_eq_some hf)
      have e2H := sU _ _ e2
      have e3H := sU _ _ e3
      unfold picF at e2H
      refine ⟨.inl ⟨_, .inl ep⟩, _, rfl, _, dg, ?_⟩
      walk_at "gf"
      intro lp hlp
      have s1 : Same U (upd H lp (.lst (List.replicate m (.int 0)))) := sU.trans (same_upd hlp)
      have P1 : Pu U H U (upd H lp (.lst (List.replicate m (.int 0)))) := Pu.skip sU hlp
      generalize upd H lp (.lst (List.replicate m (.int 0))) = H1 at P1 s1 ⊢
      walk_at "nl"
      intro o dxo ho hdxo nod
      refine ⟨o, dxo, lp, p.wd, p.ht, rfl, upd_same, fun H3 e3 k3 => ⟨rfl, ?_⟩⟩
      clear e2 e2H e3H
      have P3 : Pu U H1 U H3 := ⟨Same.refl _, by walk_at "h", fun _ h _ => h, by walk_at "h", by walk_at "h"⟩
      exact q2.go p hf o U H3 (P1.trans P3)
def sp_Buffers_region_of (A : Adr) (K : PySem.W.Frag) : Sp := fun vs H Q _ => ∃ (bo pd rd : Addr) (ps : List Pic) (rs : List Rgn) (n : Int) (U : Hp), vs = [.ref bo, .int n] ∧ Same U H ∧ BufAt A K U H bo pd rd ps rs ∧ (findR rs n = none → Q .non H) ∧ (∀ r, findR rs n = some r → ∀ l U' H', Pu U H U' H' → Dp K U' (.ref l) (regD r.R) → Q (.ref l) H')
theorem sc_Buffers_region_of : FnScope ["self", "number", "region"] ["self", "number"] (defScope s_Buffers_region_of) := ⟨rfl, rfl, rfl, by decide +kernel, rfl, by decide +kernel, by decide +kernel⟩
theorem ok_Buffers_region_of (T : Txt0 P K mg A) : FnOk P w K mg base CX0 1 A.fBuffers_region_of A.dBuffers_region_of ["self", "number"] (sp_Buffers_region_of A K) := by
  refine T.FBuffers_region_of.ok sc_Buffers_region_of (fun vs H Q E h => ?_) (fun cdv Ar outer st H vs Q E hr h => ?_)
  · obtain ⟨_, _, _, _, _, _, _, rfl, _⟩ := h
    rfl
  · obtain ⟨bo, pd, rd, ps, rs, n, U, rfl, sU, B, q1, q2⟩ := h
    replace q1 := Hid.mk q1
    replace q2 := Hid.mk q2
    obtain ⟨dx, eo⟩ := B.ob
    have eoH := sU _ _ eo
    have er := B.er
    refine ⟨_, (pss_cons (ps_set (i := 2) sc_Buffers_region_of.nd rfl (Or.inl rfl) (pe_dget1 (hu_of hr) (pe_fldC T.clBuffers T.nBuffers__regions (pv 0) rfl) (pv 1) ⟨rfl, rfl, rfl, rfl⟩))
      (pss_one (ps_ret (pe_ifExp (pt_cmpR op_isN (pv 2) pe_non (nomark _)) pe_non (pe_callTy call_list_of (by rfl) T.list (by decide +kernel) (pa_cons (pv 2) pa_nil)))))), ?_⟩
    walk_at "gf"
    have dg : DGet H rd (kV (.inl n)) (valV (kvR rs) (.inl n)) := DGet.k er
    rw [kvR_val] at dg
    cases hf : findR rs n with
    | none =>
      rw [hf] at dg
      refine ⟨.inl ⟨_, .inl er⟩, _, rfl, _, dg, ?_⟩
      walk_at "gf"
      exact q1.go hf
    | some r =>
      rw [hf] at dg
      obtain ⟨a, xs, ev, hx, hd⟩ := dp_list (B.ri r (List.mem_of_find?_eq_some hf))
      replace dg : DGet H rd (kV (.inl n)) (some (.ref a)) := by rw [← ev]; exact dg
      refine ⟨.inl ⟨_, .inl er⟩, _, rfl, _, dg, ?_⟩
      walk_at "gf"
      intro lp hlp
      have P1 := Pu.new (o := .lst xs) sU hlp
      exact q2.go r hf lp _ _ P1 (.lst (SqL.of upd_same) (hd.to P1.vv))
/-! ### what is made -/
theorem FaultTo.up {A : Adr} {H H1 : Hp} {E : XK} {n c : Int} {wd : Str} (h : FaultTo A H E n c wd) (k : ∀ b, H b ≠ none → H1 b = H b) (m : ∀ b, H1 b = none → H b = none) : FaultTo A H1 E n c wd := fun dd H' h1 h2 h3 h4 =>
  h dd H' (m dd h1) h2 (fun b hb => (h3 b (by rw [k b hb]; exact hb)).trans (k b hb)) (fun b hb hn => m b (h4 b hb hn))
theorem FaultTo.pu {A : Adr} {U H U' H1 : Hp} {E : XK} {n c : Int} {wd : Str} (h : FaultTo A H E n c wd) (p : Pu U H U' H1) : FaultTo A H1 E n c wd := h.up p.kp p.nn
theorem useR {R B C G : Prop} (h : (¬ C → R) → (C → B) → G) (r : ¬ C → R) (b : C → B) : G := h r b
/-- what a buffer is refused with -/
def mkF (ps : List Pic) (wd ht others : Int) : Option (Int × Str) :=
  if ¬ (1 ≤ wd ∧ wd ≤ 128) ∨ ¬ (1 ≤ ht ∧ ht ≤ 128) then some (1, "bad size") else if 32 ≤ ps.length ∨ 16384 < pxs ps + others + wd * ht then some (3, "too many pixels") else none
theorem BufAt.putP {A : Adr} {K : PySem.W.Frag} {U H : Hp} {bo pd rd : Addr} {ps : List Pic} {rs : List Rgn} (b : BufAt A K U H bo pd rd ps rs) (sU : Same U H) {p : Pic} (hp : ((1 ≤ p.wd ∧ p.wd ≤ 128) ∧ 1 ≤ p.ht ∧ p.ht ≤ 128) ∧ ∃ dx l n, U p.o = some (.ins A.CPicture dx (picF p.wd p.ht l)) ∧ U l = some (.lst (List.replicate n (.int 0))) ∧ n ≤ 20000) : BufAt A K U (upd H pd (.dK (kvP (ps ++ [p])))) bo pd rd (ps ++ [p]) rs ∧ Same U (upd H pd (.dK (kvP (ps ++ [p])))) := by
  refine ⟨⟨b.ob, upd_same, (upd_ne b.ne.symm).trans b.er, b.up, b.ur, b.ne, fun q hq => ?_, b.ri⟩, fun a u e => ?_⟩
  · rcases List.mem_append.mp hq with hq | hq
    · exact b.pi q hq
    · obtain rfl := List.mem_singleton.mp hq; exact hp
  · rw [upd_ne (fun z => by rw [z, b.up] at e; cases e)]; exact sU a u e
theorem BufAt.setR {A : Adr} {K : PySem.W.Frag} {U H : Hp} {bo pd rd : Addr} {ps : List Pic} {rs : List Rgn} (b : BufAt A K U H bo pd rd ps rs) (sU : Same U H) (rs' : List Rgn) (h : ∀ r ∈ rs', Dp K U r.v (regD r.R)) : BufAt A K U (upd H rd (.dK (kvR rs'))) bo pd rd ps rs' ∧ Same U (upd H rd (.dK (kvR rs'))) := by
  refine ⟨⟨b.ob, (upd_ne b.ne).trans b.ep, upd_same, b.up, b.ur, b.ne, b.pi, h⟩, fun a u e => ?_⟩
  rw [upd_ne (fun z => by rw [z, b.ur] at e; cases e)]; exact sU a u e
def sp_Buffers__make_buffer (A : Adr) (K : PySem.W.Frag) : Sp := fun vs H Q E => ∃ (bo r la pd rd : Addr) (ps : List Pic) (rs : List Rgn) (n0 n wd ht others : Int) (i m : Str) (U : Hp), vs = [.ref bo, .ref r, .int others] ∧ Same U H ∧ BufAt A K U H bo pd rd ps rs ∧ ps.length ≤ 1000 ∧ Rq A.CRequest H r n0 i m (.ref la) ∧ H la = some (.lst [.int n, .int wd, .int ht]) ∧ findP ps n = none ∧
  (∀ c wd', mkF ps wd ht others = some (c, wd') → FaultTo A H E n0 c wd') ∧ (mkF ps wd ht others = none → ∀ o U' H', Same U U' → Same U' H' → BufAt A K U' H' bo pd rd (ps ++ [⟨n, wd, ht, o⟩]) rs → Q .non H')
theorem sc_Buffers__make_buffer : FnScope ["self", "request", "other_pixels", "number", "width", "height", "pixels"] ["self", "request", "other_pixels"] (defScope s_Buffers__make_buffer) := ⟨rfl, rfl, rfl, by decide +kernel, rfl, by decide +kernel, by decide +kernel⟩
theorem ok_Buffers__make_buffer (T : Txt0 P K mg A) : FnOk P w K mg base (L2.CX P w) 4 A.fBuffers__make_buffer A.dBuffers__make_buffer ["self", "request", "other_pixels"] (sp_Buffers__make_buffer A K) := by
  refine T.FBuffers__make_buffer.okX sc_Buffers__make_buffer (fun vs H Q E h => ?_) (fun cdv Ar outer st H vs Q E hr h => ?_)
  · obtain ⟨_, _, _, _, _, _, _, _, _, _, _, _, _, _, _, rfl, _⟩ := h
    rfl
  · obtain ⟨bo, r, la, pd, rd, ps, rs, n0, n, wd, ht, others, i, m, U, rfl, sU, B, hn, ⟨dxr, er, erq⟩, ela, hf, q1, q2⟩ := h
    replace q1 := Hid.mk q1
    replace q2 := Hid.mk q2
    obtain ⟨dx, eo⟩ := B.ob
    have eoH := sU _ _ eo
    have ep := B.ep
    refine ⟨_, (pss_cons (ps_asg (pe_fldC T.clRequest T.nRequest_arguments (pv 1) rfl) (pg_unl rfl (pgs_cons (pg_name (i := 3) sc_Buffers__make_buffer.nd rfl (Or.inl rfl)) (pgs_cons (pg_name (i := 4) sc_Buffers__make_buffer.nd rfl (Or.inl rfl)) (pgs_cons (pg_name (i := 5) sc_Buffers__make_buffer.nd rfl (Or.inl rfl)) pgs_nil)))))
      (pss_cons (ps_if (PW.pt (pw_or (pt_not (pt_chain op_le op_le pe_int (pv 4) (pe_glob (v := .int (128)) rfl T.gLONGEST_SIDE ⟨_, rfl⟩))) (pw_or1 (pt_not (pt_chain op_le op_le pe_int (pv 5) (pe_glob (v := .int (128)) rfl T.gLONGEST_SIDE ⟨_, rfl⟩))))))
      (pss_one (ps_raise rfl (takes_of rfl rfl rfl rfl) (pmk_oex T.oFault T.MFault T.TFault (ok_Fault___init__ T) (hr.mono (by decide)) T.bFault___init__ .nil pass0 (by rfl) T.gFault (pa_cons (pe_fldC T.clRequest T.nRequest_number (pv 1) rfl) (pa_cons pe_int (pa_cons pe_str pa_nil))))))
      pss_nil)
      (pss_cons (ps_set (i := 6) sc_Buffers__make_buffer.nd rfl (Or.inl rfl) (pe_op op_add (pe_op op_add (pe_meth0 (pv 0) T.clBuffers T.mBuffers_pixel_count (ok_Buffers_pixel_count T) (hr.mono (by decide)) T.bBuffers_pixel_count .nil pass0) (pv 2)) (pe_op op_mul (pv 4) (pv 5))))
      (pss_cons (ps_if (PW.pt (pw_or (pt_cmpR op_ge (pe_callB call_lenD (by rfl) T.len PySem.boot_len (pa_cons (pe_fldC T.clBuffers T.nBuffers__pictures (pv 0) rfl) pa_nil)) (pe_glob (v := .int (32)) rfl T.gMOST_BUFFERS ⟨_, rfl⟩) (nomark _)) (pw_or1 (pt_cmpR op_gt (pv 6) (pe_glob (v := .int (16384)) rfl T.gMOST_PIXELS ⟨_, rfl⟩) (nomark _)))))
      (pss_one (ps_raise rfl (takes_of rfl rfl rfl rfl) (pmk_oex T.oFault T.MFault T.TFault (ok_Fault___init__ T) (hr.mono (by decide)) T.bFault___init__ .nil pass0 (by rfl) T.gFault (pa_cons (pe_fldC T.clRequest T.nRequest_number (pv 1) rfl) (pa_cons pe_int (pa_cons pe_str pa_nil))))))
      pss_nil)
      (pss_one (ps_dput (hu_of hr) (pe_fldC T.clBuffers T.nBuffers__pictures (pv 0) rfl) (pv 3) (pe_call (ok_clear_picture T) (hr.mono (by decide)) rfl T.gclear_picture T.kclear_picture T.bclear_picture .nil pass0 (pa_cons (pv 4) (pa_cons (pv 5) pa_nil))) rfl)))))), ?_⟩
    walk_at "gf"
    apply useR (C := ¬ (1 ≤ wd ∧ wd ≤ 128) ∨ ¬ (1 ≤ ht ∧ ht ≤ 128))
    · intro rr bb
      refine iteP (fun c1 => ?_) (fun c1 => ?_)
      · walk_at "gf"
        refine if_b (fun h2 => ?_) (fun h2 => ?_)
        · exact bb (.inl (fun z => by have := z.2; rw [decide_eq_true this] at h2; cases h2))
        · have h2' : wd ≤ 128 := by simpa using h2
          walk_at "gf"
          refine iteP (fun c3 => ?_) (fun c3 => ?_)
          · walk_at "gf"
            refine if_b (fun h4 => ?_) (fun h4 => ?_)
            · exact bb (.inr (fun z => by have := z.2; rw [decide_eq_true this] at h4; cases h4))
            · exact rr (fun z => z.elim (fun y => y ⟨c1, h2'⟩) (fun y => y ⟨c3, by simpa using h4⟩))
          · exact ⟨_, rfl, if_t rfl (bb (.inr fun z => c3 z.1))⟩
      · exact ⟨_, rfl, if_t rfl (bb (.inl fun z => c1 z.1))⟩
    · intro hc
      have hb : (1 ≤ wd ∧ wd ≤ 128) ∧ 1 ≤ ht ∧ ht ≤ 128 := by omega
      walk_at "gf"
      walk_at "go"
      refine ⟨bo, pd, rd, ps, rs, U, rfl, sU, B, hn, fun U1 H1 P1 => ?_⟩
      have B1 := B.pu P1
      have s1 := P1.vh
      have eo1 := s1 _ _ (P1.vv _ _ eo)
      have ep1 := B1.ep
      have er1 := (P1.kp r (by rw [erq]; exact fun z => by cases z)).trans erq
      walk_at "gf"
      refine ⟨pd, _, rfl, ep1, ?_⟩
      have hkl : (kvP ps).length = ps.length := by unfold kvP; rw [List.length_map]
      rw [hkl]
      walk_at "gf"
      apply useR (C := 32 ≤ ps.length ∨ 16384 < pxs ps + others + wd * ht)
      · intro rr bb
        refine iteP (fun c => bb (.inl (by omega))) (fun c => ?_)
        walk_at "gf"
        exact iteP (fun c2 => bb (.inr c2)) (fun c2 => rr (fun z => z.elim (fun y => c (by omega)) c2))
      · intro hc2
        walk_at "gf"
        walk_at "go"
        refine ⟨wd, ht, U1, rfl, hb.1, hb.2, s1, fun o l dxp k U2 H2 P2 eo2 el hk => ?_⟩
        have B2 := B1.pu P2
        have eob2 := P2.vh _ _ (P2.vv _ _ (P1.vv _ _ eo))
        have s2 := P2.vh
        have v2 := P1.vv.trans P2.vv
        clear P1 P2 B1 s1 ep1 eo1 er1
        walk_at "gf"
        refine ⟨pd, _, rfl, DPut.k (k := .inl n) B2.ep (Nat.lt_of_lt_of_le (m := 100000) (by rw [hkl]; omega) (by decide)), ?_⟩
        rw [putK_new _ (by rw [kvP_val, hf]; rfl), show kvP ps ++ [(.inl n, .ref o)] = kvP (ps ++ [⟨n, wd, ht, o⟩]) from by unfold kvP; rw [List.map_append]; rfl]
        have r := B2.putP s2 (p := ⟨n, wd, ht, o⟩) ⟨hb, dxp, l, k, eo2, el, hk⟩
        exact q2.go (by unfold mkF; rw [if_neg hc, if_neg hc2]) o U2 _ v2 r.2 r.1
      · intro hc2
        walk_at "gf"
        walk_at "go"
        exact ⟨by show 3 ≤ 1000; decide, fault_go ((q1.go 3 "too many pixels" (by unfold mkF; rw [if_neg hc, if_pos hc2])).pu P1)⟩
    · intro hc
      walk_at "gf"
      walk_at "go"
      exact ⟨by show 3 ≤ 1000; decide, fault_go (q1.go 1 "bad size" (by unfold mkF; rw [if_pos hc]))⟩
def sp_Buffers__make_region (A : Adr) (K : PySem.W.Frag) : Sp := fun vs H Q E => ∃ (bo r la pd rd : Addr) (ps : List Pic) (rs : List Rgn) (n0 n : Int) (i m : Str) (U : Hp), vs = [.ref bo, .ref r] ∧ Same U H ∧ BufAt A K U H bo pd rd ps rs ∧ rs.length ≤ 1000 ∧ Rq A.CRequest H r n0 i m (.ref la) ∧ H la = some (.lst [.int n]) ∧ findR rs n = none ∧
  (32 ≤ rs.length → FaultTo A H E n0 6 "too many regions") ∧ (rs.length < 32 → ∀ v U' H', Same U U' → Same U' H' → BufAt A K U' H' bo pd rd ps (rs ++ [⟨n, [], v⟩]) → Q .non H')
theorem sc_Buffers__make_region : FnScope ["self", "request"] ["self", "request"] (defScope s_Buffers__make_region) := ⟨rfl, rfl, rfl, by decide +kernel, rfl, by decide +kernel, by decide +kernel⟩
theorem ok_Buffers__make_region (T : Txt0 P K mg A) : FnOk P w K mg base (L2.CX P w) 3 A.fBuffers__make_region A.dBuffers__make_region ["self", "request"] (sp_Buffers__make_region A K) := by
  refine T.FBuffers__make_region.okX sc_Buffers__make_region (fun vs H Q E h => ?_) (fun cdv Ar outer st H vs Q E hr h => ?_)
  · obtain ⟨_, _, _, _, _, _, _, _, _, _, _, _, rfl, _⟩ := h
    rfl
  · obtain ⟨bo, r, la, pd, rd, ps, rs, n0, n, i, m, U, rfl, sU, B, hn, ⟨dxr, er, erq⟩, ela, hf, q1, q2⟩ := h
    replace q1 := Hid.mk q1
    replace q2 := Hid.mk q2
    obtain ⟨dx, eo⟩ := B.ob
    have eoH := sU _ _ eo
    have erd := B.er
    have hkl : (kvR rs).length = rs.length := by unfold kvR; rw [List.length_map]
    refine ⟨_, (pss_cons (ps_if (pt_cmpR op_ge (pe_callB call_lenD (by rfl) T.len PySem.boot_len (pa_cons (pe_fldC T.clBuffers T.nBuffers__regions (pv 0) rfl) pa_nil)) (pe_glob (v := .int (32)) rfl T.gMOST_REGIONS ⟨_, rfl⟩) (nomark _))
      (pss_one (ps_raise rfl (takes_of rfl rfl rfl rfl) (pmk_oex T.oFault T.MFault T.TFault (ok_Fault___init__ T) (hr.mono (by decide)) T.bFault___init__ .nil pass0 (by rfl) T.gFault (pa_cons (pe_fldC T.clRequest T.nRequest_number (pv 1) rfl) (pa_cons pe_int (pa_cons pe_str pa_nil))))))
      pss_nil)
      (pss_one (ps_dput (hu_of hr) (pe_fldC T.clBuffers T.nBuffers__regions (pv 0) rfl) (pe_ix (r := rIxL K) ix_list (pe_fldC T.clRequest T.nRequest_arguments (pv 1) rfl) pe_int (fun _ _ => rfl)) (pe_lst pa_nil) rfl))), ?_⟩
    walk_at "gf"
    refine ⟨rd, _, rfl, erd, ?_⟩
    rw [hkl]
    walk_at "gf"
    refine iteP (fun c => ?_) (fun c => ?_)
    · walk_at "gf"
      walk_at "go"
      exact ⟨by show 3 ≤ 1000; decide, fault_go (q1.go (by omega))⟩
    · walk_at "gf"
      rename_i p1 hp1
      have P1 := Pu.new (o := .lst []) sU hp1
      have B1 := B.pu P1
      have e1 : (upd U p1 (.lst [])) p1 = some (.lst []) := upd_same
      generalize upd U p1 (.lst []) = U1 at P1 B1 e1
      generalize upd H p1 (.lst []) = H1 at P1 B1 ⊢
      have eo1 := P1.vh _ _ (P1.vv _ _ eo)
      have er1 := (P1.kp r (by rw [erq]; exact fun z => by cases z)).trans erq
      have ela1 := (P1.kp la (by rw [ela]; exact fun z => by cases z)).trans ela
      have s1 := P1.vh
      have v1 := P1.vv
      clear P1
      walk_at "gf"
      refine ⟨rd, _, rfl, DPut.k (k := .inl n) B1.er (Nat.lt_of_lt_of_le (m := 100000) (by rw [hkl]; omega) (by decide)), ?_⟩
      rw [putK_new _ (by rw [kvR_val, hf]; rfl), show kvR rs ++ [(.inl n, .ref p1)] = kvR (rs ++ [⟨n, [], .ref p1⟩]) from by unfold kvR; rw [List.map_append]; rfl]
      have r := B1.setR s1 (rs ++ [⟨n, [], .ref p1⟩]) (fun q hq => by
        rcases List.mem_append.mp hq with hq | hq
        · exact B1.ri q hq
        · obtain rfl := List.mem_singleton.mp hq
          exact Dp.lst (SqL.of e1) .nil)
      exact q2.go (by omega) _ U1 _ v1 r.2 r.1
/-! ### the one form -/
structure Can (R : List Band) : Prop where
  box : Box R
  sp : ∀ b ∈ R, Ch spC b.2.2
  bd : Ch bdC R
  ne : ∀ b ∈ R, b.2.2 ≠ []
theorem Can.nil : Can [] := ⟨Box.nil, fun b hb => (by cases hb), fun i p q hp => (by cases hp), fun b hb => (by cases hb)⟩
theorem Can.cmb {A B : List Band} (op : Bool → Bool → Bool) (ha : Box A) (hb : Box B) : Can (cmbR op A B) := by
  refine ⟨ha.cmb op hb, fun z hz => ?_, cmbR_chain op A B, fun z hz => ?_⟩
  · obtain ⟨_, p, e⟩ := (cmbR_rows op A B).2 z hz
    rw [e]; exact cmbS_chain _ _ _
  · obtain ⟨q, hq, e⟩ := merge_pay bdC bdJ (fun b : Band => b.2.2) (fun _ _ => rfl) _ _ rfl z hz
    have hn := (List.mem_filter.mp hq).2
    have e' : z.2.2 = q.2.2 := e
    rw [e']
    intro h0
    rw [h0] at hn
    exact absurd hn (by decide)
theorem Can.u {R : List Band} (h : Can R) : CanU R := ⟨h.box.rows, fun b hb => ⟨(h.box.sps b hb).pos, gap (h.box.sps b hb) (h.sp b hb)⟩, h.bd, h.ne⟩
/-! ### regions whose edges lie in two lists, in the one form -/
structure RegIn (X Y : List Int) (R : List Band) : Prop where
  u : CanU R
  ys : ∀ b ∈ R, b.1 ∈ Y ∧ b.2.1 ∈ Y
  xs : ∀ b ∈ R, ∀ s ∈ b.2.2, s.1 ∈ X ∧ s.2 ∈ X
theorem rows_len {r : Type} {lo hi : r → Int} {l : List r} {Y : List Int} (R : Rows lo hi l) (h : ∀ q ∈ l, lo q ∈ Y) : l.length ≤ Y.length := by
  have hn : (l.map lo).Nodup := List.pairwise_map.mpr ((List.Pairwise.and_mem.mp R.ord).imp fun {p q} z => by
    have := R.pos p z.1
    intro e
    have := z.2.2
    omega)
  have := nodup_few (l.map lo) Y hn fun k hk => by
    obtain ⟨q, hq, rfl⟩ := List.mem_map.mp hk
    exact h q hq
  rwa [List.length_map] at this
theorem gap_pw : ∀ {l : List Span}, (∀ s ∈ l, s.1 < s.2) → l.Pairwise (fun s t => s.2 < t.1) → (l.flatMap fun s => [s.1, s.2]).Pairwise (· < ·)
  | [], _, _ => List.Pairwise.nil
  | s :: l, hp, hg => by
    obtain ⟨h1, h2⟩ := List.pairwise_cons.mp hg
    have ih := gap_pw (fun t ht => hp t (List.mem_cons_of_mem _ ht)) h2
    have hs := hp s List.mem_cons_self
    have low : ∀ z ∈ l.flatMap fun s => [s.1, s.2], s.2 < z := fun z hz => by
      obtain ⟨t, ht, hzt⟩ := List.mem_flatMap.mp hz
      have a := h1 t ht
      have b := hp t (List.mem_cons_of_mem _ ht)
      simp only [List.mem_cons, List.not_mem_nil, or_false] at hzt
      rcases hzt with rfl | rfl <;> omega
    rw [List.flatMap_cons]
    show (s.1 :: s.2 :: l.flatMap fun s => [s.1, s.2]).Pairwise (· < ·)
    refine List.pairwise_cons.mpr ⟨fun z hz => ?_, List.pairwise_cons.mpr ⟨low, ih⟩⟩
    rcases List.mem_cons.mp hz with rfl | hz
    · exact hs
    · have := low z hz; omega
theorem flat_two (l : List Span) : (l.flatMap fun s => [s.1, s.2]).length = 2 * l.length := by
  induction l with
  | nil => rfl
  | cons s t ih => rw [List.flatMap_cons, List.length_append, ih]; show 2 + 2 * t.length = 2 * (t.length + 1); omega
/-- a row's spans are no more than half of its edges -/
theorem half_len {l : List Span} {X : List Int} (hp : ∀ s ∈ l, s.1 < s.2) (hg : l.Pairwise fun s t => s.2 < t.1) (hX : ∀ s ∈ l, s.1 ∈ X ∧ s.2 ∈ X) : 2 * l.length ≤ X.length := by
  rw [← flat_two l]
  refine nodup_few _ X ((gap_pw hp hg).imp fun h => Int.ne_of_lt h) fun k hk => ?_
  obtain ⟨t, ht, hk⟩ := List.mem_flatMap.mp hk
  simp only [List.mem_cons, List.not_mem_nil, or_false] at hk
  rcases hk with rfl | rfl
  · exact (hX t ht).1
  · exact (hX t ht).2
theorem RegIn.ok {X Y : List Int} {R : List Band} (h : RegIn X Y R) (hx : X.length < 400) (hy : Y.length < 64) : RegOk R := by
  refine ⟨h.u.rows, fun b hb => (h.u.gap b hb).rows, ?_, fun b hb => ?_, fun b hb => (h.u.gap b hb).gap⟩
  · have := rows_len h.u.rows fun q hq => (h.ys q hq).1
    omega
  · have := half_len (h.u.gap b hb).rows.pos (h.u.gap b hb).gap (h.xs b hb)
    omega
theorem RegIn.edge {X Y : List Int} {A B : List Band} (ha : RegIn X Y A) (hb : RegIn X Y B) : (∀ k ∈ edgeL bLo bHi A B, k ∈ Y) ∧ ∀ p, ∀ k ∈ edgeL Prod.fst Prod.snd (spansOf (rowAt bLo bHi A p)) (spansOf (rowAt bLo bHi B p)), k ∈ X := by
  have sp : ∀ {R : List Band}, RegIn X Y R → ∀ p, ∀ s ∈ spansOf (rowAt bLo bHi R p), s.1 ∈ X ∧ s.2 ∈ X := fun {R} hR p s hs => by
    cases e : rowAt bLo bHi R p with
    | none => rw [e] at hs; cases hs
    | some b =>
      rw [e] at hs
      exact hR.xs b (List.mem_of_find?_eq_some e) s hs
  refine ⟨fun k hk => ?_, fun p k hk => ?_⟩
  · unfold edgeL at hk
    simp only [List.mem_append, List.mem_map] at hk
    rcases hk with ((⟨b, h, rfl⟩ | ⟨b, h, rfl⟩) | ⟨b, h, rfl⟩) | ⟨b, h, rfl⟩
    · exact (ha.ys b h).1
    · exact (ha.ys b h).2
    · exact (hb.ys b h).1
    · exact (hb.ys b h).2
  · unfold edgeL at hk
    simp only [List.mem_append, List.mem_map] at hk
    rcases hk with ((⟨b, h, rfl⟩ | ⟨b, h, rfl⟩) | ⟨b, h, rfl⟩) | ⟨b, h, rfl⟩
    · exact (sp ha p b h).1
    · exact (sp ha p b h).2
    · exact (sp hb p b h).1
    · exact (sp hb p b h).2
theorem RegIn.pair {X Y : List Int} {A B : List Band} (ha : RegIn X Y A) (hb : RegIn X Y B) (hx : X.length < 400) (hy : Y.length < 64) : Pair A B :=
  ⟨⟨Y, (ha.edge hb).1, Nat.lt_trans hy (by decide)⟩, fun p => ⟨X, (ha.edge hb).2 p, hx⟩⟩
theorem RegIn.cmb {X Y : List Int} {A B : List Band} (op : Bool → Bool → Bool) (ha : RegIn X Y A) (hb : RegIn X Y B) : RegIn X Y (cmbR op A B) := by
  refine ⟨cmbR_u op A B, fun z hz => ?_, fun z hz s hs => ?_⟩
  · obtain ⟨⟨e1, e2⟩, _⟩ := (cmbR_rows op A B).2 z hz
    exact ⟨(ha.edge hb).1 _ e1, (ha.edge hb).1 _ e2⟩
  · obtain ⟨_, p, e⟩ := (cmbR_rows op A B).2 z hz
    rw [e] at hs
    obtain ⟨m1, m2⟩ := (cmbS_rows op _ _).2 s hs
    exact ⟨(ha.edge hb).2 p _ m1, (ha.edge hb).2 p _ m2⟩
theorem RegIn.nil (X Y : List Int) : RegIn X Y [] := ⟨⟨⟨fun q hq => (by cases hq), List.Pairwise.nil⟩, fun b hb => (by cases hb), fun i p q hp => (by cases hp), fun b hb => (by cases hb)⟩, fun b hb => (by cases hb), fun b hb => (by cases hb)⟩
theorem RegIn.mono {X Y X' Y' : List Int} {R : List Band} (h : RegIn X Y R) (hx : ∀ k ∈ X, k ∈ X') (hy : ∀ k ∈ Y, k ∈ Y') : RegIn X' Y' R :=
  ⟨h.u, fun b hb => ⟨hy _ (h.ys b hb).1, hy _ (h.ys b hb).2⟩, fun b hb s hs => ⟨hx _ (h.xs b hb s hs).1, hx _ (h.xs b hb s hs).2⟩⟩
theorem Can.reg {R : List Band} (h : Can R) : RegIn sides sides R := by
  refine ⟨h.u, fun b hb => ?_, fun b hb s hs => ?_⟩
  · have h1 := h.box.bs b hb
    have h2 : b.1 < b.2.1 := h.box.rows.pos b hb
    exact ⟨in_sides (by omega), in_sides (by omega)⟩
  · have h1 := (h.box.bs b hb).2.2 s hs
    have h2 : s.1 < s.2 := (h.box.sps b hb).pos s hs
    exact ⟨in_sides (by omega), in_sides (by omega)⟩
/-! ### a rectangle's edges -/
theorem rect_in {x y wd ht : Int} {X Y : List Int} (hx : x ∈ X ∧ x + wd ∈ X) (hy : y ∈ Y ∧ y + ht ∈ Y) : RegIn X Y (rectReg x y wd ht) := by
  unfold rectReg
  split
  · exact RegIn.nil X Y
  · rename_i h
    have h1 : 0 < wd := by omega
    have h2 : 0 < ht := by omega
    refine ⟨⟨⟨fun q hq => ?_, List.pairwise_singleton _ _⟩, fun b hb => ?_, fun i p q hp hq => ?_, fun b hb => ?_⟩, fun b hb => ?_, fun b hb s hs => ?_⟩
    · obtain rfl := List.mem_singleton.mp hq
      show y < y + ht; omega
    · obtain rfl := List.mem_singleton.mp hb
      exact ⟨fun s hs => by obtain rfl := List.mem_singleton.mp hs; show x < x + wd; omega, List.pairwise_singleton _ _⟩
    · cases i with
      | zero => cases hq
      | succ i => cases hp
    · obtain rfl := List.mem_singleton.mp hb
      exact fun z => by cases z
    · obtain rfl := List.mem_singleton.mp hb
      exact hy
    · obtain rfl := List.mem_singleton.mp hb
      obtain rfl := List.mem_singleton.mp hs
      exact hx
/-! ### a region that changes -/
def near1 (z : Int) : Prop := -4096 ≤ z ∧ z ≤ 4096
def nearR (x y wd ht : Int) : Prop := near1 x ∧ near1 y ∧ wd ≤ 8192 ∧ ht ≤ 8192
instance (x y wd ht : Int) : Decidable (nearR x y wd ht) := by unfold nearR near1; infer_instance
def sp__is_near : Sp := fun vs H Q _ => ∃ z : Int, (vs = [.int z] ∧ True) ∧ ∀ b : Bool, (b = true ↔ near1 z) → Q (.bl b) H
theorem sc__is_near : FnScope ["place"] ["place"] (defScope s__is_near) := ⟨rfl, rfl, rfl, by decide +kernel, rfl, by decide +kernel, by decide +kernel⟩
theorem ok__is_near (T : Txt0 P K mg A) : FnOk P w K mg base CX0 1 A.f_is_near A.d_is_near ["place"] sp__is_near := by
  refine T.F_is_near.ok sc__is_near (fun vs H Q E h => ?_) (fun cdv Ar outer st H vs Q E hr h => ?_)
  · obtain ⟨_, ⟨rfl, _⟩, _⟩ := h
    rfl
  · obtain ⟨z, ⟨rfl, _⟩, q⟩ := h
    replace q := Hid.mk q
    refine ⟨_, (pss_one (ps_ret (pe_chain op_le op_le (pe_un un_neg (pe_glob (v := .int (4096)) rfl T.gFARTHEST_PLACE ⟨_, rfl⟩)) (pv 0) (pe_glob (v := .int (4096)) rfl T.gFARTHEST_PLACE ⟨_, rfl⟩)))), ?_⟩
    walk_at "gf"
    refine iteP (fun c => ?_) (fun c => ?_)
    · walk_at "gf"
      exact q.go _ (by rw [decide_eq_true_eq]; exact ⟨fun h => ⟨c, h⟩, fun h => h.2⟩)
    · exact q.go _ ⟨fun h => (by cases h), fun h => absurd h.1 c⟩
def chgR (m : Str) (R : List Band) (x y wd ht : Int) : List Band := if m = Str.ofString "add" then cmbR or R (rectReg x y wd ht) else cmbR (fun a b => a && !b) R (rectReg x y wd ht)
theorem rects_few {R : List Band} (oR : RegOk R) : (R.flatMap rectsOf).length < 90000 := by
  have h : ∀ l : List Band, (∀ b ∈ l, b.2.2.length < 200) → (l.flatMap rectsOf).length ≤ 200 * l.length := fun l => by
    induction l with
    | nil => intro _; exact Nat.le_refl _
    | cons b l ih =>
      intro hl
      have i1 := ih fun q hq => hl q (List.mem_cons_of_mem _ hq)
      have i2 := hl b List.mem_cons_self
      have i3 : (rectsOf b).length = b.2.2.length := by unfold rectsOf; rw [List.length_map]
      rw [List.flatMap_cons, List.length_append, List.length_cons, i3]
      omega
  have := h R oR.fews
  have := oR.few
  omega
theorem dget_of {H : Hp} {a : Addr} {kvs : List (Key × V)} {k : Key} {v : V} (e : H a = some (.dK kvs)) (h : valV kvs k = some v) : DGet H a (kV k) (some v) := by rw [← h]; exact DGet.k e
theorem iteStr {s t : Str} {A B : Prop} (h1 : s = t → A) (h2 : s ≠ t → B) : if decide (V.str s = V.str t) = true then A else B := by
  by_cases h : s = t
  · rw [if_pos (by simp [h])]; exact h1 h
  · rw [if_neg (by simp [h])]; exact h2 h
def EdgeOk (x y wd ht : Int) (R : List Band) : Prop := ∃ X Y : List Int, RegIn X Y R ∧ (X.length < 400 ∧ Y.length < 64) ∧ (x ∈ X ∧ x + wd ∈ X) ∧ y ∈ Y ∧ y + ht ∈ Y
def ChgQ (A : Adr) (K : PySem.W.Frag) (U H : Hp) (Q : VK) (E : XK) (n0 : Int) (m : Str) (R : List Band) (x y wd ht : Int) : Prop :=
  (¬ nearR x y wd ht → FaultTo A H E n0 8 "bad place") ∧ (nearR x y wd ht → 32 < ((chgR m R x y wd ht).flatMap rectsOf).length → FaultTo A H E n0 7 "region too complex") ∧
  (nearR x y wd ht → ((chgR m R x y wd ht).flatMap rectsOf).length ≤ 32 → ∀ v U' H', Pu U H U' H' → Dp K U' v (regD (chgR m R x y wd ht)) → Q v H')
def sp_Buffers__changed_region (A : Adr) (K : PySem.W.Frag) : Sp := fun vs H Q E => ∃ (bo r la pd rd : Addr) (ps : List Pic) (rs : List Rgn) (n0 x y wd ht : Int) (i m : Str) (g : Rgn) (U : Hp), vs = [.ref bo, .ref r] ∧ Same U H ∧ BufAt A K U H bo pd rd ps rs ∧ Rq A.CRequest H r n0 i m (.ref la) ∧ H la = some (.lst [.int x, .int y, .int wd, .int ht]) ∧ findR rs n0 = some g ∧
  (nearR x y wd ht → EdgeOk x y wd ht g.R) ∧ ChgQ A K U H Q E n0 m g.R x y wd ht
theorem sc_Buffers__changed_region : FnScope ["self", "request", "x", "y", "width", "height", "rectangle", "before", "after"] ["self", "request"] (defScope s_Buffers__changed_region) := ⟨rfl, rfl, rfl, by decide +kernel, rfl, by decide +kernel, by decide +kernel⟩
theorem ok_Buffers__changed_region (T : Txt0 P K mg A) : FnOk P w K mg base (L2.CX P w) 6 A.fBuffers__changed_region A.dBuffers__changed_region ["self", "request"] (sp_Buffers__changed_region A K) := by
  refine T.FBuffers__changed_region.okX sc_Buffers__changed_region (fun vs H Q E h => ?_) (fun cdv Ar outer st H vs Q E hr h => ?_)
  · obtain ⟨_, _, _, _, _, _, _, _, _, _, _, _, _, _, _, _, rfl, _⟩ := h
    rfl
  · obtain ⟨bo, r, la, pd, rd, ps, rs, n0, x, y, wd, ht, i, m, g, U, rfl, sU, B, ⟨dxr, er, erq⟩, ela, hf, he, q1, q2, q3⟩ := h
    replace q1 := Hid.mk q1
    replace q2 := Hid.mk q2
    replace q3 := Hid.mk q3
    obtain ⟨dx, eo⟩ := B.ob
    have eoH := sU _ _ eo
    have erd := B.er
    refine ⟨_, (pss_cons (ps_asg (pe_fldC T.clRequest T.nRequest_arguments (pv 1) rfl) (pg_unl rfl (pgs_cons (pg_name (i := 2) sc_Buffers__changed_region.nd rfl (Or.inl rfl)) (pgs_cons (pg_name (i := 3) sc_Buffers__changed_region.nd rfl (Or.inl rfl)) (pgs_cons (pg_name (i := 4) sc_Buffers__changed_region.nd rfl (Or.inl rfl)) (pgs_cons (pg_name (i := 5) sc_Buffers__changed_region.nd rfl (Or.inl rfl)) pgs_nil))))))
      (pss_cons (ps_if (PW.pt (pw_or (pt_not (pt_val (pe_call (ok__is_near T) (hr.mono (by decide)) rfl T.g_is_near T.k_is_near T.b_is_near .nil pass0 (pa_cons (pv 2) pa_nil)))) (pw_or (pt_not (pt_val (pe_call (ok__is_near T) (hr.mono (by decide)) rfl T.g_is_near T.k_is_near T.b_is_near .nil pass0 (pa_cons (pv 3) pa_nil)))) (pw_or (pt_cmpR op_gt (pv 4) (pe_glob (v := .int (8192)) rfl T.gLONGEST_STRETCH ⟨_, rfl⟩) (nomark _)) (pw_or1 (pt_cmpR op_gt (pv 5) (pe_glob (v := .int (8192)) rfl T.gLONGEST_STRETCH ⟨_, rfl⟩) (nomark _)))))))
      (pss_one (ps_raise rfl (takes_of rfl rfl rfl rfl) (pmk_oex T.oFault T.MFault T.TFault (ok_Fault___init__ T) (hr.mono (by decide)) T.bFault___init__ .nil pass0 (by rfl) T.gFault (pa_cons (pe_fldC T.clRequest T.nRequest_number (pv 1) rfl) (pa_cons pe_int (pa_cons pe_str pa_nil))))))
      pss_nil)
      (pss_cons (ps_set (i := 6) sc_Buffers__changed_region.nd rfl (Or.inl rfl) (pe_call (ok_rectangle_region T) (hr.mono (by decide)) rfl T.grectangle_region T.krectangle_region T.brectangle_region .nil pass0 (pa_cons (pv 2) (pa_cons (pv 3) (pa_cons (pv 4) (pa_cons (pv 5) pa_nil))))))
      (pss_cons (ps_set (i := 7) sc_Buffers__changed_region.nd rfl (Or.inl rfl) (pe_dget (hu_of hr) (pe_fldC T.clBuffers T.nBuffers__regions (pv 0) rfl) (pe_fldC T.clRequest T.nRequest_number (pv 1) rfl) (fun _ _ => rfl)))
      (pss_cons (ps_set (i := 8) sc_Buffers__changed_region.nd rfl (Or.inl rfl) (pe_ifExp (pt_cmpR op_eq (pe_fldC T.clRequest T.nRequest_name (pv 1) rfl) pe_str (nomark _)) (pe_call (ok_united T) (hr.mono (by decide)) rfl T.gunited T.kunited T.bunited .nil pass0 (pa_cons (pv 7) (pa_cons (pv 6) pa_nil))) (pe_call (ok_without T) (hr.mono (by decide)) rfl T.gwithout T.kwithout T.bwithout .nil pass0 (pa_cons (pv 7) (pa_cons (pv 6) pa_nil)))))
      (pss_cons (ps_if (pt_cmpR op_gt (pe_callB call_len_seq (by rfl) T.len PySem.boot_len (pa_cons (pe_call (ok_rectangles T) (hr.mono (by decide)) rfl T.grectangles T.krectangles T.brectangles .nil pass0 (pa_cons (pv 8) pa_nil)) pa_nil)) (pe_glob (v := .int (32)) rfl T.gMOST_RECTANGLES ⟨_, rfl⟩) (nomark _))
      (pss_one (ps_raise rfl (takes_of rfl rfl rfl rfl) (pmk_oex T.oFault T.MFault T.TFault (ok_Fault___init__ T) (hr.mono (by decide)) T.bFault___init__ .nil pass0 (by rfl) T.gFault (pa_cons (pe_fldC T.clRequest T.nRequest_number (pv 1) rfl) (pa_cons pe_int (pa_cons pe_str pa_nil))))))
      pss_nil)
      (pss_one (ps_ret (pv 8))))))))), ?_⟩
    walk_at "gf"
    apply useR (C := ¬ nearR x y wd ht)
    · intro rr bb
      walk_at "go"
      refine ⟨x, ⟨rfl, trivial⟩, fun bx hx => ⟨bx, rfl, ?_⟩⟩
      cases bx with
      | false => exact if_t rfl (bb fun z => by have := hx.mpr z.1; cases this)
      | true =>
        refine if_f rfl ?_
        walk_at "gf"
        walk_at "go"
        refine ⟨y, ⟨rfl, trivial⟩, fun by_ hy => ⟨by_, rfl, ?_⟩⟩
        cases by_ with
        | false => exact if_t rfl (bb fun z => by have := hy.mpr z.2.1; cases this)
        | true =>
          refine if_f rfl ?_
          walk_at "gf"
          refine iteP (fun c => bb fun z => by have := z.2.2.1; omega) (fun c => ?_)
          walk_at "gf"
          exact iteP (fun c2 => bb fun z => by have := z.2.2.2; omega) (fun c2 => rr fun z => z ⟨hx.mp rfl, hy.mp rfl, by omega, by omega⟩)
    · intro hn
      have hn' : nearR x y wd ht := Decidable.not_not.mp hn
      walk_at "gf"
      walk_at "go"
      refine ⟨x, y, wd, ht, U, rfl, sU, fun v1 U1 H1 x1 d1 => ?_⟩
      have P1 := x1.pu
      have B1 := B.pu P1
      have s1 := P1.vh
      have eo1 := s1 _ _ (P1.vv _ _ eo)
      have er1 := (P1.kp r (by rw [erq]; exact fun z => by cases z)).trans erq
      have dg := B1.ri g (List.mem_of_find?_eq_some hf)
      obtain ⟨X, Y, hR, hXY, hx, hy⟩ := he hn'
      have h1 : RegIn X Y (rectReg x y wd ht) := rect_in hx hy
      have o1 := hR.ok hXY.1 hXY.2
      have o2 := h1.ok hXY.1 hXY.2
      have pr := hR.pair h1 hXY.1 hXY.2
      have ho : ∀ op, RegOk (cmbR op g.R (rectReg x y wd ht)) := fun op => (hR.cmb op h1).ok hXY.1 hXY.2
      clear x1 erq ela eoH B erd
      walk_at "gf"
      refine ⟨rd, g.v, rfl, dget_of (k := .inl n0) B1.er (by rw [kvR_val, hf]; rfl), ?_⟩
      walk_at "gf"
      refine iteStr (fun c => ?_) (fun c => ?_)
      · walk_at "gf"
        walk_at "go"
        refine ⟨g.R, rectReg x y wd ht, g.v, v1, U1, rfl, s1, dg, d1, o1, o2, pr, fun v' U2 H2 x2 d2 => ?_⟩
        have ec : chgR m g.R x y wd ht = cmbR or g.R (rectReg x y wd ht) := by unfold chgR; rw [if_pos c]
        have oc := ho or
        have P2 := P1.trans x2.pu
        have er2 := x2.hh _ _ er1
        have s2 := x2.vh
        clear x2 er1 eo1 s1 B1
        walk_at "gf"
        refine ⟨v', _, U2, rfl, s2, d2.to s2, rects_few oc, by have := oc.few; omega, fun v3 U3 H3 x3 d3 => ?_⟩
        obtain ⟨pr3, xr, rfl, hpr, hxr⟩ := dp_list d3
        have hl : xr.length = ((cmbR or g.R (rectReg x y wd ht)).flatMap rectsOf).length := dpall_len hxr
        have er3 := x3.hh _ _ er2
        have P3 := P2.trans x3.pu
        walk_at "gf"
        refine ⟨pr3, xr, rfl, .inl (x3.vh.seq hpr), ?_⟩
        walk_at "gf"
        rw [hl]
        refine iteP (fun c2 => ?_) (fun c2 => ?_)
        · walk_at "gf"
          walk_at "go"
          exact ⟨by show 3 ≤ 1000; decide, fault_go ((q2.go hn' (by rw [ec]; omega)).pu P3)⟩
        · walk_at "gf"
          exact q3.go hn' (by rw [ec]; omega) v' U3 H3 P3 (by rw [ec]; exact d2.to x3.vv)
      · walk_at "gf"
        walk_at "go"
        refine ⟨g.R, rectReg x y wd ht, g.v, v1, U1, rfl, s1, dg, d1, o1, o2, pr, fun v' U2 H2 x2 d2 => ?_⟩
        have ec : chgR m g.R x y wd ht = cmbR (fun a b => a && !b) g.R (rectReg x y wd ht) := by unfold chgR; rw [if_neg c]
        have oc := ho (fun a b => a && !b)
        have P2 := P1.trans x2.pu
        have er2 := x2.hh _ _ er1
        have s2 := x2.vh
        clear x2 er1 eo1 s1 B1
        walk_at "gf"
        refine ⟨v', _, U2, rfl, s2, d2.to s2, rects_few oc, by have := oc.few; omega, fun v3 U3 H3 x3 d3 => ?_⟩
        obtain ⟨pr3, xr, rfl, hpr, hxr⟩ := dp_list d3
        have hl : xr.length = ((cmbR (fun a b => a && !b) g.R (rectReg x y wd ht)).flatMap rectsOf).length := dpall_len hxr
        have er3 := x3.hh _ _ er2
        have P3 := P2.trans x3.pu
        walk_at "gf"
        refine ⟨pr3, xr, rfl, .inl (x3.vh.seq hpr), ?_⟩
        walk_at "gf"
        rw [hl]
        refine iteP (fun c2 => ?_) (fun c2 => ?_)
        · walk_at "gf"
          walk_at "go"
          exact ⟨by show 3 ≤ 1000; decide, fault_go ((q2.go hn' (by rw [ec]; omega)).pu P3)⟩
        · walk_at "gf"
          exact q3.go hn' (by rw [ec]; omega) v' U3 H3 P3 (by rw [ec]; exact d2.to x3.vv)
    · intro hn
      walk_at "gf"
      walk_at "go"
      exact ⟨by show 3 ≤ 1000; decide, fault_go (q1.go hn)⟩
theorem putR {rs : List Rgn} {n0 : Int} {g : Rgn} (hf : findR rs n0 = some g) (R' : List Band) (v : V) : putK (kvR rs) (.inl n0) v = kvR (rs.map fun q => if q.n = n0 then ⟨n0, R', v⟩ else q) := by
  have hg : g.n = n0 := by have := List.find?_some hf; simpa using this
  unfold putK
  rw [if_pos (List.any_eq_true.mpr ⟨(.inl g.n, g.v), by unfold kvR; exact List.mem_map.mpr ⟨g, List.mem_of_find?_eq_some hf, rfl⟩, by rw [hg]; simp⟩)]
  unfold kvR
  rw [List.map_map, List.map_map]
  refine List.map_congr_left fun q _ => ?_
  show (if (Sum.inl q.n : Key) = .inl n0 then ((.inl q.n : Key), v) else (.inl q.n, q.v)) = (.inl (if q.n = n0 then (⟨n0, R', v⟩ : Rgn) else q).n, (if q.n = n0 then (⟨n0, R', v⟩ : Rgn) else q).v)
  by_cases c : q.n = n0
  · rw [if_pos (by rw [c]), if_pos c, c]
  · rw [if_neg (fun z => c (by injection z)), if_neg c]
theorem dropR (rs : List Rgn) (n0 : Int) : dropK (kvR rs) (.inl n0) = kvR (rs.filter fun q => decide (q.n ≠ n0)) := by
  unfold dropK kvR
  rw [List.filter_map]
  congr 1
  refine List.filter_congr fun q _ => ?_
  show decide ((Sum.inl q.n : Key) ≠ .inl n0) = decide (q.n ≠ n0)
  exact decide_eq_decide.mpr ⟨fun h z => h (by rw [z]), fun h z => h (by injection z)⟩
def SrA (A : Adr) (K : PySem.W.Frag) : Sp := fun vs H Q E => ∃ (bo r la pd rd : Addr) (ps : List Pic) (rs : List Rgn) (n0 x y wd ht : Int) (i m : Str) (g : Rgn) (U : Hp), vs = [.ref bo, .ref r] ∧ Same U H ∧ BufAt A K U H bo pd rd ps rs ∧ rs.length ≤ 1000 ∧ Rq A.CRequest H r n0 i m (.ref la) ∧ H la = some (.lst [.int x, .int y, .int wd, .int ht]) ∧ findR rs n0 = some g ∧ m ≠ Str.ofString "destroy" ∧
  (nearR x y wd ht → EdgeOk x y wd ht g.R) ∧ (¬ nearR x y wd ht → FaultTo A H E n0 8 "bad place") ∧ (nearR x y wd ht → 32 < ((chgR m g.R x y wd ht).flatMap rectsOf).length → FaultTo A H E n0 7 "region too complex") ∧
  (nearR x y wd ht → ((chgR m g.R x y wd ht).flatMap rectsOf).length ≤ 32 → ∀ v U' H', Same U U' → Same U' H' → BufAt A K U' H' bo pd rd ps (rs.map fun q => if q.n = n0 then ⟨n0, chgR m g.R x y wd ht, v⟩ else q) → Q .non H')
def SrD (A : Adr) (K : PySem.W.Frag) : Sp := fun vs H Q E => ∃ (bo r pd rd : Addr) (va : V) (ps : List Pic) (rs : List Rgn) (n0 : Int) (i : Str) (g : Rgn) (U : Hp), vs = [.ref bo, .ref r] ∧ Same U H ∧ BufAt A K U H bo pd rd ps rs ∧ Rq A.CRequest H r n0 i "destroy" va ∧ findR rs n0 = some g ∧
  ∀ U' H', Same U U' → Same U' H' → BufAt A K U' H' bo pd rd ps (rs.filter fun q => decide (q.n ≠ n0)) → Q .non H'
def sp_Buffers__serve_region (A : Adr) (K : PySem.W.Frag) : Sp := fun vs H Q E => SrA A K vs H Q E ∨ SrD A K vs H Q E
theorem sc_Buffers__serve_region : FnScope ["self", "request"] ["self", "request"] (defScope s_Buffers__serve_region) := ⟨rfl, rfl, rfl, by decide +kernel, rfl, by decide +kernel, by decide +kernel⟩
theorem ok_Buffers__serve_region (T : Txt0 P K mg A) : FnOk P w K mg base (L2.CX P w) 7 A.fBuffers__serve_region A.dBuffers__serve_region ["self", "request"] (sp_Buffers__serve_region A K) := by
  refine T.FBuffers__serve_region.okX sc_Buffers__serve_region (fun vs H Q E h => ?_) (fun cdv Ar outer st H vs Q E hr h => ?_)
  · rcases h with ⟨_, _, _, _, _, _, _, _, _, _, _, _, _, _, _, _, rfl, _⟩ | ⟨_, _, _, _, _, _, _, _, _, _, _, rfl, _⟩ <;> rfl
  · refine ⟨_, (pss_one (ps_if (pt_cmpR op_eq (pe_fldC T.clRequest T.nRequest_name (pv 1) rfl) pe_str (nomark _))
      (pss_one (ps_ddel (pe_fldC T.clBuffers T.nBuffers__regions (pv 0) rfl) (pe_fldC T.clRequest T.nRequest_number (pv 1) rfl)))
      (pss_one (ps_dput (hu_of hr) (pe_fldC T.clBuffers T.nBuffers__regions (pv 0) rfl) (pe_fldC T.clRequest T.nRequest_number (pv 1) rfl) (pe_meth (pv 0) T.clBuffers T.mBuffers__changed_region (ok_Buffers__changed_region T) (hr.mono (by decide)) T.bBuffers__changed_region .nil (passes_call (takes_of rfl rfl rfl rfl) (fun _ _ _ _ h => h)) (pa_cons (pv 1) pa_nil)) rfl)))), ?_⟩
    rcases h with ⟨bo, r, la, pd, rd, ps, rs, n0, x, y, wd, ht, i, m, g, U, rfl, sU, B, hn, ⟨dxr, er, erq⟩, ela, hf, hm, he, q1, q2, q3⟩ | ⟨bo, r, pd, rd, va, ps, rs, n0, i, g, U, rfl, sU, B, ⟨dxr, er, erq⟩, hf, q⟩
    · replace q1 := Hid.mk q1
      replace q2 := Hid.mk q2
      replace q3 := Hid.mk q3
      obtain ⟨dx, eo⟩ := B.ob
      have eoH := sU _ _ eo
      walk_at "gf"
      refine iteStr (fun c => absurd c hm) (fun _ => ?_)
      walk_at "gf"
      walk_at "go"
      refine ⟨bo, r, la, pd, rd, ps, rs, n0, x, y, wd, ht, i, m, g, U, rfl, sU, B, ⟨dxr, er, erq⟩, ela, hf, he, q1.go, q2.go, fun hn' h32 v U1 H1 P1 d1 => ?_⟩
      have B1 := B.pu P1
      have s1 := P1.vh
      have v1 := P1.vv
      have eo1 := s1 _ _ (v1 _ _ eo)
      have er1 := (P1.kp r (by rw [erq]; exact fun z => by cases z)).trans erq
      clear P1 eoH erq
      walk_at "gf"
      refine ⟨rd, _, rfl, DPut.k (k := .inl n0) B1.er (Nat.lt_of_lt_of_le (m := 100000) (by unfold kvR; rw [List.length_map]; omega) (by decide)), ?_⟩
      rw [putR hf (chgR m g.R x y wd ht) v]
      have rr := B1.setR s1 (rs.map fun q => if q.n = n0 then ⟨n0, chgR m g.R x y wd ht, v⟩ else q) (fun q hq => by
        obtain ⟨q0, h0, rfl⟩ := List.mem_map.mp hq
        by_cases c : q0.n = n0
        · rw [if_pos c]; exact d1
        · rw [if_neg c]; exact B1.ri q0 h0)
      exact q3.go hn' h32 v U1 _ v1 rr.2 rr.1
    · replace q := Hid.mk q
      obtain ⟨dx, eo⟩ := B.ob
      have eoH := sU _ _ eo
      have erd := B.er
      walk_at "gf"
      refine ⟨rd, _, .inl n0, rfl, erd, rfl, by rw [kvR_val, hf]; rfl, ?_⟩
      rw [dropR]
      have rr := B.setR sU (rs.filter fun q => decide (q.n ≠ n0)) (fun q hq => B.ri q (List.mem_filter.mp hq).1)
      exact q.go U _ (Same.refl _) rr.2 rr.1
def spF : Sp := fun _ _ _ _ => False
theorem sc_Buffers__serve_buffer : FnScope ["self", "request"] ["self", "request"] (defScope s_Buffers__serve_buffer) := ⟨rfl, rfl, rfl, by decide +kernel, rfl, by decide +kernel, by decide +kernel⟩
theorem ok_Buffers__serve_buffer (T : Txt0 P K mg A) : FnOk P w K mg base (L2.CX P w) 3 A.fBuffers__serve_buffer A.dBuffers__serve_buffer ["self", "request"] spF := T.FBuffers__serve_buffer.okX sc_Buffers__serve_buffer (fun _ _ _ _ h => h.elim) (fun _ _ _ _ _ _ _ _ _ h => h.elim)
def SvM (A : Adr) (K : PySem.W.Frag) : Sp := fun vs H Q E => ∃ (bo r la : Addr) (n0 others : Int) (v : V), vs = [.ref bo, .ref r, .int others, v] ∧ Rq A.CRequest H r n0 "memory" "buffer" (.ref la) ∧ sp_Buffers__make_buffer A K [.ref bo, .ref r, .int others] H Q E
def SvG (A : Adr) (K : PySem.W.Frag) : Sp := fun vs H Q E => ∃ (bo r la : Addr) (n0 : Int) (v1 v2 : V), vs = [.ref bo, .ref r, v1, v2] ∧ Rq A.CRequest H r n0 "compositor" "region" (.ref la) ∧ sp_Buffers__make_region A K [.ref bo, .ref r] H Q E
def SvR (A : Adr) (K : PySem.W.Frag) : Sp := fun vs H Q E => ∃ (bo r la : Addr) (n0 : Int) (m : Str) (v1 v2 : V), vs = [.ref bo, .ref r, v1, v2] ∧ Rq A.CRequest H r n0 "region" m (.ref la) ∧ sp_Buffers__serve_region A K [.ref bo, .ref r] H Q E
def sp_Buffers_serve (A : Adr) (K : PySem.W.Frag) : Sp := fun vs H Q E => SvM A K vs H Q E ∨ SvG A K vs H Q E ∨ SvR A K vs H Q E
theorem mk_bo {A : Adr} {K : PySem.W.Frag} {bo : Addr} {vs : List V} {H : Hp} {Q : VK} {E : XK} (h : sp_Buffers__make_buffer A K (.ref bo :: vs) H Q E) : ∃ dx pd rd, H bo = some (.ins A.CBuffers dx [("_pictures", .ref pd), ("_regions", .ref rd)]) := by
  obtain ⟨_, _, _, _, _, _, _, _, _, _, _, _, _, _, _, e, sU, B, _⟩ := h
  obtain ⟨dx, eo⟩ := B.ob
  injection e with e1 e2
  injection e1 with e1
  subst e1
  exact ⟨_, _, _, sU _ _ eo⟩
theorem mg_bo {A : Adr} {K : PySem.W.Frag} {bo : Addr} {vs : List V} {H : Hp} {Q : VK} {E : XK} (h : sp_Buffers__make_region A K (.ref bo :: vs) H Q E) : ∃ dx pd rd, H bo = some (.ins A.CBuffers dx [("_pictures", .ref pd), ("_regions", .ref rd)]) := by
  obtain ⟨_, _, _, _, _, _, _, _, _, _, _, _, e, sU, B, _⟩ := h
  obtain ⟨dx, eo⟩ := B.ob
  injection e with e1 e2
  injection e1 with e1
  subst e1
  exact ⟨_, _, _, sU _ _ eo⟩
theorem sr_bo {A : Adr} {K : PySem.W.Frag} {bo : Addr} {vs : List V} {H : Hp} {Q : VK} {E : XK} (h : sp_Buffers__serve_region A K (.ref bo :: vs) H Q E) : ∃ dx pd rd, H bo = some (.ins A.CBuffers dx [("_pictures", .ref pd), ("_regions", .ref rd)]) := by
  rcases h with ⟨_, _, _, _, _, _, _, _, _, _, _, _, _, _, _, _, e, sU, B, _⟩ | ⟨_, _, _, _, _, _, _, _, _, _, _, e, sU, B, _⟩
  all_goals
    obtain ⟨dx, eo⟩ := B.ob
    injection e with e1 e2
    injection e1 with e1
    subst e1
    exact ⟨_, _, _, sU _ _ eo⟩
theorem sc_Buffers_serve : FnScope ["self", "request", "other_pixels", "reply"] ["self", "request", "other_pixels", "reply"] (defScope s_Buffers_serve) := ⟨rfl, rfl, rfl, by decide +kernel, rfl, by decide +kernel, by decide +kernel⟩
theorem ok_Buffers_serve (T : Txt0 P K mg A) : FnOk P w K mg base (L2.CX P w) 8 A.fBuffers_serve A.dBuffers_serve ["self", "request", "other_pixels", "reply"] (sp_Buffers_serve A K) := by
  refine T.FBuffers_serve.okX sc_Buffers_serve (fun vs H Q E h => ?_) (fun cdv Ar outer st H vs Q E hr h => ?_)
  · rcases h with ⟨_, _, _, _, _, _, rfl, _⟩ | ⟨_, _, _, _, _, _, rfl, _⟩ | ⟨_, _, _, _, _, _, _, rfl, _⟩ <;> rfl
  · refine ⟨_, (pss_one (ps_if (PW.pt (pw_and (pt_cmpR op_eq (pe_fldC T.clRequest T.nRequest_interface (pv 1) rfl) pe_str (nomark _)) (pw_and1 (pt_cmpR op_eq (pe_fldC T.clRequest T.nRequest_name (pv 1) rfl) pe_str (nomark _)))))
      (pss_one (ps_expr (pe_meth (pv 0) T.clBuffers T.mBuffers__make_buffer (ok_Buffers__make_buffer T) (hr.mono (by decide)) T.bBuffers__make_buffer .nil (passes_call (takes_of rfl rfl rfl rfl) (fun _ _ _ _ h => h)) (pa_cons (pv 1) (pa_cons (pv 2) pa_nil)))))
      (pss_one (ps_if (pt_cmpR op_eq (pe_fldC T.clRequest T.nRequest_interface (pv 1) rfl) pe_str (nomark _))
      (pss_one (ps_expr (pe_meth (pv 0) T.clBuffers T.mBuffers__serve_buffer (ok_Buffers__serve_buffer T) (hr.mono (by decide)) T.bBuffers__serve_buffer .nil (passes_call (takes_of rfl rfl rfl rfl) (fun _ _ _ _ h => h)) (pa_cons (pv 1) pa_nil))))
      (pss_one (ps_if (PW.pt (pw_and (pt_cmpR op_eq (pe_fldC T.clRequest T.nRequest_interface (pv 1) rfl) pe_str (nomark _)) (pw_and1 (pt_cmpR op_eq (pe_fldC T.clRequest T.nRequest_name (pv 1) rfl) pe_str (nomark _)))))
      (pss_one (ps_expr (pe_meth (pv 0) T.clBuffers T.mBuffers__make_region (ok_Buffers__make_region T) (hr.mono (by decide)) T.bBuffers__make_region .nil (passes_call (takes_of rfl rfl rfl rfl) (fun _ _ _ _ h => h)) (pa_cons (pv 1) pa_nil))))
      (pss_one (ps_if (pt_cmpR op_eq (pe_fldC T.clRequest T.nRequest_interface (pv 1) rfl) pe_str (nomark _))
      (pss_one (ps_expr (pe_meth (pv 0) T.clBuffers T.mBuffers__serve_region (ok_Buffers__serve_region T) (hr.mono (by decide)) T.bBuffers__serve_region .nil (passes_call (takes_of rfl rfl rfl rfl) (fun _ _ _ _ h => h)) (pa_cons (pv 1) pa_nil))))
      pss_nil)))))))), ?_⟩
    rcases h with ⟨bo, r, la, n0, others, v, rfl, ⟨dxr, er, erq⟩, q⟩ | ⟨bo, r, la, n0, v1, v2, rfl, ⟨dxr, er, erq⟩, q⟩ | ⟨bo, r, la, n0, m, v1, v2, rfl, ⟨dxr, er, erq⟩, q⟩
    · obtain ⟨dxb, pdb, rdb, eob⟩ := mk_bo q
      replace q := Hid.mk q
      walk_at "gf"
      walk_at "go"
      exact q.go
    · obtain ⟨dxb, pdb, rdb, eob⟩ := mg_bo q
      replace q := Hid.mk q
      walk_at "gf"
      walk_at "go"
      exact q.go
    · obtain ⟨dxb, pdb, rdb, eob⟩ := sr_bo q
      replace q := Hid.mk q
      walk_at "gf"
      walk_at "go"
      exact q.go
section
/-! ### o.m(e, ..) within a try, m of an own class, which may raise (our own rule, along the library's for a def) -/
open PySem PySem.Spec PyProof.Rows
def tMethAt (C : Addr) (m : Str) (sp : Sp) (E : L2.St → XK) (ta : TE) (t : TA) : TE := fun σ H Q => ta σ H fun x H1 => ∃ a dx fs, x = .ref a ∧ H1 a = some (.ins C dx fs) ∧ fs.lookup m = none ∧ t σ H1 fun vs H2 => sp (x :: vs) H2 Q (E σ)
theorem pe_methAt {X : Cx} {CX : CXT} {k : Nat} {f C : Addr} {fd : FuncData} {ps : List Str} {sp : Sp} {E : L2.St → XK} {m : Str} {pos apos : Pos} {e o : Expr} {es : List Expr} {ta : TE} {t : TA} {pl : Sem Bool} (he : PE X o ta) (c : Cls X.K C) (hm : Meth X.K C m f) (F : FnOk X.prog X.w X.K X.mg X.base CX k f fd ps sp) (hr : Room k X.A) (hb : Binds X.K fd ps []) (hx : ∀ σ, PassesAt CX X σ (E σ)) (ha : PA X (e :: es) t)
    (hst : starEach (e :: es) X.env = (false, eval e X.env) :: starEach es X.env := by rfl) (hpl : (backTo pos (starEach es X.env)).any (·.1) = false := by rfl)
    (ht : eval (.Call (.Attribute o m apos) (e :: es) [] pos) X.env = (do
      let ov ← eval o X.env
      standAt apos.atName
      let (f, first) ← holding [ov] (getMethod ov m pl)
      callWith pos f first (backTo pos (starEach (e :: es) X.env)) (backToKw pos (keywordEach [] X.env))) := by rfl) :
    PE X (.Call (.Attribute o m apos) (e :: es) [] pos) (tMethAt C m sp E ta t) := by
  refine ⟨fun pins s σ H Q I h => ?_⟩
  refine PySem.W.methodCall_KW (pl := pl) (thn (he.run pins s σ H _ I h) fun u s1 ⟨x, H1, I1, rx, a, dx, fs, ex, ea, l, q⟩ => ?_) ht
  subst ex
  obtain rfl : u = Value.ref a := rx
  refine getmeth_ok I1 ea c hm l ?_
  refine PySem.W.callWith_K (first := [.ref a]) (h₀ := X.base) I.ok.mod.kin hm.kp (thn (ha.run pos pins s1 σ H1 _ I1 q) fun us s2 ⟨vs, H2, I2, r, q2⟩ => ⟨I2.kIn, ?_⟩) hst hpl
  exact run_fnS (us := .ref a :: us) (vs := .ref a :: vs) F hr hb (hx σ) I2 (.cons rfl r) q2
end
/-! ### the law asks -/
def AskF (A : Adr) (K : PySem.W.Frag) (U H : Hp) (Q : VK) (bo pd rd : Addr) (ps : List Pic) (rs : List Rgn) (n c : Int) (wd : Str) : Prop := ∀ U' H' t, Same U U' → Same U' H' → BufAt A K U' H' bo pd rd ps rs → U' t = some (.tup [.int n, .int c, .str wd]) → Q (.ref t) H'
def AskR (A : Adr) (K : PySem.W.Frag) (U H : Hp) (Q : VK) (bo pd rd : Addr) (ps : List Pic) (rs : List Rgn) : Prop := ∀ U' H', Same U U' → Same U' H' → BufAt A K U' H' bo pd rd ps rs → Q .non H'
def AkM (A : Adr) (K : PySem.W.Frag) (U H : Hp) (Q : VK) (bo pd rd : Addr) (ps : List Pic) (rs : List Rgn) (n0 others : Int) (i m : Str) (args : List V) : Prop := i = Str.ofString "memory" ∧ m = Str.ofString "buffer" ∧ ∃ n wd ht : Int, args = [.int n, .int wd, .int ht] ∧ findP ps n = none ∧
  (∀ c w', mkF ps wd ht others = some (c, w') → AskF A K U H Q bo pd rd ps rs n0 c w') ∧ (mkF ps wd ht others = none → ∀ o, AskR A K U H Q bo pd rd (ps ++ [⟨n, wd, ht, o⟩]) rs)
def AkG (A : Adr) (K : PySem.W.Frag) (U H : Hp) (Q : VK) (bo pd rd : Addr) (ps : List Pic) (rs : List Rgn) (n0 : Int) (i m : Str) (args : List V) : Prop := i = Str.ofString "compositor" ∧ m = Str.ofString "region" ∧ ∃ n : Int, args = [.int n] ∧ findR rs n = none ∧
  (32 ≤ rs.length → AskF A K U H Q bo pd rd ps rs n0 6 "too many regions") ∧ (rs.length < 32 → ∀ v, AskR A K U H Q bo pd rd ps (rs ++ [⟨n, [], v⟩]))
def AkR (A : Adr) (K : PySem.W.Frag) (U H : Hp) (Q : VK) (bo pd rd : Addr) (ps : List Pic) (rs : List Rgn) (n0 : Int) (i m : Str) (args : List V) : Prop := i = Str.ofString "region" ∧ m ≠ Str.ofString "destroy" ∧ ∃ (x y wd ht : Int) (g : Rgn), args = [.int x, .int y, .int wd, .int ht] ∧ findR rs n0 = some g ∧ (nearR x y wd ht → EdgeOk x y wd ht g.R) ∧
  (¬ nearR x y wd ht → AskF A K U H Q bo pd rd ps rs n0 8 "bad place") ∧ (nearR x y wd ht → 32 < ((chgR m g.R x y wd ht).flatMap rectsOf).length → AskF A K U H Q bo pd rd ps rs n0 7 "region too complex") ∧
  (nearR x y wd ht → ((chgR m g.R x y wd ht).flatMap rectsOf).length ≤ 32 → ∀ v, AskR A K U H Q bo pd rd ps (rs.map fun q => if q.n = n0 then ⟨n0, chgR m g.R x y wd ht, v⟩ else q))
def AkD (A : Adr) (K : PySem.W.Frag) (U H : Hp) (Q : VK) (bo pd rd : Addr) (ps : List Pic) (rs : List Rgn) (n0 : Int) (i m : Str) : Prop := i = Str.ofString "region" ∧ m = Str.ofString "destroy" ∧ ∃ g, findR rs n0 = some g ∧ AskR A K U H Q bo pd rd ps (rs.filter fun q => decide (q.n ≠ n0))
def AkAny (A : Adr) (K : PySem.W.Frag) (U H : Hp) (Q : VK) (bo pd rd : Addr) (ps : List Pic) (rs : List Rgn) (n0 others : Int) (i m : Str) (args : List V) : Prop := AkM A K U H Q bo pd rd ps rs n0 others i m args ∨ AkG A K U H Q bo pd rd ps rs n0 i m args ∨ AkR A K U H Q bo pd rd ps rs n0 i m args ∨ AkD A K U H Q bo pd rd ps rs n0 i m
theorem ask_cases {A : Adr} {K : PySem.W.Frag} {bo pd rd rq la o : Addr} {n0 others : Int} {i m : Str} {args : List V} {ps : List Pic} {rs : List Rgn} {U H H3 : Hp} {Q Q' : VK} {E' : XK}
    (sU : Same U H3) (B : BufAt A K U H3 bo pd rd ps rs) (hp : ps.length ≤ 1000) (hr : rs.length ≤ 1000) (rqq : Rq A.CRequest H3 rq n0 i m (.ref la)) (ela : H3 la = some (.lst args)) (hcase : AkAny A K U H Q bo pd rd ps rs n0 others i m args)
    (hF : ∀ c wd, AskF A K U H Q bo pd rd ps rs n0 c wd → FaultTo A H3 E' n0 c wd) (hR : ∀ ps' rs' U' H', AskR A K U H Q bo pd rd ps' rs' → Same U U' → Same U' H' → BufAt A K U' H' bo pd rd ps' rs' → Q' .non H') :
    sp_Buffers_serve A K [.ref bo, .ref rq, .int others, .ref o] H3 Q' E' := by
  rcases hcase with ⟨rfl, rfl, n, wd, ht, rfl, hf, q1, q2⟩ | ⟨rfl, rfl, n, rfl, hf, q1, q2⟩ | ⟨rfl, hm, x, y, wd, ht, g, rfl, hf, he, q1, q2, q3⟩ | ⟨rfl, rfl, g, hf, q⟩
  · exact .inl ⟨bo, rq, la, n0, others, _, rfl, rqq, bo, rq, la, pd, rd, ps, rs, n0, n, wd, ht, others, _, _, U, rfl, sU, B, hp, rqq, ela, hf, fun c w' h => hF _ _ (q1 c w' h), fun h o U' H' s1 s2 b => hR _ _ U' H' (q2 h o) s1 s2 b⟩
  · exact .inr (.inl ⟨bo, rq, la, n0, _, _, rfl, rqq, bo, rq, la, pd, rd, ps, rs, n0, n, _, _, U, rfl, sU, B, hr, rqq, ela, hf, fun h => hF _ _ (q1 h), fun h v U' H' s1 s2 b => hR _ _ U' H' (q2 h v) s1 s2 b⟩)
  · exact .inr (.inr ⟨bo, rq, la, n0, m, _, _, rfl, rqq, .inl ⟨bo, rq, la, pd, rd, ps, rs, n0, x, y, wd, ht, _, m, g, U, rfl, sU, B, hr, rqq, ela, hf, hm, he, fun h => hF _ _ (q1 h), fun h h2 => hF _ _ (q2 h h2), fun h h2 v U' H' s1 s2 b => hR _ _ U' H' (q3 h h2 v) s1 s2 b⟩⟩)
  · exact .inr (.inr ⟨bo, rq, la, n0, _, _, _, rfl, rqq, .inr ⟨bo, rq, pd, rd, _, ps, rs, n0, _, g, U, rfl, sU, B, rqq, hf, fun U' H' s1 s2 b => hR _ _ U' H' q s1 s2 b⟩⟩)
def sp__law_ask (A : Adr) (K : PySem.W.Frag) : Sp := fun vs H Q _ => ∃ (bo la pd rd : Addr) (n0 others : Int) (i m : Str) (args : List V) (ps : List Pic) (rs : List Rgn) (U : Hp), vs = [.ref bo, .int n0, .str i, .str m, .ref la, .int others] ∧ Same U H ∧ BufAt A K U H bo pd rd ps rs ∧ ps.length ≤ 1000 ∧ rs.length ≤ 1000 ∧ H la = some (.lst args) ∧ AkAny A K U H Q bo pd rd ps rs n0 others i m args
theorem sc__law_ask : FnScope ["buffers", "number", "interface", "name", "arguments", "others", "e"] ["buffers", "number", "interface", "name", "arguments", "others"] (defScope s__law_ask) := ⟨rfl, rfl, rfl, by decide +kernel, rfl, by decide +kernel, by decide +kernel⟩
theorem ok__law_ask (T : Txt0 P K mg A) : FnOk P w K mg base CX0 9 A.f_law_ask A.d_law_ask ["buffers", "number", "interface", "name", "arguments", "others"] (sp__law_ask A K) := by
  refine T.F_law_ask.ok sc__law_ask (fun vs H Q E h => ?_) (fun cdv Ar outer st H vs Q E hr h => ?_)
  · obtain ⟨_, _, _, _, _, _, _, _, _, _, _, _, rfl, _⟩ := h
    rfl
  · obtain ⟨bo, la, pd, rd, n0, others, i, m, args, ps, rs, U, rfl, sU, B, hp, hrl, ela, hcase⟩ := h
    replace hcase := Hid.mk hcase
    obtain ⟨dx, eo⟩ := B.ob
    have eoH := sU _ _ eo
    refine ⟨_, (pss_cons (ps_try_as (i := 6) rfl rfl sc__law_ask.nd rfl rfl ⟨rfl, by decide, .inl T.gFault⟩ takes0 (fun W pn xe tk _ => (pss_one (ps_expr (pe_methAt (pv 0) T.clBuffers T.mBuffers_serve (ok_Buffers_serve (P := P) (w := w) (base := base) T) (hr.mono (by decide)) T.bBuffers_serve (fun σ => passAt tk σ) (pa_cons (pe_make T.MRequest (ok_Request___init__ T) (hr.mono (by decide)) rfl T.gRequest T.bRequest___init__ .nil pass0 (pa_cons (pv 1) (pa_cons (pv 2) (pa_cons (pv 3) (pa_cons (pv 4) (pa_cons pe_bl pa_nil)))))) (pa_cons (pv 5) (pa_cons (pe_make0 T.MReply (ok_Reply___init__ T) (hr.mono (by decide)) rfl T.gReply T.bReply___init__ .nil pass0) pa_nil)))))))
      (fun a oe cls d pn hz hf => (pss_one (ps_ret (pe_tup (pa_cons (pe_xf T.xfFault T.nFault_number hz hf (pv 6)) (pa_cons (pe_xf T.xfFault T.nFault_code hz hf (pv 6)) (pa_cons (pe_xf T.xfFault T.nFault_words hz hf (pv 6)) pa_nil))))))))
      (pss_one (ps_ret pe_non))), ?_⟩
    walk_at "gf"
    walk_at "go"
    intro rq dxq hrq hdxq nrq
    refine ⟨rq, dxq, n0, i, m, .ref la, _, rfl, upd_same, fun H1 e1 k1 => ⟨rfl, ?_⟩⟩
    have P1 : Pu U H U H1 := ⟨Same.refl _, by walk_at "h", fun _ h _ => h, by walk_at "h", by walk_at "h"⟩
    clear k1 hrq hdxq nrq
    have s1 := P1.vh
    have eo1 := s1 _ _ eo
    walk_at "gf"
    walk_at "go"
    intro o dxo ho hdxo nod
    refine ⟨o, dxo, U, rfl, upd_same, by walk_at "h", s1.free ho, fun lt le lw H2 s2 k2 m2 f1 f2 f3 R2 => ⟨rfl, ?_⟩⟩
    have P2 : Pu U H1 U H2 := ⟨Same.refl _, s2, fun _ h _ => h, by walk_at "h", by walk_at "h"⟩
    have P3 := P1.trans P2
    have e2 := (P2.kp rq (by rw [e1]; exact fun z => by cases z)).trans e1
    have ela2 := (P3.kp la (by rw [ela]; exact fun z => by cases z)).trans ela
    have B2 := B.pu P3
    clear k2 m2 f1 f2 f3 hdxo nod R2 P2 P1 ho e1 eo1 s1
    walk_at "gf"
    walk_at "go"
    refine ask_cases s2 B2 hp hrl ⟨dxq, _, e2⟩ ela2 hcase.go (fun c wd hq => ?_) (fun ps' rs' U' H' hq v' s' B' => ?_)
    · intro dd H' h1 h2 h3 h4
      refine ⟨true, T.exFault, (fun _ a' ha => ?_), (fun z => nomatch z)⟩
      walk_at "gf"
      refine ⟨dd, _, _, rfl, h2, by unfold ffF; walk_at "lk", ?_⟩
      walk_at "gf"
      refine ⟨dd, _, _, rfl, h2, by unfold ffF; walk_at "lk", ?_⟩
      walk_at "gf"
      refine ⟨dd, _, _, rfl, h2, by unfold ffF; walk_at "lk", ?_⟩
      walk_at "gf"
      rename_i te hte
      have pf : Pu U H2 (upd U te (.tup [.int n0, .int c, .str wd])) (upd H' te (.tup [.int n0, .int c, .str wd])) := ⟨by walk_at "h", by walk_at "h", by walk_at "h", by walk_at "h", by walk_at "h"⟩
      exact hq _ _ te pf.vv pf.vh (B2.pu pf) upd_same
    · walk_at "gf"
      exact hq U' H' v' s' B'
/-! ### the law's buffers -/
theorem neI {x y : V} {A B : Prop} (h1 : x ≠ y → A) (h2 : x = y → B) : if (!decide (x = y)) = true then A else B := by
  by_cases h : x = y
  · rw [decide_eq_true h]; exact iteF (h2 h)
  · rw [decide_eq_false h]; exact iteT (h1 h)
theorem useJ {B G : Prop} (h : B → G) (b : B) : G := h b
theorem pick8 {j : Nat} (h : j < 8) : ∃ z : Int, ([V.int 0, .int 1, .int 2, .int 127, .int 128, .int 129, .int 16, .int 5] : List V)[j]? = some (.int z) ∧ 0 ≤ z ∧ z ≤ 129 := by
  have h8 : j = 0 ∨ j = 1 ∨ j = 2 ∨ j = 3 ∨ j = 4 ∨ j = 5 ∨ j = 6 ∨ j = 7 := by omega
  rcases h8 with rfl | rfl | rfl | rfl | rfl | rfl | rfl | rfl
  all_goals exact ⟨_, rfl, by decide, by decide⟩
theorem pick6 {j : Nat} (h : j < 6) {z4 : Int} (h4 : 0 ≤ z4) : ∃ z : Int, ([V.int 0, .int 0, .int 0, .int 16000, .int z4, .int 16383] : List V)[j]? = some (.int z) ∧ 0 ≤ z := by
  have h6 : j = 0 ∨ j = 1 ∨ j = 2 ∨ j = 3 ∨ j = 4 ∨ j = 5 := by omega
  rcases h6 with rfl | rfl | rfl | rfl | rfl | rfl
  all_goals exact ⟨_, rfl, by first | exact h4 | decide⟩
theorem findP_none {ps : List Pic} {n : Int} (h : ∀ p ∈ ps, p.n < n) : findP ps n = none := List.find?_eq_none.mpr fun p hp => by
  have := h p hp
  simp only [decide_eq_true_eq]
  omega
theorem findP_last {ps : List Pic} {p : Pic} (h : ∀ q ∈ ps, q.n < p.n) : findP (ps ++ [p]) p.n = some p := by
  unfold findP
  rw [List.find?_append]
  have : ps.find? (fun q => decide (q.n = p.n)) = none := findP_none h
  rw [this]
  simp
theorem pxs_app (ps : List Pic) (p : Pic) : pxs (ps ++ [p]) = pxs ps + p.wd * p.ht := by
  unfold pxs; rw [List.map_append, List.sum_append]; simp
theorem buf_start {A : Adr} {K : PySem.W.Frag} {H H1 : Hp} {bo dxb pd rd : Addr} (hbo : H bo = none) (hdx : H dxb = none) (hpd : (upd (upd H dxb (.own bo)) bo (.ins A.CBuffers dxb [])) pd = none) (hrd : (upd (upd H dxb (.own bo)) bo (.ins A.CBuffers dxb [])) rd = none)
    (e1 : H1 bo = some (.ins A.CBuffers dxb [("_pictures", .ref pd), ("_regions", .ref rd)])) (ep1 : H1 pd = some (.dK [])) (er1 : H1 rd = some (.dK [])) (ne1 : pd ≠ rd) (k1 : ∀ b, b ≠ bo → (upd (upd H dxb (.own bo)) bo (.ins A.CBuffers dxb [])) b ≠ none → H1 b = (upd (upd H dxb (.own bo)) bo (.ins A.CBuffers dxb [])) b) :
    ∃ U, Same H U ∧ Same U H1 ∧ BufAt A K U H1 bo pd rd [] [] := by
  have nx : ∀ {d : Addr}, (upd (upd H dxb (.own bo)) bo (.ins A.CBuffers dxb [])) d = none → d ≠ bo ∧ H d = none := fun {d} h => by
    have c : d ≠ bo := fun z => by rw [z, upd_same] at h; cases h
    rw [upd_ne c] at h
    by_cases c2 : d = dxb
    · rw [c2, upd_same] at h; cases h
    · rw [upd_ne c2] at h; exact ⟨c, h⟩
  refine ⟨upd H bo (.ins A.CBuffers dxb [("_pictures", .ref pd), ("_regions", .ref rd)]), same_upd hbo, fun b u e => ?_, ⟨dxb, upd_same⟩, ep1, er1, ?_, ?_, ne1, fun p hp => (by cases hp), fun r hr => (by cases hr)⟩
  · by_cases c : b = bo
    · rw [c, upd_same] at e; rw [c, e1]; exact e
    · rw [upd_ne c] at e
      have c2 : b ≠ dxb := fun z => by rw [z, hdx] at e; cases e
      have e' : (upd (upd H dxb (.own bo)) bo (.ins A.CBuffers dxb [])) b = some u := by rw [upd_ne c, upd_ne c2]; exact e
      rw [k1 b c (by rw [e']; exact fun z => by cases z)]; exact e'
  · rw [upd_ne (nx hpd).1]; exact (nx hpd).2
  · rw [upd_ne (nx hrd).1]; exact (nx hrd).2
def sp__law_buffers (K : PySem.W.Frag) : Sp := fun vs H Q _ => ∃ (a : Addr) (ns : List Int), vs = [.ref a] ∧ SqL K H a (ns.map V.int) ∧ ns.length ≤ 63 ∧ ∀ H', Same H H' → Q (.bl true) H'
theorem sc__law_buffers : FnScope ["script", "buffers", "count", "pixels", "k", "row", "width", "height", "others", "told", "due"] ["script"] (defScope s__law_buffers) := ⟨rfl, rfl, rfl, by decide +kernel, rfl, by decide +kernel, by decide +kernel⟩
set_option maxHeartbeats 4000000 in
theorem ok__law_buffers (T : Txt0 P K mg A) : FnOk P w K mg base CX0 10 A.f_law_buffers A.d_law_buffers ["script"] (sp__law_buffers K) := by
  refine T.F_law_buffers.ok sc__law_buffers (fun vs H Q E h => ?_) (fun cdv Ar outer st H vs Q E hr h => ?_)
  · obtain ⟨_, _, rfl, _⟩ := h
    rfl
  · obtain ⟨a, ns, rfl, hS, hlen, q⟩ := h
    replace q := Hid.mk q
    refine ⟨_, (pss_cons (ps_set (i := 1) sc__law_buffers.nd rfl (Or.inl rfl) (pe_make0 T.MBuffers (ok_Buffers___init__ T) (hr.mono (by decide)) rfl T.gBuffers T.bBuffers___init__ .nil pass0))
      (pss_cons (ps_set (i := 2) sc__law_buffers.nd rfl (Or.inl rfl) pe_int)
      (pss_cons (ps_set (i := 3) sc__law_buffers.nd rfl (Or.inl rfl) pe_int)
      (pss_cons (ps_for PassesOwn.never rfl (pi_range1 (by rfl) T.range (pa_cons (pe_op op_add (pe_callB (call_min2 rfl) (by rfl) T.min (by decide +kernel) (pa_cons (pe_callB call_len_seq (by rfl) T.len PySem.boot_len (pa_cons (pv 0) pa_nil)) (pa_cons pe_int pa_nil))) pe_int) pa_nil)) (pg_name (i := 4) sc__law_buffers.nd rfl (Or.inl rfl))
      (pss_cons (ps_set (i := 5) sc__law_buffers.nd rfl (Or.inl rfl) (pe_callTy call_int1 (by rfl) T.int (by decide +kernel) (pa_cons (pe_call (ok__law_row T) (hr.mono (by decide)) rfl T.g_law_row T.k_law_row T.b_law_row .nil pass0 (pa_cons (pv 0) (pa_cons (pv 4) pa_nil))) pa_nil)))
      (pss_cons (ps_set (i := 6) sc__law_buffers.nd rfl (Or.inl rfl) (pe_ix (r := rIxT K) ix_tup (pe_tup (pa_cons pe_int (pa_cons pe_int (pa_cons pe_int (pa_cons pe_int (pa_cons pe_int (pa_cons pe_int (pa_cons pe_int (pa_cons pe_int pa_nil))))))))) (pe_op op_mod (pv 5) pe_int) (fun _ _ => rfl)))
      (pss_cons (ps_set (i := 7) sc__law_buffers.nd rfl (Or.inl rfl) (pe_ix (r := rIxT K) ix_tup (pe_tup (pa_cons pe_int (pa_cons pe_int (pa_cons pe_int (pa_cons pe_int (pa_cons pe_int (pa_cons pe_int (pa_cons pe_int (pa_cons pe_int pa_nil))))))))) (pe_op op_mod (pe_op op_fdiv (pv 5) pe_int) pe_int) (fun _ _ => rfl)))
      (pss_cons (ps_set (i := 8) sc__law_buffers.nd rfl (Or.inl rfl) (pe_ix (r := rIxT K) ix_tup (pe_tup (pa_cons pe_int (pa_cons pe_int (pa_cons pe_int (pa_cons pe_int (pa_cons (pe_op op_sub pe_int (pv 3)) (pa_cons pe_int pa_nil))))))) (pe_op op_mod (pe_op op_fdiv (pv 5) pe_int) pe_int) (fun _ _ => rfl)))
      (C8.pss_cut (ps_set (i := 9) sc__law_buffers.nd rfl (Or.inl rfl) (pe_call (ok__law_ask T) (hr.mono (by decide)) rfl T.g_law_ask T.k_law_ask T.b_law_ask .nil pass0 (pa_cons (pv 1) (pa_cons pe_int (pa_cons pe_str (pa_cons pe_str (pa_cons (pe_lst (pa_cons (pe_op op_add pe_int (pv 4)) (pa_cons (pv 6) (pa_cons (pv 7) pa_nil)))) (pa_cons (pv 8) pa_nil))))))))
      (pss_cons (ps_set (i := 10) sc__law_buffers.nd rfl (Or.inl rfl) pe_non)
      (C8.pss_cut (ps_if (PW.pt (pw_or (pt_cmpR op_lt (pe_callB (call_min2 rfl) (by rfl) T.min (by decide +kernel) (pa_cons (pv 6) (pa_cons (pv 7) pa_nil))) pe_int (nomark _)) (pw_or1 (pt_cmpR op_gt (pe_callB (call_max2 rfl) (by rfl) T.max (by decide +kernel) (pa_cons (pv 6) (pa_cons (pv 7) pa_nil))) pe_int (nomark _)))))
      (pss_one (ps_set (i := 10) sc__law_buffers.nd rfl (Or.inl rfl) (pe_tup (pa_cons pe_int (pa_cons pe_int (pa_cons pe_str pa_nil))))))
      (pss_one (ps_if (PW.pt (pw_or (pt_cmpR op_ge (pv 2) pe_int (nomark _)) (pw_or1 (pt_cmpR op_gt (pe_op op_add (pe_op op_add (pv 3) (pv 8)) (pe_op op_mul (pv 6) (pv 7))) pe_int (nomark _)))))
      (pss_one (ps_set (i := 10) sc__law_buffers.nd rfl (Or.inl rfl) (pe_tup (pa_cons pe_int (pa_cons pe_int (pa_cons pe_str pa_nil))))))
      (pss_cons (ps_set (i := 2) sc__law_buffers.nd rfl (Or.inl rfl) (pe_op op_add (pv 2) pe_int))
      (pss_one (ps_set (i := 3) sc__law_buffers.nd rfl (Or.inl rfl) (pe_op op_add (pv 3) (pe_op op_mul (pv 6) (pv 7)))))))))
      (pss_one (ps_if (PW.pt (pw_or (pt_cmpR (op_neD hr.units) (pv 9) (pv 10) (nomark _)) (pw_or (pt_cmpR op_ne (pe_meth0 (pv 1) T.clBuffers T.mBuffers_pixel_count (ok_Buffers_pixel_count T) (hr.mono (by decide)) T.bBuffers_pixel_count .nil pass0) (pv 3) (nomark _)) (pw_or1 (pt_cmpR op_ne (pe_cmpR op_notN (pe_meth (pv 1) T.clBuffers T.mBuffers_picture_of (ok_Buffers_picture_of T) (hr.mono (by decide)) T.bBuffers_picture_of .nil pass0 (pa_cons (pe_op op_add pe_int (pv 4)) pa_nil)) pe_non (nomark _)) (pe_cmpR op_isN (pv 10) pe_non (nomark _)) (nomark _))))))
      (pss_one (ps_ret pe_bl))
      pss_nil))))))))))
      (pss_cons (ps_for PassesOwn.never rfl (pi_range1 (by rfl) T.range (pa_cons (pe_op op_sub pe_int (pv 2)) pa_nil)) (pg_name (i := 4) sc__law_buffers.nd rfl (Or.inl rfl))
      (pss_cons (ps_set (i := 9) sc__law_buffers.nd rfl (Or.inl rfl) (pe_call (ok__law_ask T) (hr.mono (by decide)) rfl T.g_law_ask T.k_law_ask T.b_law_ask .nil pass0 (pa_cons (pv 1) (pa_cons pe_int (pa_cons pe_str (pa_cons pe_str (pa_cons (pe_lst (pa_cons (pe_op op_add pe_int (pv 4)) (pa_cons pe_int (pa_cons pe_int pa_nil)))) (pa_cons pe_int pa_nil))))))))
      (pss_cons (ps_if (PW.pt (pw_and (pt_cmpR op_lt (pe_op op_add (pv 2) (pv 4)) pe_int (nomark _)) (pw_and (pt_cmpR op_lt (pe_op op_add (pv 3) (pv 4)) pe_int (nomark _)) (pw_and1 (pt_cmpR op_notN (pv 9) pe_non (nomark _))))))
      (pss_one (ps_ret pe_bl))
      pss_nil)
      (pss_one (ps_if (PW.pt (pw_and (PW.pt (pw_or (pt_cmpR op_ge (pe_op op_add (pv 2) (pv 4)) pe_int (nomark _)) (pw_or1 (pt_cmpR op_ge (pe_op op_add (pv 3) (pv 4)) pe_int (nomark _))))) (pw_and1 (pt_cmpR (op_neD hr.units) (pv 9) (pe_tup (pa_cons pe_int (pa_cons pe_int (pa_cons pe_str pa_nil)))) (nomark _)))))
      (pss_one (ps_ret pe_bl))
      pss_nil)))))
      (pss_one (ps_ret pe_bl))))))), ?_⟩
    walk_at "gf"
    intro bo dxb hbo hdx ndx
    refine ⟨bo, dxb, rfl, upd_same, fun pd rd H1 hpd hrd e1 ep1 er1 ne1 k1 m1 => ⟨rfl, ?_⟩⟩
    obtain ⟨U1, sH, s1, B1⟩ := buf_start (K := K) hbo hdx hpd hrd e1 ep1 er1 ne1 k1
    clear hbo hdx ndx hpd hrd e1 ep1 er1 ne1 k1 m1
    have hs1 := s1.seq (sH.seq hS)
    walk_at "gf"
    walk_at "go"
    rw [List.length_map]
    refine ⟨by split <;> omega, by split <;> omega, for_range (lo := 0) (fun i σ H' => ∃ (U : Hp) (pd rd : Addr) (ps : List Pic) (v4 v5 v6 v7 v8 v9 v10 : Option V), σ = [some (.ref a), some (.ref bo), some (.int (ps.length : Int)), some (.int (pxs ps)), v4, v5, v6, v7, v8, v9, v10] ∧ Same H U ∧ Same U H' ∧ BufAt A K U H' bo pd rd ps [] ∧ ps.length ≤ 32 ∧ pxs ps ≤ 16384 ∧ ∀ p ∈ ps, p.n < 100 + (i : Int))
      ⟨U1, pd, rd, [], _, _, _, _, _, _, _, rfl, sH, s1, B1, by decide, by decide, fun p hp => (by cases hp)⟩ ?_ ?_⟩
    · clear B1 s1 sH hs1
      rintro i σ H5 hi ⟨U, pd, rd, ps, v4, v5, v6, v7, v8, v9, v10, rfl, vH, s5, B, hl, hpx, hnm⟩
      have hs5 := s5.seq (vH.seq hS)
      walk_at "gf"
      walk_at "go"
      refine ⟨a, ns, i, by rw [Int.zero_add]; rfl, hs5, ?_⟩
      have hr1 := lawRow_nn ns i
      generalize lawRow ns i = row at hr1 ⊢
      clear hs5
      walk_at "gf"
      rename_i t1 ht1
      obtain ⟨j1, hj1, ej1⟩ : ∃ j : Nat, j < 8 ∧ row % 8 = (j : Int) := ⟨(row % 8).toNat, by omega, by omega⟩
      obtain ⟨wd, hv1, hw0, hw1⟩ := pick8 hj1
      refine ⟨t1, _, _, .int wd, rfl, rfl, SqT.of upd_same, at_of (j := j1) ej1 hv1, ?_⟩
      have P1 := Pu.skip (o := .tup [.int 0, .int 1, .int 2, .int 127, .int 128, .int 129, .int 16, .int 5]) s5 ht1
      have B1 := B.pu P1
      have s6 := P1.vh
      generalize upd H5 t1 (.tup [.int 0, .int 1, .int 2, .int 127, .int 128, .int 129, .int 16, .int 5]) = H6 at B1 s6 P1 ⊢
      clear P1 ht1 B s5
      walk_at "gf"
      rename_i t2 ht2
      obtain ⟨j2, hj2, ej2⟩ : ∃ j : Nat, j < 8 ∧ row / 8 % 8 = (j : Int) := ⟨(row / 8 % 8).toNat, by omega, by omega⟩
      obtain ⟨ht, hv2, hh0, hh1⟩ := pick8 hj2
      refine ⟨t2, _, _, .int ht, rfl, rfl, SqT.of upd_same, at_of (j := j2) ej2 hv2, ?_⟩
      have P2 := Pu.skip (o := .tup [.int 0, .int 1, .int 2, .int 127, .int 128, .int 129, .int 16, .int 5]) s6 ht2
      have B2 := B1.pu P2
      have s7 := P2.vh
      generalize upd H6 t2 (.tup [.int 0, .int 1, .int 2, .int 127, .int 128, .int 129, .int 16, .int 5]) = H7 at B2 s7 P2 ⊢
      clear P2 ht2 B1 s6
      walk_at "gf"
      rename_i t3 ht3
      obtain ⟨j3, hj3, ej3⟩ : ∃ j : Nat, j < 6 ∧ row / 64 % 6 = (j : Int) := ⟨(row / 64 % 6).toNat, by omega, by omega⟩
      obtain ⟨others, hv3, ho3⟩ := pick6 hj3 (z4 := 16384 - pxs ps) (by omega)
      refine ⟨t3, _, _, .int others, rfl, rfl, SqT.of upd_same, at_of (j := j3) ej3 hv3, ?_⟩
      have P3 := Pu.skip (o := .tup [.int 0, .int 0, .int 0, .int 16000, .int (16384 - pxs ps), .int 16383]) s7 ht3
      have B3 := B2.pu P3
      have s8 := P3.vh
      generalize upd H7 t3 (.tup [.int 0, .int 0, .int 0, .int 16000, .int (16384 - pxs ps), .int 16383]) = H8 at B3 s8 P3 ⊢
      clear P3 ht3 B2 s7
      walk_at "gf"
      refine ⟨fun σ' H' => ∃ (U' : Hp) (told : V) (ps' : List Pic), σ' = [some (.ref a), some (.ref bo), some (.int (ps.length : Int)), some (.int (pxs ps)), some (.int (0 + (i : Int))), some (.int row), some (.int wd), some (.int ht), some (.int others), some told, v10] ∧ Same U U' ∧ Same U' H' ∧ BufAt A K U' H' bo pd rd ps' [] ∧ ((∃ (t : Addr) (c : Int) (w' : Str), mkF ps wd ht others = some (c, w') ∧ ps' = ps ∧ told = .ref t ∧ U' t = some (.tup [.int 2, .int c, .str w'])) ∨ (∃ o, mkF ps wd ht others = none ∧ ps' = ps ++ [⟨100 + (0 + (i : Int)), wd, ht, o⟩] ∧ told = .non)), ?_, ?_⟩
      · walk_at "gf"
        walk_at "go"
        rename_i la hla
        have P4 := Pu.skip (o := .lst [.int (100 + (0 + (i : Int))), .int wd, .int ht]) s8 hla
        have B4 := B3.pu P4
        have s9 := P4.vh
        have ela : (upd H8 la (.lst [.int (100 + (0 + (i : Int))), .int wd, .int ht])) la = some (.lst [.int (100 + (0 + (i : Int))), .int wd, .int ht]) := upd_same
        refine ⟨bo, la, pd, rd, 2, others, "memory", "buffer", _, ps, [], U, rfl, s9, B4, by omega, by decide, ela, .inl ⟨rfl, rfl, _, wd, ht, rfl, findP_none (fun p hp => by have := hnm p hp; omega), fun c w' h U' H' t v' s' b et => ?_, fun h o U' H' v' s' b => ?_⟩⟩
        · exact ⟨U', _, _, rfl, v', s', b, .inl ⟨t, c, w', h, rfl, rfl, et⟩⟩
        · exact ⟨U', _, _, rfl, v', s', b, .inr ⟨o, h, rfl, rfl⟩⟩
      · rintro σ' H9 ⟨U', told, ps', rfl, vU, s9, B9, hcase⟩
        clear B3 s8
        have vU' := vH.trans vU
        walk_at "gf"
        refine ⟨fun σ' H' => ∃ (U' : Hp) (told due : V) (ps' : List Pic), σ' = [some (.ref a), some (.ref bo), some (.int (ps'.length : Int)), some (.int (pxs ps')), some (.int (0 + (i : Int))), some (.int row), some (.int wd), some (.int ht), some (.int others), some told, some due] ∧ Same H U' ∧ Same U' H' ∧ BufAt A K U' H' bo pd rd ps' [] ∧ ((∃ (t t2 : Addr) (c : Int) (w' : Str), ps' = ps ∧ told = .ref t ∧ due = .ref t2 ∧ U' t = some (.tup [.int 2, .int c, .str w']) ∧ U' t2 = some (.tup [.int 2, .int c, .str w']) ∧ PyData.strOk w' = true) ∨ (∃ o, mkF ps wd ht others = none ∧ ps' = ps ++ [⟨100 + (0 + (i : Int)), wd, ht, o⟩] ∧ told = .non ∧ due = .non)), ?_, ?_⟩
        · walk_at "gf"
          apply useR (C := ¬ (1 ≤ wd ∧ wd ≤ 128) ∨ ¬ (1 ≤ ht ∧ ht ≤ 128))
          · intro rr bb
            refine iteP (fun c => bb (by split at c <;> omega)) (fun c => ?_)
            walk_at "gf"
            exact iteP (fun c2 => bb (by split at c2 <;> omega)) (fun c2 => rr (by split at c <;> split at c2 <;> omega))
          · intro h1
            walk_at "gf"
            apply useR (C := 32 ≤ ps.length ∨ 16384 < pxs ps + others + wd * ht)
            · intro rr bb
              refine iteP (fun c => bb (.inl (by omega))) (fun c => ?_)
              walk_at "gf"
              exact iteP (fun c2 => bb (.inr c2)) (fun c2 => rr (fun z => z.elim (fun y => c (by omega)) c2))
            · intro h2
              have hm : mkF ps wd ht others = none := by unfold mkF; rw [if_neg h1, if_neg h2]
              rcases hcase with ⟨_, _, _, hm', _⟩ | ⟨o, _, rfl, rfl⟩
              · rw [hm] at hm'; cases hm'
              · have e1 : ((ps ++ [(⟨100 + (0 + (i : Int)), wd, ht, o⟩ : Pic)]).length : Int) = (ps.length : Int) + 1 := by rw [List.length_append]; rfl
                have e2 := pxs_app ps ⟨100 + (0 + (i : Int)), wd, ht, o⟩
                walk_at "gf"
                walk_at "go"
                exact ⟨U', .non, .non, ps ++ [⟨100 + (0 + (i : Int)), wd, ht, o⟩], by rw [e1, e2]; rfl, vU', s9, B9, .inr ⟨o, hm, rfl, rfl, rfl⟩⟩
            · intro h2
              have hm : mkF ps wd ht others = some ((3 : Int), ("too many pixels" : Str)) := by unfold mkF; rw [if_neg h1, if_pos h2]
              rcases hcase with ⟨t, c, w', hm', rfl, rfl, et⟩ | ⟨o, hm', _⟩
              · rw [hm] at hm'
                obtain ⟨rfl, rfl⟩ := Prod.mk.inj (Option.some.inj hm')
                walk_at "gf"
                rename_i td htd
                have P5 := Pu.new (o := .tup [.int 2, .int 3, .str "too many pixels"]) s9 htd
                exact ⟨_, _, _, _, rfl, vU'.trans P5.vv, P5.vh, B9.pu P5, .inl ⟨t, td, _, _, rfl, rfl, rfl, P5.vv _ _ et, upd_same, by decide +kernel⟩⟩
              · rw [hm] at hm'; cases hm'
          · intro h1
            have hm : mkF ps wd ht others = some ((1 : Int), ("bad size" : Str)) := by unfold mkF; rw [if_pos h1]
            rcases hcase with ⟨t, c, w', hm', rfl, rfl, et⟩ | ⟨o, hm', _⟩
            · rw [hm] at hm'
              obtain ⟨rfl, rfl⟩ := Prod.mk.inj (Option.some.inj hm')
              walk_at "gf"
              rename_i td htd
              have P5 := Pu.new (o := .tup [.int 2, .int 1, .str "bad size"]) s9 htd
              exact ⟨_, _, _, _, rfl, vU'.trans P5.vv, P5.vh, B9.pu P5, .inl ⟨t, td, _, _, rfl, rfl, rfl, P5.vv _ _ et, upd_same, by decide +kernel⟩⟩
            · rw [hm] at hm'; cases hm'
        · clear hcase B9 s9 vU vU'
          rintro σ' H10 ⟨U', told, due, ps', rfl, vU, s10, B10, hcase⟩
          obtain ⟨dxo, eo⟩ := B10.ob
          have eoH := s10 _ _ eo
          rcases hcase with ⟨t, t2, c, w', rfl, rfl, rfl, et, et2, hw⟩ | ⟨o, hm, rfl, rfl, rfl⟩
          · have sh : Sh 1 (PyData.tuple [.int 2, .int c, .str w']) := sh_tuple fun d hd => by
              simp only [List.mem_cons, List.not_mem_nil, or_false] at hd
              rcases hd with rfl | rfl | rfl
              · exact sh_int _
              · exact sh_int _
              · exact sh_str hw
            have d1 : Dp K H10 (.ref t) (.tuple [.int 2, .int c, .str w']) := (Dp.tup (SqT.of et) (.cons (.int _) (.cons (.int _) (.cons (.str _) .nil)))).to s10
            have d2 : Dp K H10 (.ref t2) (.tuple [.int 2, .int c, .str w']) := (Dp.tup (SqT.of et2) (.cons (.int _) (.cons (.int _) (.cons (.str _) .nil)))).to s10
            walk_at "gf"
            refine t_ne d1 d2 sh.shaped sh.shaped ?_
            rw [sh.self]
            refine ⟨false, rfl, if_f rfl ?_⟩
            walk_at "gf"
            walk_at "go"
            refine ⟨bo, pd, rd, ps', [], U', rfl, s10, B10, by omega, fun U2 H2 P2 => ?_⟩
            have eo2 := P2.vh _ _ (P2.vv _ _ eo)
            walk_at "gf"
            refine iteNe (fun c => absurd rfl c) (fun _ => ?_)
            walk_at "gf"
            walk_at "go"
            refine ⟨bo, pd, rd, ps', [], _, U2, rfl, P2.vh, B10.pu P2, fun _ => ?_, fun p hf => absurd hf (by rw [findP_none fun p hp => by have := hnm p hp; omega]; simp)⟩
            walk_at "gf"
            exact ⟨U2, pd, rd, ps', _, _, _, _, _, _, _, rfl, vU.trans P2.vv, P2.vh, B10.pu P2, hl, hpx, fun p hp => by have := hnm p hp; omega⟩
          · have d1 : Dp K H10 .non .none := .non
            have hlast : findP (ps ++ [⟨100 + (0 + (i : Int)), wd, ht, o⟩]) (100 + (0 + (i : Int))) = some ⟨100 + (0 + (i : Int)), wd, ht, o⟩ := findP_last (p := ⟨100 + (0 + (i : Int)), wd, ht, o⟩) fun q hq => by have := hnm q hq; show q.n < 100 + (0 + (i : Int)); omega
            have hcnt : ¬ (32 ≤ ps.length ∨ 16384 < pxs ps + others + wd * ht) := fun z => by
              unfold mkF at hm
              by_cases c : ¬ (1 ≤ wd ∧ wd ≤ 128) ∨ ¬ (1 ≤ ht ∧ ht ≤ 128)
              · rw [if_pos c] at hm; cases hm
              · rw [if_neg c, if_pos z] at hm; cases hm
            walk_at "gf"
            refine t_ne d1 d1 sh_none.shaped sh_none.shaped ?_
            rw [sh_none.self]
            refine ⟨false, rfl, if_f rfl ?_⟩
            walk_at "gf"
            walk_at "go"
            have hl1 : (ps ++ [(⟨100 + (0 + (i : Int)), wd, ht, o⟩ : Pic)]).length = ps.length + 1 := by rw [List.length_append]; rfl
            have e2 : pxs (ps ++ [⟨100 + (0 + (i : Int)), wd, ht, o⟩]) = pxs ps + wd * ht := pxs_app ps _
            refine ⟨bo, pd, rd, _, [], U', rfl, s10, B10, by omega, fun U2 H2 P2 => ?_⟩
            have eo2 := P2.vh _ _ (P2.vv _ _ eo)
            walk_at "gf"
            refine iteNe (fun c => absurd rfl c) (fun _ => ?_)
            walk_at "gf"
            walk_at "go"
            refine ⟨bo, pd, rd, _, [], _, U2, rfl, P2.vh, B10.pu P2, fun hf => (by rw [hlast] at hf; cases hf), fun p _ oo U3 H3 P3 => ?_⟩
            walk_at "gf"
            have P23 := P2.trans P3
            refine ⟨U3, pd, rd, _, _, _, _, _, _, _, _, rfl, vU.trans P23.vv, P23.vh, B10.pu P23, by omega, by rw [e2]; omega, fun p hp => ?_⟩
            rcases List.mem_append.mp hp with hp | hp
            · have := hnm p hp; omega
            · obtain rfl := List.mem_singleton.mp hp
              show 100 + (0 + (i : Int)) < 100 + ((i + 1 : Nat) : Int); omega
    · clear B1 s1 sH hs1
      rintro σ H5 ⟨U, pd, rd, ps, v4, v5, v6, v7, v8, v9, v10, rfl, vH, s5, B, hl, hpx, hnm⟩
      walk_at "gf"
      refine ⟨by omega, by omega, for_range (lo := 0) (fun j σ H' => ∃ (U' : Hp) (ps' : List Pic) (m : Nat) (v4 v5 v6 v7 v8 v9 v10 : Option V), σ = [some (.ref a), some (.ref bo), some (.int (ps.length : Int)), some (.int (pxs ps)), v4, v5, v6, v7, v8, v9, v10] ∧ Same H U' ∧ Same U' H' ∧ BufAt A K U' H' bo pd rd ps' [] ∧ m ≤ j ∧ ps'.length = ps.length + m ∧ pxs ps' = pxs ps + m ∧ (m = j ∨ 32 ≤ ps.length + m ∨ 16384 ≤ pxs ps + m) ∧ ∀ p ∈ ps', p.n < 500 + (j : Int))
        ⟨U, ps, 0, _, _, _, _, _, _, _, rfl, vH, s5, B, Nat.le_refl _, by omega, by omega, .inl rfl, fun p hp => by have := hnm p hp; split at this <;> omega⟩ ?_ ?_⟩
      · clear B s5 vH
        rintro j σ H6 hj ⟨U', ps', m, v4, v5, v6, v7, v8, v9, v10, rfl, vH, s6, B, hm, hln, hpn, hst, hnm2⟩
        walk_at "gf"
        walk_at "go"
        walk_at "gf"
        walk_at "go"
        rename_i la hla
        have P4 := Pu.skip (o := .lst [.int (500 + (0 + (j : Int))), .int 1, .int 1]) s6 hla
        have B4 := B.pu P4
        have s9 := P4.vh
        have ela : (upd H6 la (.lst [.int (500 + (0 + (j : Int))), .int 1, .int 1])) la = some (.lst [.int (500 + (0 + (j : Int))), .int 1, .int 1]) := upd_same
        have mk : ∀ c w', mkF ps' 1 1 0 = some (c, w') → c = 3 ∧ w' = "too many pixels" ∧ (32 ≤ ps'.length ∨ 16384 < pxs ps' + 0 + 1 * 1) := fun c w' h => by
          unfold mkF at h
          rw [if_neg (by omega)] at h
          by_cases c : 32 ≤ ps'.length ∨ 16384 < pxs ps' + 0 + 1 * 1
          · rw [if_pos c] at h
            obtain ⟨rfl, rfl⟩ := Prod.mk.inj (Option.some.inj h)
            exact ⟨rfl, rfl, c⟩
          · rw [if_neg c] at h; cases h
        have mk0 : mkF ps' 1 1 0 = none → ¬ (32 ≤ ps'.length ∨ 16384 < pxs ps' + 0 + 1 * 1) := fun h z => by
          unfold mkF at h
          rw [if_neg (by omega), if_pos z] at h
          cases h
        refine ⟨bo, la, pd, rd, 2, 0, "memory", "buffer", _, ps', [], U', rfl, s9, B4, by omega, by decide, ela, .inl ⟨rfl, rfl, _, 1, 1, rfl, findP_none (fun p hp => by have := hnm2 p hp; omega), fun c w' h U2 H2 t v2 s2 b et => ?_, fun h o U2 H2 v2 s2 b => ?_⟩⟩
        · obtain ⟨rfl, rfl, hc⟩ := mk c w' h
          walk_at "gf"
          apply useJ
          · intro rr
            refine iteP (fun c1 => ?_) (fun c1 => ?_)
            · walk_at "gf"
              exact iteP (fun c2 => absurd c2 (by omega)) (fun c2 => rr)
            · exact rr
          · walk_at "gf"
            apply useJ
            · intro bb
              refine iteP (fun c1 => ?_) (fun c1 => ?_)
              · exact bb
              · walk_at "gf"
                exact iteP (fun _ => bb) (fun c2 => absurd c2 (by omega))
            · walk_at "gf"
              rename_i td htd
              have P5 := Pu.new (o := .tup [.int 2, .int 3, .str "too many pixels"]) s2 htd
              have sh : Sh 1 (PyData.tuple [.int 2, .int 3, .str "too many pixels"]) := sh_tuple fun d hd => by
                simp only [List.mem_cons, List.not_mem_nil, or_false] at hd
                rcases hd with rfl | rfl | rfl
                · exact sh_int _
                · exact sh_int _
                · exact sh_str (by decide +kernel)
              have dd : ∀ {x : Addr} {Hx : Hp}, Hx x = some (.tup [.int 2, .int 3, .str "too many pixels"]) → Dp K Hx (.ref x) (.tuple [.int 2, .int 3, .str "too many pixels"]) := fun e => Dp.tup (SqT.of e) (.cons (.int _) (.cons (.int _) (.cons (.str _) .nil)))
              refine t_ne (dd (P5.vh _ _ (P5.vv _ _ et))) (dd upd_same) sh.shaped sh.shaped ?_
              rw [sh.self]
              refine ⟨false, rfl, if_f rfl ?_⟩
              exact ⟨_, ps', m, _, _, _, _, _, _, _, rfl, vH.trans (v2.trans P5.vv), P5.vh, b.pu P5, by omega, hln, hpn, .inr (by omega), fun p hp => by have := hnm2 p hp; omega⟩
        · have hc := mk0 h
          walk_at "gf"
          refine iteP (fun c1 => ?_) (fun c1 => absurd c1 (by omega))
          walk_at "gf"
          refine iteP (fun c2 => ?_) (fun c2 => absurd c2 (by omega))
          walk_at "gf"
          refine iteP (fun c3 => absurd c3 (by omega)) (fun c3 => ?_)
          walk_at "gf"
          refine iteP (fun c4 => absurd c4 (by omega)) (fun c4 => ?_)
          have hl1 : (ps' ++ [(⟨500 + (0 + (j : Int)), 1, 1, o⟩ : Pic)]).length = ps'.length + 1 := by rw [List.length_append]; rfl
          have e2 : pxs (ps' ++ [⟨500 + (0 + (j : Int)), 1, 1, o⟩]) = pxs ps' + 1 * 1 := pxs_app ps' _
          refine ⟨U2, ps' ++ [(⟨500 + (0 + (j : Int)), 1, 1, o⟩ : Pic)], m + 1, _, _, _, _, _, _, _, rfl, vH.trans v2, s2, b, by omega, by omega, by rw [e2]; omega, .inl (by omega), fun p hp => ?_⟩
          rcases List.mem_append.mp hp with hp | hp
          · have := hnm2 p hp; omega
          · obtain rfl := List.mem_singleton.mp hp
            show 500 + (0 + (j : Int)) < 500 + ((j + 1 : Nat) : Int); omega
      · rintro σ H6 ⟨U', ps', m, w4, w5, w6, w7, w8, w9, w10, rfl, vH', s6, _⟩
        walk_at "gf"
        exact q.go _ (vH'.trans s6)
/-! ### the law's regions as data -/
def X15 : List Int := [0, 1, 4, 7, 8, 11, 8192, 8199, 4096, 4097, 4100, 12288, -4096, -4095, -4092]
def Y6 : List Int := [-4096, -4091, 3, 8, 4096, 4101]
def yCov (y : Int) : Prop := (-4096 ≤ y ∧ y < -4091) ∨ (3 ≤ y ∧ y < 8) ∨ (4096 ≤ y ∧ y < 4101)
structure RgB (R : List Band) : Prop where
  r : RegIn X15 Y6 R
  c : ∀ x y, hasSq R x y = true → yCov y
theorem RgB.nil : RgB [] := ⟨RegIn.nil _ _, fun x y h => by cases h⟩
theorem rect_sq {x y wd ht i j : Int} (h : hasSq (rectReg x y wd ht) i j = true) : y ≤ j ∧ j < y + ht := by
  unfold rectReg at h
  split at h
  · cases h
  · unfold hasSq at h
    by_cases c : y ≤ j ∧ j < y + ht
    · exact c
    · rw [if_neg c] at h; cases h
theorem near_edges {x wd : Int} (hx : x = 0 ∨ x = 4096 ∨ x = -4096 ∨ x = 7) (hw : wd = 1 ∨ wd = 0 ∨ wd = 8192 ∨ wd = 4) : x ∈ X15 ∧ x + wd ∈ X15 := by
  unfold X15
  rcases hx with rfl | rfl | rfl | rfl <;> rcases hw with rfl | rfl | rfl | rfl <;> exact ⟨by decide, by decide⟩
theorem near_y {y : Int} (hy : y = 3 ∨ y = 4096 ∨ y = -4096) : (y ∈ Y6 ∧ y + 5 ∈ Y6) ∧ ∀ j, y ≤ j → j < y + 5 → yCov j := by
  unfold Y6 yCov
  rcases hy with rfl | rfl | rfl
  · exact ⟨⟨by decide, by decide⟩, fun j h1 h2 => by omega⟩
  · exact ⟨⟨by decide, by decide⟩, fun j h1 h2 => by omega⟩
  · exact ⟨⟨by decide, by decide⟩, fun j h1 h2 => by omega⟩
theorem RgB.chg {R : List Band} (h : RgB R) (m : Str) {x y wd : Int} (hx : x ∈ X15 ∧ x + wd ∈ X15) (hy : (y ∈ Y6 ∧ y + 5 ∈ Y6) ∧ ∀ j, y ≤ j → j < y + 5 → yCov j) : RgB (chgR m R x y wd 5) := by
  have h1 : RegIn X15 Y6 (rectReg x y wd 5) := rect_in hx hy.1
  unfold chgR
  split
  · refine ⟨h.r.cmb or h1, fun i j hs => ?_⟩
    rw [cmbR_sq or rfl, Bool.or_eq_true] at hs
    rcases hs with hs | hs
    · exact h.c i j hs
    · have := rect_sq hs; exact hy.2 j this.1 this.2
  · refine ⟨h.r.cmb _ h1, fun i j hs => ?_⟩
    rw [cmbR_sq (fun a b => a && !b) rfl, Bool.and_eq_true] at hs
    exact h.c i j hs.1
theorem band_sq {R : List Band} (u : CanU R) {b : Band} (hb : b ∈ R) : ∃ x, hasSq R x b.1 = true := by
  obtain ⟨s, r, hs⟩ : ∃ s r, b.2.2 = s :: r := by
    cases e : b.2.2 with
    | nil => exact absurd e (u.ne b hb)
    | cons s r => exact ⟨s, r, rfl⟩
  have hm : s ∈ b.2.2 := by rw [hs]; exact List.mem_cons_self
  have hp := (u.gap b hb).pos s hm
  have hbp : b.1 < b.2.1 := u.rows.pos b hb
  refine ⟨s.1, ?_⟩
  rw [hasSq_any u.rows, List.any_eq_true]
  refine ⟨b, hb, ?_⟩
  unfold covB
  rw [Bool.and_eq_true, decide_eq_true_eq]
  exact ⟨⟨Int.le_refl _, hbp⟩, List.any_eq_true.mpr ⟨s, hm, decide_eq_true ⟨Int.le_refl _, hp⟩⟩⟩
theorem RgB.few {R : List Band} (h : RgB R) : (R.flatMap rectsOf).length ≤ 32 := by
  have h3 : R.length ≤ 3 := rows_len (Y := [-4096, 3, 4096]) h.r.u.rows fun b hb => by
    obtain ⟨x, hx⟩ := band_sq h.r.u hb
    have hc := h.c x _ hx
    have hy := (h.r.ys b hb).1
    unfold Y6 at hy
    unfold yCov at hc
    simp only [List.mem_cons, List.not_mem_nil, or_false] at hy ⊢
    show b.1 = _ ∨ b.1 = _ ∨ b.1 = _
    omega
  have h7 : ∀ b ∈ R, b.2.2.length ≤ 7 := fun b hb => by
    have := half_len (h.r.u.gap b hb).pos (h.r.u.gap b hb).gap (h.r.xs b hb)
    have e : X15.length = 15 := rfl
    omega
  have hh : ∀ l : List Band, (∀ b ∈ l, b.2.2.length ≤ 7) → (l.flatMap rectsOf).length ≤ 7 * l.length := fun l => by
    induction l with
    | nil => intro _; exact Nat.le_refl _
    | cons b l ih =>
      intro hl
      have i1 := ih fun q hq => hl q (List.mem_cons_of_mem _ hq)
      have i2 := hl b List.mem_cons_self
      have i3 : (rectsOf b).length = b.2.2.length := by unfold rectsOf; rw [List.length_map]
      rw [List.flatMap_cons, List.length_append, List.length_cons, i3]
      omega
  have := hh R h7
  omega
/-! ### squares in a row, two apart -/
def spL (j : Nat) : Span := (3 * (j : Int), 3 * (j : Int) + 1)
def lineS : List Nat → List Band
  | [] => []
  | j :: r => [(0, 1, (j :: r).map spL)]
theorem lineS_cons {js : List Nat} (h : js ≠ []) : lineS js = [(0, 1, js.map spL)] := by
  cases js with
  | nil => exact absurd rfl h
  | cons j r => rfl
theorem line_u {js : List Nat} (h : js.Pairwise (· < ·)) : CanU (lineS js) := by
  cases js with
  | nil => exact (RegIn.nil [] []).u
  | cons j r =>
    refine ⟨⟨fun q hq => ?_, List.pairwise_singleton _ _⟩, fun b hb => ?_, fun i p q hp hq => ?_, fun b hb => ?_⟩
    · obtain rfl := List.mem_singleton.mp hq
      show (0 : Int) < 1; decide
    · obtain rfl := List.mem_singleton.mp hb
      refine ⟨fun s hs => ?_, List.pairwise_map.mpr (h.imp fun {a b} z => by show 3 * (a : Int) + 1 < 3 * (b : Int); omega)⟩
      obtain ⟨k, _, rfl⟩ := List.mem_map.mp hs
      show 3 * (k : Int) < 3 * (k : Int) + 1; omega
    · cases i with
      | zero => cases hq
      | succ i => cases hp
    · obtain rfl := List.mem_singleton.mp hb
      exact fun z => by cases z
theorem line_sq (js : List Nat) (x y : Int) : hasSq (lineS js) x y = (decide (0 ≤ y ∧ y < 1) && js.any fun j => decide (3 * (j : Int) ≤ x ∧ x < 3 * (j : Int) + 1)) := by
  cases js with
  | nil => rw [List.any_nil, Bool.and_false]; rfl
  | cons j r =>
    show (if (0 : Int) ≤ y ∧ y < 1 then ((j :: r).map spL).any (fun s => decide (s.1 ≤ x ∧ x < s.2)) else hasSq [] x y) = _
    rw [List.any_map]
    by_cases c : (0 : Int) ≤ y ∧ y < 1
    · rw [if_pos c, decide_eq_true c, Bool.true_and]; rfl
    · rw [if_neg c, decide_eq_false c, Bool.false_and]; rfl
theorem rect1_sq (k : Nat) (x y : Int) : hasSq (rectReg (3 * (k : Int)) 0 1 1) x y = (decide (0 ≤ y ∧ y < 1) && decide (3 * (k : Int) ≤ x ∧ x < 3 * (k : Int) + 1)) := by
  unfold rectReg
  rw [if_neg (by omega)]
  show (if (0 : Int) ≤ y ∧ y < 0 + 1 then [(3 * (k : Int), 3 * (k : Int) + 1)].any (fun s => decide (s.1 ≤ x ∧ x < s.2)) else hasSq [] x y) = _
  by_cases c : (0 : Int) ≤ y ∧ y < 1
  · rw [if_pos (by omega), decide_eq_true c, Bool.true_and, List.any_cons, List.any_nil, Bool.or_false]
  · rw [if_neg (by omega), decide_eq_false c, Bool.false_and]; rfl
theorem line_add {js : List Nat} (h : js.Pairwise (· < ·)) {k : Nat} (hk : ∀ j ∈ js, j < k) : chgR "add" (lineS js) (3 * (k : Int)) 0 1 1 = lineS (js ++ [k]) := by
  unfold chgR
  rw [if_pos rfl]
  have h2 : (js ++ [k]).Pairwise (· < ·) := List.pairwise_append.mpr ⟨h, List.pairwise_singleton _ _, fun a ha b hb => by obtain rfl := List.mem_singleton.mp hb; exact hk a ha⟩
  refine one_form (cmbR_u or _ _) (line_u h2) fun x y => ?_
  rw [cmbR_sq or rfl, line_sq, line_sq, rect1_sq, List.any_append, List.any_cons, List.any_nil, Bool.or_false, Bool.and_or_distrib_left]
theorem line_rects (js : List Nat) : ((lineS js).flatMap rectsOf).length = js.length := by
  cases js with
  | nil => rfl
  | cons j r =>
    show ((rectsOf (0, 1, (j :: r).map spL)) ++ []).length = _
    rw [List.append_nil]
    unfold rectsOf
    rw [List.length_map, List.length_map]
theorem line_edges {js : List Nat} (h : js.Pairwise (· < ·)) (hl : js.length ≤ 32) (k : Nat) : EdgeOk (3 * (k : Int)) 0 1 1 (lineS js) := by
  refine ⟨js.flatMap (fun j : Nat => [3 * (j : Int), 3 * (j : Int) + 1]) ++ [3 * (k : Int), 3 * (k : Int) + 1], [0, 1], ⟨line_u h, fun b hb => ?_, fun b hb s hs => ?_⟩, ⟨?_, by decide⟩, ⟨by simp, by simp⟩, by decide, by decide⟩
  · cases js with
    | nil => cases hb
    | cons j r =>
      obtain rfl := List.mem_singleton.mp hb
      exact ⟨by show (0 : Int) ∈ [0, 1]; decide, by show (1 : Int) ∈ [0, 1]; decide⟩
  · cases js with
    | nil => cases hb
    | cons j r =>
      obtain rfl := List.mem_singleton.mp hb
      obtain ⟨q, hq, rfl⟩ := List.mem_map.mp hs
      exact ⟨List.mem_append_left _ (List.mem_flatMap.mpr ⟨q, hq, by show 3 * (q : Int) ∈ _; simp⟩), List.mem_append_left _ (List.mem_flatMap.mpr ⟨q, hq, by show 3 * (q : Int) + 1 ∈ _; simp⟩)⟩
  · have : ∀ l : List Nat, (l.flatMap fun j : Nat => [3 * (j : Int), 3 * (j : Int) + 1]).length = 2 * l.length := fun l => by
      induction l with
      | nil => rfl
      | cons a t ih => rw [List.flatMap_cons, List.length_append, ih]; show 2 + 2 * t.length = 2 * (t.length + 1); omega
    rw [List.length_append, this]
    show 2 * js.length + 2 < 400
    omega
/-! ### the law's regions -/
theorem findR_cons (r : Rgn) (rs : List Rgn) (n : Int) : findR (r :: rs) n = if r.n = n then some r else findR rs n := by
  unfold findR
  by_cases c : r.n = n
  · rw [List.find?_cons_of_pos (by simp [c]), if_pos c]
  · rw [List.find?_cons_of_neg (by simp [c]), if_neg c]
theorem findR_map (n0 : Int) (R' : List Band) (v : V) : ∀ (rs : List Rgn) (n : Int), findR (rs.map fun q => if q.n = n0 then (⟨n0, R', v⟩ : Rgn) else q) n = if n = n0 then (findR rs n0).map (fun _ => (⟨n0, R', v⟩ : Rgn)) else findR rs n
  | [], n => by
    by_cases c : n = n0
    · rw [if_pos c]; rfl
    · rw [if_neg c]; rfl
  | r :: rs, n => by
    have ih := findR_map n0 R' v rs n
    rw [List.map_cons, findR_cons, ih, findR_cons, findR_cons]
    by_cases c : r.n = n0 <;> by_cases c2 : n = n0 <;> by_cases c3 : r.n = n <;> simp_all
theorem findR_app (p : Rgn) : ∀ (rs : List Rgn) (n : Int), findR (rs ++ [p]) n = match findR rs n with
    | some g => some g
    | none => if p.n = n then some p else none
  | [], n => by rw [List.nil_append, findR_cons]; rfl
  | r :: rs, n => by
    rw [List.cons_append, findR_cons, findR_cons, findR_app p rs n]
    by_cases c : r.n = n
    · rw [if_pos c, if_pos c]
    · rw [if_neg c, if_neg c]
theorem findR_none {rs : List Rgn} {n : Int} (h : ∀ r ∈ rs, r.n < n) : findR rs n = none := List.find?_eq_none.mpr fun r hr => by
  have := h r hr
  simp only [decide_eq_true_eq]
  omega
theorem findR_n {rs : List Rgn} {n : Int} {g : Rgn} (h : findR rs n = some g) : g.n = n := by
  have := List.find?_some h
  simpa using this
theorem findR_drop (n0 : Int) : ∀ rs : List Rgn, findR (rs.filter fun q => decide (q.n ≠ n0)) n0 = none := fun rs => List.find?_eq_none.mpr fun r hr => by
  have := (List.mem_filter.mp hr).2
  simpa using this
theorem pickX {j : Nat} (h : j < 6) : ∃ z : Int, ([V.int 0, .int 4096, .int 4097, .int (-4096), .int (-4097), .int 7] : List V)[j]? = some (.int z) ∧ (z = 0 ∨ z = 4096 ∨ z = -4096 ∨ z = 7 ∨ ¬ near1 z) := by
  have h6 : j = 0 ∨ j = 1 ∨ j = 2 ∨ j = 3 ∨ j = 4 ∨ j = 5 := by omega
  unfold near1
  rcases h6 with rfl | rfl | rfl | rfl | rfl | rfl
  all_goals exact ⟨_, rfl, by omega⟩
theorem pickY {j : Nat} (h : j < 6) : ∃ z : Int, ([V.int 3, .int 4096, .int 4097, .int (-4096), .int (-4097), .int 3] : List V)[j]? = some (.int z) ∧ (z = 3 ∨ z = 4096 ∨ z = -4096 ∨ ¬ near1 z) := by
  have h6 : j = 0 ∨ j = 1 ∨ j = 2 ∨ j = 3 ∨ j = 4 ∨ j = 5 := by omega
  unfold near1
  rcases h6 with rfl | rfl | rfl | rfl | rfl | rfl
  all_goals exact ⟨_, rfl, by omega⟩
theorem pickW {j : Nat} (h : j < 5) : ∃ z : Int, ([V.int 1, .int 0, .int 8192, .int 8193, .int 4] : List V)[j]? = some (.int z) ∧ (z = 1 ∨ z = 0 ∨ z = 8192 ∨ z = 4 ∨ 8192 < z) := by
  have h6 : j = 0 ∨ j = 1 ∨ j = 2 ∨ j = 3 ∨ j = 4 := by omega
  rcases h6 with rfl | rfl | rfl | rfl | rfl
  all_goals exact ⟨_, rfl, by omega⟩
theorem pickN {j : Nat} (h : j < 2) : ∃ z : Str, ([V.str "add", .str "subtract"] : List V)[j]? = some (.str z) ∧ z ≠ Str.ofString "destroy" := by
  have h6 : j = 0 ∨ j = 1 := by omega
  rcases h6 with rfl | rfl
  · exact ⟨_, rfl, by decide +kernel⟩
  · exact ⟨_, rfl, by decide +kernel⟩
def toldD (n c : Int) (wd : Str) : PyData := .tuple [.int n, .int c, .str wd]
theorem sh_told {n c : Int} {wd : Str} (h : PyData.strOk wd = true) : Sh 1 (toldD n c wd) := sh_tuple fun d hd => by
  simp only [List.mem_cons, List.not_mem_nil, or_false] at hd
  rcases hd with rfl | rfl | rfl
  · exact sh_int _
  · exact sh_int _
  · exact sh_str h
theorem dp_told {K : PySem.W.Frag} {H : Hp} {t : Addr} {n c : Int} {wd : Str} (e : H t = some (.tup [.int n, .int c, .str wd])) : Dp K H (.ref t) (toldD n c wd) := .tup (SqT.of e) (.cons (.int _) (.cons (.int _) (.cons (.str _) .nil)))
def sp__law_regions (K : PySem.W.Frag) : Sp := fun vs H Q _ => ∃ (a : Addr) (ns : List Int), vs = [.ref a] ∧ SqL K H a (ns.map V.int) ∧ ns.length ≤ 63 ∧ ∀ H', Same H H' → Q (.bl true) H'
theorem sc__law_regions : FnScope ["script", "buffers", "k", "told", "row", "number", "x", "y", "width", "name", "before", "fits"] ["script"] (defScope s__law_regions) := ⟨rfl, rfl, rfl, by decide +kernel, rfl, by decide +kernel, by decide +kernel⟩
set_option maxHeartbeats 4000000 in
theorem ok__law_regions (T : Txt0 P K mg A) : FnOk P w K mg base CX0 10 A.f_law_regions A.d_law_regions ["script"] (sp__law_regions K) := by
  refine T.F_law_regions.ok sc__law_regions (fun vs H Q E h => ?_) (fun cdv Ar outer st H vs Q E hr h => ?_)
  · obtain ⟨_, _, rfl, _⟩ := h
    rfl
  · obtain ⟨a, ns, rfl, hS, hlen, q⟩ := h
    replace q := Hid.mk q
    refine ⟨_, (pss_cons (ps_set (i := 1) sc__law_regions.nd rfl (Or.inl rfl) (pe_make0 T.MBuffers (ok_Buffers___init__ T) (hr.mono (by decide)) rfl T.gBuffers T.bBuffers___init__ .nil pass0))
      (pss_cons (ps_for PassesOwn.never rfl (pi_range1 (by rfl) T.range (pa_cons pe_int pa_nil)) (pg_name (i := 2) sc__law_regions.nd rfl (Or.inl rfl))
      (pss_cons (ps_set (i := 3) sc__law_regions.nd rfl (Or.inl rfl) (pe_call (ok__law_ask T) (hr.mono (by decide)) rfl T.g_law_ask T.k_law_ask T.b_law_ask .nil pass0 (pa_cons (pv 1) (pa_cons pe_int (pa_cons pe_str (pa_cons pe_str (pa_cons (pe_lst (pa_cons (pe_op op_add pe_int (pv 2)) pa_nil)) (pa_cons pe_int pa_nil))))))))
      (pss_one (ps_if (pt_cmpR (op_neD hr.units) (pv 3) (pe_ix (r := rIxT K) ix_tup (pe_tup (pa_cons pe_non (pa_cons (pe_tup (pa_cons pe_int (pa_cons pe_int (pa_cons pe_str pa_nil)))) pa_nil))) (pe_callTy call_int1 (by rfl) T.int (by decide +kernel) (pa_cons (pe_cmpR op_ge (pv 2) pe_int (nomark _)) pa_nil)) (fun _ _ => rfl)) (nomark _))
      (pss_one (ps_ret pe_bl))
      pss_nil))))
      (pss_cons (ps_for PassesOwn.never rfl (pi_range1 (by rfl) T.range (pa_cons (pe_op op_add (pe_callB (call_min2 rfl) (by rfl) T.min (by decide +kernel) (pa_cons (pe_callB call_len_seq (by rfl) T.len PySem.boot_len (pa_cons (pv 0) pa_nil)) (pa_cons pe_int pa_nil))) pe_int) pa_nil)) (pg_name (i := 2) sc__law_regions.nd rfl (Or.inl rfl))
      (pss_cons (ps_set (i := 4) sc__law_regions.nd rfl (Or.inl rfl) (pe_callTy call_int1 (by rfl) T.int (by decide +kernel) (pa_cons (pe_call (ok__law_row T) (hr.mono (by decide)) rfl T.g_law_row T.k_law_row T.b_law_row .nil pass0 (pa_cons (pv 0) (pa_cons (pe_op op_add pe_int (pv 2)) pa_nil))) pa_nil)))
      (pss_cons (ps_set (i := 5) sc__law_regions.nd rfl (Or.inl rfl) (pe_op op_add pe_int (pe_op op_mod (pv 4) pe_int)))
      (pss_cons (ps_set (i := 6) sc__law_regions.nd rfl (Or.inl rfl) (pe_ix (r := rIxT K) ix_tup (pe_tup (pa_cons pe_int (pa_cons pe_int (pa_cons pe_int (pa_cons (pe_un un_neg pe_int) (pa_cons (pe_un un_neg pe_int) (pa_cons pe_int pa_nil))))))) (pe_op op_mod (pe_op op_fdiv (pv 4) pe_int) pe_int) (fun _ _ => rfl)))
      (pss_cons (ps_set (i := 7) sc__law_regions.nd rfl (Or.inl rfl) (pe_ix (r := rIxT K) ix_tup (pe_tup (pa_cons pe_int (pa_cons pe_int (pa_cons pe_int (pa_cons (pe_un un_neg pe_int) (pa_cons (pe_un un_neg pe_int) (pa_cons pe_int pa_nil))))))) (pe_op op_mod (pe_op op_fdiv (pv 4) pe_int) pe_int) (fun _ _ => rfl)))
      (pss_cons (ps_set (i := 8) sc__law_regions.nd rfl (Or.inl rfl) (pe_ix (r := rIxT K) ix_tup (pe_tup (pa_cons pe_int (pa_cons pe_int (pa_cons pe_int (pa_cons pe_int (pa_cons pe_int pa_nil)))))) (pe_op op_mod (pe_op op_fdiv (pv 4) pe_int) pe_int) (fun _ _ => rfl)))
      (pss_cons (ps_set (i := 9) sc__law_regions.nd rfl (Or.inl rfl) (pe_ix (r := rIxT K) ix_tup (pe_tup (pa_cons pe_str (pa_cons pe_str pa_nil))) (pe_op op_mod (pe_op op_fdiv (pv 4) pe_int) pe_int) (fun _ _ => rfl)))
      (pss_cons (ps_set (i := 10) sc__law_regions.nd rfl (Or.inl rfl) (pe_callTy call_list_of (by rfl) T.list (by decide +kernel) (pa_cons (pe_meth (pv 1) T.clBuffers T.mBuffers_region_of (ok_Buffers_region_of T) (hr.mono (by decide)) T.bBuffers_region_of .nil pass0 (pa_cons (pv 5) pa_nil)) pa_nil)))
      (C8.pss_cut (ps_set (i := 3) sc__law_regions.nd rfl (Or.inl rfl) (pe_call (ok__law_ask T) (hr.mono (by decide)) rfl T.g_law_ask T.k_law_ask T.b_law_ask .nil pass0 (pa_cons (pv 1) (pa_cons (pv 5) (pa_cons pe_str (pa_cons (pv 9) (pa_cons (pe_lst (pa_cons (pv 6) (pa_cons (pv 7) (pa_cons (pv 8) (pa_cons pe_int pa_nil))))) (pa_cons pe_int pa_nil))))))))
      (C8.pss_cut (ps_set (i := 11) sc__law_regions.nd rfl (Or.inl rfl) (pe_and (pe_cmpR op_le (pe_callB call_abs (by rfl) T.abs (by decide +kernel) (pa_cons (pv 6) pa_nil)) pe_int (nomark _)) (pe_and (pe_cmpR op_le (pe_callB call_abs (by rfl) T.abs (by decide +kernel) (pa_cons (pv 7) pa_nil)) pe_int (nomark _)) (pe_one (pe_cmpR op_le (pv 8) pe_int (nomark _))))))
      (pss_cons (ps_if (PW.pt (pw_or (pt_cmpR op_ne (pv 11) (pe_cmpR op_isN (pv 3) pe_non (nomark _)) (nomark _)) (pw_or1 (PW.pt (pw_and (pt_not (pt_val (pv 11))) (pw_and1 (pt_cmpR (op_neD hr.units) (pv 3) (pe_tup (pa_cons (pv 5) (pa_cons pe_int (pa_cons pe_str pa_nil)))) (nomark _))))))))
      (pss_one (ps_ret pe_bl))
      pss_nil)
      (pss_one (ps_if (PW.pt (pw_and (pt_not (pt_val (pv 11))) (pw_and1 (pt_cmpR (op_neD hr.units) (pe_meth (pv 1) T.clBuffers T.mBuffers_region_of (ok_Buffers_region_of T) (hr.mono (by decide)) T.bBuffers_region_of .nil pass0 (pa_cons (pv 5) pa_nil)) (pv 10) (nomark _)))))
      (pss_one (ps_ret pe_bl))
      pss_nil)))))))))))))
      (pss_cons (ps_for PassesOwn.never rfl (pi_range1 (by rfl) T.range (pa_cons pe_int pa_nil)) (pg_name (i := 2) sc__law_regions.nd rfl (Or.inl rfl))
      (pss_cons (ps_set (i := 3) sc__law_regions.nd rfl (Or.inl rfl) (pe_call (ok__law_ask T) (hr.mono (by decide)) rfl T.g_law_ask T.k_law_ask T.b_law_ask .nil pass0 (pa_cons (pv 1) (pa_cons pe_int (pa_cons pe_str (pa_cons pe_str (pa_cons (pe_lst (pa_cons (pe_op op_mul pe_int (pv 2)) (pa_cons pe_int (pa_cons pe_int (pa_cons pe_int pa_nil))))) (pa_cons pe_int pa_nil))))))))
      (pss_one (ps_if (pt_cmpR (op_neD hr.units) (pv 3) (pe_ix (r := rIxT K) ix_tup (pe_tup (pa_cons pe_non (pa_cons (pe_tup (pa_cons pe_int (pa_cons pe_int (pa_cons pe_str pa_nil)))) pa_nil))) (pe_callTy call_int1 (by rfl) T.int (by decide +kernel) (pa_cons (pe_cmpR op_ge (pv 2) pe_int (nomark _)) pa_nil)) (fun _ _ => rfl)) (nomark _))
      (pss_one (ps_ret pe_bl))
      pss_nil))))
      (pss_one (ps_ret (pe_and (pe_cmpR op_eq (pe_callB call_len_seq (by rfl) T.len PySem.boot_len (pa_cons (pe_call (ok_rectangles T) (hr.mono (by decide)) rfl T.grectangles T.krectangles T.brectangles .nil pass0 (pa_cons (pe_meth (pv 1) T.clBuffers T.mBuffers_region_of (ok_Buffers_region_of T) (hr.mono (by decide)) T.bBuffers_region_of .nil pass0 (pa_cons pe_int pa_nil)) pa_nil)) pa_nil)) pe_int (nomark _)) (pe_and (pe_cmpR op_isN (pe_call (ok__law_ask T) (hr.mono (by decide)) rfl T.g_law_ask T.k_law_ask T.b_law_ask .nil pass0 (pa_cons (pv 1) (pa_cons pe_int (pa_cons pe_str (pa_cons pe_str (pa_cons (pe_lst pa_nil) (pa_cons pe_int pa_nil))))))) pe_non (nomark _)) (pe_one (pe_cmpR op_isN (pe_meth (pv 1) T.clBuffers T.mBuffers_region_of (ok_Buffers_region_of T) (hr.mono (by decide)) T.bBuffers_region_of .nil pass0 (pa_cons pe_int pa_nil)) pe_non (nomark _))))))))))), ?_⟩
    walk_at "gf"
    intro bo dxb hbo hdx ndx
    refine ⟨bo, dxb, rfl, upd_same, fun pd rd H1 hpd hrd e1 ep1 er1 ne1 k1 m1 => ⟨rfl, ?_⟩⟩
    obtain ⟨U1, sH, s1, B1⟩ := buf_start (K := K) hbo hdx hpd hrd e1 ep1 er1 ne1 k1
    clear hbo hdx ndx hpd hrd e1 ep1 er1 ne1 k1 m1
    walk_at "gf"
    walk_at "go"
    refine ⟨by decide, by decide, for_range (lo := 0) (fun i σ H' => ∃ (U : Hp) (rs : List Rgn) (v2 v3 v4 v5 v6 v7 v8 v9 v10 v11 : Option V), σ = [some (.ref a), some (.ref bo), v2, v3, v4, v5, v6, v7, v8, v9, v10, v11] ∧ Same H U ∧ Same U H' ∧ BufAt A K U H' bo pd rd [] rs ∧ rs.length = min i 32 ∧ (∀ r ∈ rs, r.n < 100 + (i : Int)) ∧ ∀ j, j < min i 32 → ∃ v, findR rs (100 + (j : Int)) = some ⟨100 + (j : Int), [], v⟩)
      ⟨U1, [], _, _, _, _, _, _, _, _, _, _, rfl, sH, s1, B1, rfl, fun r hr => (by cases hr), fun j hj => by rw [Nat.zero_min] at hj; exact absurd hj (Nat.not_lt_zero _)⟩ ?_ ?_⟩
    · clear B1 s1 sH
      rintro i σ H5 hi ⟨U, rs, v2, v3, v4, v5, v6, v7, v8, v9, v10, v11, rfl, vH, s5, B, hl, hnm, hat⟩
      have hi34 : i < 34 := hi
      walk_at "gf"
      walk_at "go"
      walk_at "gf"
      walk_at "go"
      rename_i la hla
      have P4 := Pu.skip (o := .lst [.int (100 + (0 + (i : Int)))]) s5 hla
      have B4 := B.pu P4
      have s9 := P4.vh
      have ela : (upd H5 la (.lst [.int (100 + (0 + (i : Int)))])) la = some (.lst [.int (100 + (0 + (i : Int)))]) := upd_same
      refine ⟨bo, la, pd, rd, 3, 0, "compositor", "region", _, [], rs, U, rfl, s9, B4, by decide, by omega, ela, .inr (.inl ⟨rfl, rfl, _, rfl, findR_none (fun r hr => by have := hnm r hr; omega), fun h32 U2 H2 t v2' s2 b et => ?_, fun h32 v U2 H2 v2' s2 b => ?_⟩)⟩
      · have hi32 : 32 ≤ i := by omega
        walk_at "gf"
        walk_at "go"
        rename_i td1 htd1 td2 htd2
        refine .inr ⟨_, rfl, ?_⟩
        rw [decide_eq_true (show (32 : Int) ≤ 0 + (i : Int) by omega), if_pos rfl]
        have P5 := Pu.new (o := .tup [.int 3, .int 6, .str "too many regions"]) s2 htd1
        have P6 := Pu.new (o := .tup [.non, .ref td1]) P5.vh htd2
        refine ⟨td2, _, 1, _, rfl, rfl, SqT.of upd_same, atI_nat (j := 1) rfl, ?_⟩
        have sh := sh_told (n := 3) (c := 6) (wd := "too many regions") (by decide +kernel)
        refine t_ne (dp_told (P6.vh _ _ (P6.vv _ _ (P5.vv _ _ et)))) (dp_told (P6.vh _ _ (P6.vv _ _ upd_same))) sh.shaped sh.shaped ?_
        rw [sh.self]
        refine ⟨false, rfl, if_f rfl ?_⟩
        have P56 := P5.trans P6
        exact ⟨_, rs, _, _, _, _, _, _, _, _, _, _, rfl, vH.trans (v2'.trans P56.vv), P56.vh, b.pu P56, by omega, fun r hr => by have := hnm r hr; omega, fun j hj => hat j (by omega)⟩
      · have hi32 : i < 32 := by omega
        walk_at "gf"
        walk_at "go"
        rename_i td1 htd1 td2 htd2
        refine .inr ⟨_, rfl, ?_⟩
        rw [decide_eq_false (show ¬ (32 : Int) ≤ 0 + (i : Int) by omega), if_neg (by simp)]
        have P5 := Pu.new (o := .tup [.int 3, .int 6, .str "too many regions"]) s2 htd1
        have P6 := Pu.new (o := .tup [.non, .ref td1]) P5.vh htd2
        refine ⟨td2, _, 0, _, rfl, rfl, SqT.of upd_same, atI_nat (j := 0) rfl, ?_⟩
        refine t_ne .non .non sh_none.shaped sh_none.shaped ?_
        rw [sh_none.self]
        refine ⟨false, rfl, if_f rfl ?_⟩
        have P56 := P5.trans P6
        have hl1 : (rs ++ [(⟨100 + (0 + (i : Int)), [], v⟩ : Rgn)]).length = rs.length + 1 := by rw [List.length_append]; rfl
        refine ⟨_, rs ++ [(⟨100 + (0 + (i : Int)), [], v⟩ : Rgn)], _, _, _, _, _, _, _, _, _, _, rfl, vH.trans (v2'.trans P56.vv), P56.vh, b.pu P56, by omega, fun r hr => ?_, fun j hj => ?_⟩
        · rcases List.mem_append.mp hr with hr | hr
          · have := hnm r hr; omega
          · obtain rfl := List.mem_singleton.mp hr
            show 100 + (0 + (i : Int)) < 100 + ((i + 1 : Nat) : Int); omega
        · rw [findR_app]
          by_cases c : j < i
          · obtain ⟨v', hv'⟩ := hat j (by omega)
            rw [hv']
            exact ⟨v', rfl⟩
          · have e : j = i := by omega
            subst e
            rw [findR_none (fun r hr => by have := hnm r hr; omega)]
            refine ⟨v, ?_⟩
            show (if 100 + (0 + (j : Int)) = 100 + (j : Int) then some (⟨100 + (0 + (j : Int)), [], v⟩ : Rgn) else none) = _
            rw [if_pos (by omega), Int.zero_add]
    · clear B1 s1 sH
      rintro σ H5 ⟨U, rs, v2, v3, v4, v5, v6, v7, v8, v9, v10, v11, rfl, vH, s5, B, hl, hnm, hat⟩
      have hs5 := s5.seq (vH.seq hS)
      walk_at "gf"
      walk_at "go"
      rw [List.length_map]
      have g0 := hat 0 (by decide)
      have g1 := hat 1 (by decide)
      have g10 := hat 10 (by decide)
      refine ⟨by split <;> omega, by split <;> omega, for_range (lo := 0) (fun i σ H' => ∃ (U : Hp) (rs : List Rgn) (v2 v3 v4 v5 v6 v7 v8 v9 v10 v11 : Option V), σ = [some (.ref a), some (.ref bo), v2, v3, v4, v5, v6, v7, v8, v9, v10, v11] ∧ Same H U ∧ Same U H' ∧ BufAt A K U H' bo pd rd [] rs ∧ rs.length ≤ 32 ∧ (∀ nb : Int, nb = 100 ∨ nb = 101 → ∃ g, findR rs nb = some g ∧ RgB g.R) ∧ ∃ g, findR rs 110 = some g ∧ g.R = [])
        ⟨U, rs, _, _, _, _, _, _, _, _, _, _, rfl, vH, s5, B, by omega, fun nb hnb => ?_, ?_⟩ ?_ ?_⟩
      · rcases hnb with rfl | rfl
        · obtain ⟨v, hv⟩ := g0; exact ⟨_, hv, RgB.nil⟩
        · obtain ⟨v, hv⟩ := g1; exact ⟨_, hv, RgB.nil⟩
      · obtain ⟨v, hv⟩ := g10; exact ⟨_, hv, rfl⟩
      · clear B s5 vH hs5 hat hnm hl g0 g1 g10
        rintro i σ H5 hi ⟨U, rs, v2, v3, v4, v5, v6, v7, v8, v9, v10, v11, rfl, vH, s5, B, hl, hg, hg10⟩
        have hs5 := s5.seq (vH.seq hS)
        walk_at "gf"
        walk_at "go"
        refine ⟨a, ns, 70 + i, by rw [Int.zero_add, Int.natCast_add]; rfl, hs5, ?_⟩
        have hr1 := lawRow_nn ns (70 + i)
        generalize lawRow ns (70 + i) = row at hr1 ⊢
        clear hs5
        walk_at "gf"
        rename_i t1 ht1
        obtain ⟨j1, hj1, ej1⟩ : ∃ j : Nat, j < 6 ∧ row / 2 % 6 = (j : Int) := ⟨(row / 2 % 6).toNat, by omega, by omega⟩
        obtain ⟨x, hv1, hx⟩ := pickX hj1
        refine ⟨t1, _, _, .int x, rfl, rfl, SqT.of upd_same, at_of (j := j1) ej1 hv1, ?_⟩
        have P1 := Pu.skip (o := .tup [.int 0, .int 4096, .int 4097, .int (-4096), .int (-4097), .int 7]) s5 ht1
        have B1 := B.pu P1
        have s6 := P1.vh
        generalize upd H5 t1 (.tup [.int 0, .int 4096, .int 4097, .int (-4096), .int (-4097), .int 7]) = H6 at B1 s6 P1 ⊢
        clear P1 ht1 B s5
        walk_at "gf"
        rename_i t2 ht2
        obtain ⟨j2, hj2, ej2⟩ : ∃ j : Nat, j < 6 ∧ row / 12 % 6 = (j : Int) := ⟨(row / 12 % 6).toNat, by omega, by omega⟩
        obtain ⟨y, hv2, hy⟩ := pickY hj2
        refine ⟨t2, _, _, .int y, rfl, rfl, SqT.of upd_same, at_of (j := j2) ej2 hv2, ?_⟩
        have P2 := Pu.skip (o := .tup [.int 3, .int 4096, .int 4097, .int (-4096), .int (-4097), .int 3]) s6 ht2
        have B2 := B1.pu P2
        have s7 := P2.vh
        generalize upd H6 t2 (.tup [.int 3, .int 4096, .int 4097, .int (-4096), .int (-4097), .int 3]) = H7 at B2 s7 P2 ⊢
        clear P2 ht2 B1 s6
        walk_at "gf"
        rename_i t3 ht3
        obtain ⟨j3, hj3, ej3⟩ : ∃ j : Nat, j < 5 ∧ row / 72 % 5 = (j : Int) := ⟨(row / 72 % 5).toNat, by omega, by omega⟩
        obtain ⟨wd, hv3, hw⟩ := pickW hj3
        refine ⟨t3, _, _, .int wd, rfl, rfl, SqT.of upd_same, at_of (j := j3) ej3 hv3, ?_⟩
        have P3 := Pu.skip (o := .tup [.int 1, .int 0, .int 8192, .int 8193, .int 4]) s7 ht3
        have B3 := B2.pu P3
        have s8 := P3.vh
        generalize upd H7 t3 (.tup [.int 1, .int 0, .int 8192, .int 8193, .int 4]) = H8 at B3 s8 P3 ⊢
        clear P3 ht3 B2 s7
        walk_at "gf"
        rename_i t4 ht4
        obtain ⟨j4, hj4, ej4⟩ : ∃ j : Nat, j < 2 ∧ row / 360 % 2 = (j : Int) := ⟨(row / 360 % 2).toNat, by omega, by omega⟩
        obtain ⟨nm, hv4, hnm⟩ := pickN hj4
        refine ⟨t4, _, _, .str nm, rfl, rfl, SqT.of upd_same, at_of (j := j4) ej4 hv4, ?_⟩
        have P4 := Pu.skip (o := .tup [.str "add", .str "subtract"]) s8 ht4
        have B4 := B3.pu P4
        have s9 := P4.vh
        generalize upd H8 t4 (.tup [.str "add", .str "subtract"]) = H9 at B4 s9 P4 ⊢
        clear P4 ht4 B3 s8
        have hm2 : row % 2 = 0 ∨ row % 2 = 1 := by omega
        generalize row % 2 = m2 at hm2 ⊢
        have hnb : 100 + m2 = 100 ∨ 100 + m2 = 101 := by omega
        obtain ⟨g, hfg, hgR⟩ := hg (100 + m2) hnb
        obtain ⟨dxo, eo⟩ := B4.ob
        have eoH := s9 _ _ eo
        walk_at "gf"
        walk_at "go"
        refine ⟨bo, pd, rd, [], rs, 100 + m2, U, rfl, s9, B4, fun hf => (by rw [hfg] at hf; cases hf), fun g' hf' l U5 H10 P5 dl => ?_⟩
        obtain rfl : g = g' := Option.some.inj (hfg.symm.trans hf')
        obtain ⟨l', xs, el, hx1, hd⟩ := dp_list dl
        injection el with el
        subst el
        walk_at "gf"
        walk_at "go"
        refine ⟨l, xs, rfl, .inl (P5.vh.seq hx1), fun lb hlb => ?_⟩
        have P6 := P5.trans (Pu.new (o := .lst xs) P5.vh hlb)
        have db : Dp K (upd U5 lb (.lst xs)) (.ref lb) (regD g.R) := .lst (SqL.of upd_same) (hd.to (Pu.new (o := .lst xs) P5.vh hlb).vv)
        generalize upd U5 lb (.lst xs) = U6 at P6 db
        generalize upd H10 lb (.lst xs) = H11 at P6 ⊢
        have B6 := B4.pu P6
        have s6 := P6.vh
        have vH6 := vH.trans P6.vv
        clear P5 P6 hlb hx1 hd dl B4 s9 eoH
        have hxy : nearR x y wd 5 → ((x ∈ X15 ∧ x + wd ∈ X15) ∧ (y ∈ Y6 ∧ y + 5 ∈ Y6) ∧ ∀ j, y ≤ j → j < y + 5 → yCov j) := fun hn => by
          have h1 := hn.1
          have h2 := hn.2.1
          have h3 := hn.2.2.1
          refine ⟨near_edges ?_ ?_, near_y ?_⟩
          · rcases hx with h | h | h | h | h
            · exact .inl h
            · exact .inr (.inl h)
            · exact .inr (.inr (.inl h))
            · exact .inr (.inr (.inr h))
            · exact absurd h1 h
          · omega
          · rcases hy with h | h | h | h
            · exact .inl h
            · exact .inr (.inl h)
            · exact .inr (.inr h)
            · exact absurd h2 h
        have he : nearR x y wd 5 → EdgeOk x y wd 5 g.R := fun hn => ⟨X15, Y6, hgR.r, ⟨by decide, by decide⟩, (hxy hn).1, (hxy hn).2.1⟩
        have hc : nearR x y wd 5 → RgB (chgR nm g.R x y wd 5) := fun hn => hgR.chg nm (hxy hn).1 (hxy hn).2
        walk_at "gf"
        refine ⟨fun σ' H' => ∃ (U2 : Hp) (told : V) (rs' : List Rgn), σ' = [some (.ref a), some (.ref bo), some (.int (0 + (i : Int))), some told, some (.int row), some (.int (100 + m2)), some (.int x), some (.int y), some (.int wd), some (.str nm), some (.ref lb), v11] ∧ Same U6 U2 ∧ Same U2 H' ∧ BufAt A K U2 H' bo pd rd [] rs' ∧ ((¬ nearR x y wd 5 ∧ rs' = rs ∧ ∃ t, told = .ref t ∧ U2 t = some (.tup [.int (100 + m2), .int 8, .str "bad place"])) ∨ (nearR x y wd 5 ∧ told = .non ∧ rs'.length ≤ 32 ∧ (∀ nb : Int, nb = 100 ∨ nb = 101 → ∃ g, findR rs' nb = some g ∧ RgB g.R) ∧ ∃ g, findR rs' 110 = some g ∧ g.R = [])), ?_, ?_⟩
        · walk_at "gf"
          walk_at "go"
          rename_i la hla
          have P7 := Pu.skip (o := .lst [.int x, .int y, .int wd, .int 5]) s6 hla
          have B7 := B6.pu P7
          have s7 := P7.vh
          have ela : (upd H11 la (.lst [.int x, .int y, .int wd, .int 5])) la = some (.lst [.int x, .int y, .int wd, .int 5]) := upd_same
          refine ⟨bo, la, pd, rd, 100 + m2, 0, "region", nm, _, [], rs, U6, rfl, s7, B7, by decide, by omega, ela, .inr (.inr (.inl ⟨rfl, hnm, x, y, wd, 5, g, rfl, hfg, he, fun hn U2 H2 t v2' s2 b et => ?_, fun hn h32 => absurd (hc hn).few (by omega), fun hn h32 v U2 H2 v2' s2 b => ?_⟩))⟩
          · exact ⟨U2, _, _, rfl, v2', s2, b, .inl ⟨hn, rfl, t, rfl, et⟩⟩
          · refine ⟨U2, _, _, rfl, v2', s2, b, .inr ⟨hn, rfl, by rw [List.length_map]; exact hl, fun nb hnb2 => ?_, ?_⟩⟩
            · rw [findR_map]
              by_cases c : nb = 100 + m2
              · rw [if_pos c, hfg]; exact ⟨_, rfl, hc hn⟩
              · rw [if_neg c]; exact hg nb hnb2
            · rw [findR_map, if_neg (by omega)]; exact hg10
        · rintro σ' H12 ⟨U2, told, rs', rfl, v2', s2, b2, hcase⟩
          have db2 := db.to v2'
          have vH2 := vH6.trans v2'
          clear B6 s6
          walk_at "gf"
          refine ⟨fun σ' H' => ∃ (fb : Bool), σ' = [some (.ref a), some (.ref bo), some (.int (0 + (i : Int))), some told, some (.int row), some (.int (100 + m2)), some (.int x), some (.int y), some (.int wd), some (.str nm), some (.ref lb), some (.bl fb)] ∧ H' = H12 ∧ (fb = true ↔ nearR x y wd 5), ?_, ?_⟩
          · walk_at "gf"
            refine iteP (fun c1 => ?_) (fun c1 => ?_)
            · walk_at "gf"
              refine iteP (fun c2 => ?_) (fun c2 => ?_)
              · walk_at "gf"
                exact ⟨fun z => ⟨by unfold near1; split at c1 <;> omega, by unfold near1; split at c2 <;> omega, of_decide_eq_true z, by decide⟩, fun z => decide_eq_true z.2.2.1⟩
              · exact ⟨false, rfl, rfl, fun z => (by cases z), fun z => absurd (by have h := z.2.1; unfold near1 at h; split <;> omega) c2⟩
            · exact ⟨false, rfl, rfl, fun z => (by cases z), fun z => absurd (by have h := z.1; unfold near1 at h; split <;> omega) c1⟩
          · rintro σ' H13 ⟨fb, rfl, rfl, hfb⟩
            rcases hcase with ⟨hn, rfl, t, rfl, et⟩ | ⟨hn, rfl, hl', hg', hg10'⟩
            · have hf : fb = false := by
                cases fb with
                | false => rfl
                | true => exact absurd (hfb.mp rfl) hn
              subst hf
              walk_at "gf"
              rename_i td htd
              have P8 := Pu.new (o := .tup [.int (100 + m2), .int 8, .str "bad place"]) s2 htd
              have sh := sh_told (n := 100 + m2) (c := 8) (wd := "bad place") (by decide +kernel)
              refine t_ne (dp_told (P8.vh _ _ (P8.vv _ _ et))) (dp_told upd_same) sh.shaped sh.shaped ?_
              rw [sh.self]
              refine ⟨false, rfl, if_f rfl ?_⟩
              have B8 := b2.pu P8
              have s8 := P8.vh
              have v8 := P8.vv
              obtain ⟨dx8, eo8⟩ := B8.ob
              have eo8H := s8 _ _ eo8
              generalize upd H13 td (.tup [.int (100 + m2), .int 8, .str "bad place"]) = H14 at s8 B8 eo8H ⊢
              walk_at "gf"
              walk_at "go"
              refine ⟨bo, pd, rd, [], _, 100 + m2, _, rfl, s8, B8, fun hf => (by rw [hfg] at hf; cases hf), fun g' hf' l3 U9 H15 P9 dl3 => ?_⟩
              obtain rfl : g = g' := Option.some.inj (hfg.symm.trans hf')
              walk_at "gf"
              refine t_ne (dl3.to P9.vh) (((db2.to v8).to P9.vv).to P9.vh) (sh_reg _).shaped (sh_reg _).shaped ?_
              rw [(sh_reg _).self]
              refine ⟨false, rfl, if_f rfl ?_⟩
              exact ⟨U9, _, _, _, _, _, _, _, _, _, _, _, rfl, (vH2.trans v8).trans P9.vv, P9.vh, B8.pu P9, hl, hg, hg10⟩
            · have hf : fb = true := hfb.mpr hn
              subst hf
              walk_at "gf"
              exact ⟨U2, rs', _, _, _, _, _, _, _, _, _, _, rfl, vH2, s2, b2, hl', hg', hg10'⟩
      · clear B s5 vH hs5 hat hnm hl g0 g1 g10
        rintro σ H5 ⟨U, rs, v2, v3, v4, v5, v6, v7, v8, v9, v10, v11, rfl, vH, s5, B, hl, _, g, hfg, hgR⟩
        walk_at "gf"
        walk_at "go"
        refine ⟨by decide, by decide, for_range (lo := 0) (fun i σ H' => ∃ (U : Hp) (rs : List Rgn) (g : Rgn) (v2 v3 v4 v5 v6 v7 v8 v9 v10 v11 : Option V), σ = [some (.ref a), some (.ref bo), v2, v3, v4, v5, v6, v7, v8, v9, v10, v11] ∧ Same H U ∧ Same U H' ∧ BufAt A K U H' bo pd rd [] rs ∧ rs.length ≤ 32 ∧ findR rs 110 = some g ∧ g.R = lineS (List.range (min i 32)))
          ⟨U, rs, g, _, _, _, _, _, _, _, _, _, _, rfl, vH, s5, B, hl, hfg, hgR⟩ ?_ ?_⟩
        · clear B s5 vH hl hfg hgR
          rintro i σ H6 hi ⟨U, rs, g, v2, v3, v4, v5, v6, v7, v8, v9, v10, v11, rfl, vH, s5, B, hl, hfg, hgR⟩
          have hi34 : i < 34 := hi
          have hpw : (List.range (min i 32)).Pairwise (· < ·) := List.pairwise_lt_range
          have hlr : (List.range (min i 32)).length ≤ 32 := by rw [List.length_range]; omega
          have he : EdgeOk (3 * (0 + (i : Int))) 0 1 1 g.R := by rw [hgR, Int.zero_add]; exact line_edges hpw hlr i
          have hch : chgR "add" g.R (3 * (0 + (i : Int))) 0 1 1 = lineS (List.range (min i 32) ++ [i]) := by rw [hgR, Int.zero_add]; exact line_add hpw fun j hj => by have := List.mem_range.mp hj; omega
          have hrc : ((chgR "add" g.R (3 * (0 + (i : Int))) 0 1 1).flatMap rectsOf).length = min i 32 + 1 := by rw [hch, line_rects, List.length_append, List.length_range]; rfl
          have hnear : nearR (3 * (0 + (i : Int))) 0 1 1 := by unfold nearR near1; omega
          walk_at "gf"
          walk_at "go"
          walk_at "gf"
          walk_at "go"
          rename_i la hla
          have P4 := Pu.skip (o := .lst [.int (3 * (0 + (i : Int))), .int 0, .int 1, .int 1]) s5 hla
          have B4 := B.pu P4
          have s9 := P4.vh
          have ela : (upd H6 la (.lst [.int (3 * (0 + (i : Int))), .int 0, .int 1, .int 1])) la = some (.lst [.int (3 * (0 + (i : Int))), .int 0, .int 1, .int 1]) := upd_same
          refine ⟨bo, la, pd, rd, 110, 0, "region", "add", _, [], rs, U, rfl, s9, B4, by decide, by omega, ela, .inr (.inr (.inl ⟨rfl, by decide +kernel, _, 0, 1, 1, g, rfl, hfg, fun _ => he, fun hn => absurd hnear hn, fun hn h32 U2 H2 t v2' s2 b et => ?_, fun hn h32 v U2 H2 v2' s2 b => ?_⟩))⟩
          · have hi32 : 32 ≤ i := by omega
            walk_at "gf"
            walk_at "go"
            rename_i td1 htd1 td2 htd2
            refine .inr ⟨_, rfl, ?_⟩
            rw [decide_eq_true (show (32 : Int) ≤ 0 + (i : Int) by omega), if_pos rfl]
            have P5 := Pu.new (o := .tup [.int 110, .int 7, .str "region too complex"]) s2 htd1
            have P6 := Pu.new (o := .tup [.non, .ref td1]) P5.vh htd2
            refine ⟨td2, _, 1, _, rfl, rfl, SqT.of upd_same, atI_nat (j := 1) rfl, ?_⟩
            have sh := sh_told (n := 110) (c := 7) (wd := "region too complex") (by decide +kernel)
            refine t_ne (dp_told (P6.vh _ _ (P6.vv _ _ (P5.vv _ _ et)))) (dp_told (P6.vh _ _ (P6.vv _ _ upd_same))) sh.shaped sh.shaped ?_
            rw [sh.self]
            refine ⟨false, rfl, if_f rfl ?_⟩
            have P56 := P5.trans P6
            exact ⟨_, rs, g, _, _, _, _, _, _, _, _, _, _, rfl, vH.trans (v2'.trans P56.vv), P56.vh, b.pu P56, hl, hfg, by rw [hgR, show min (i + 1) 32 = min i 32 from by omega]⟩
          · have hi32 : i < 32 := by omega
            walk_at "gf"
            walk_at "go"
            rename_i td1 htd1 td2 htd2
            refine .inr ⟨_, rfl, ?_⟩
            rw [decide_eq_false (show ¬ (32 : Int) ≤ 0 + (i : Int) by omega), if_neg (by simp)]
            have P5 := Pu.new (o := .tup [.int 110, .int 7, .str "region too complex"]) s2 htd1
            have P6 := Pu.new (o := .tup [.non, .ref td1]) P5.vh htd2
            refine ⟨td2, _, 0, _, rfl, rfl, SqT.of upd_same, atI_nat (j := 0) rfl, ?_⟩
            refine t_ne .non .non sh_none.shaped sh_none.shaped ?_
            rw [sh_none.self]
            refine ⟨false, rfl, if_f rfl ?_⟩
            have P56 := P5.trans P6
            refine ⟨_, _, (⟨110, chgR "add" g.R (3 * (0 + (i : Int))) 0 1 1, v⟩ : Rgn), _, _, _, _, _, _, _, _, _, _, rfl, vH.trans (v2'.trans P56.vv), P56.vh, b.pu P56, by rw [List.length_map]; exact hl, ?_, ?_⟩
            · rw [findR_map, if_pos rfl, hfg]; rfl
            · show chgR "add" g.R (3 * (0 + (i : Int))) 0 1 1 = _
              rw [hch, show min i 32 = i from by omega, show min (i + 1) 32 = i + 1 from by omega, List.range_succ]
        · clear B s5 vH hl hfg hgR
          rintro σ H6 ⟨U, rs, g, v2, v3, v4, v5, v6, v7, v8, v9, v10, v11, rfl, vH, s5, B, hl, hfg, hgR⟩
          have hcount : (g.R.flatMap rectsOf).length = 32 := by rw [hgR, line_rects, List.length_range]; decide
          have hone : g.R.length < 90000 := by
            rw [hgR]
            cases List.range (min (Int.toNat 34) 32) with
            | nil => show 0 < 90000; decide
            | cons j r => show 1 < 90000; decide
          obtain ⟨dx8, eo8⟩ := B.ob
          have eoH := s5 _ _ eo8
          walk_at "gf"
          walk_at "go"
          refine ⟨bo, pd, rd, [], rs, 110, U, rfl, s5, B, fun hf => (by rw [hfg] at hf; cases hf), fun g' hf' l3 U9 H15 P9 dl3 => ?_⟩
          obtain rfl : g = g' := Option.some.inj (hfg.symm.trans hf')
          walk_at "gf"
          walk_at "go"
          refine ⟨.ref l3, g.R, U9, rfl, P9.vh, dl3.to P9.vh, by omega, hone, fun v' U3 H3 x3 d3 => ?_⟩
          obtain ⟨pr, xr, rfl, hpr, hxr⟩ := dp_list d3
          have hlx : xr.length = 32 := (dpall_len hxr).trans hcount
          have P10 := P9.trans x3.pu
          have B10 := B.pu P10
          have eo10 := P10.vh _ _ (P10.vv _ _ eo8)
          have s10 := P10.vh
          have v10' := P10.vv
          walk_at "gf"
          walk_at "go"
          rw [hlx]
          refine iteEq (fun c => ?_) (fun c => absurd rfl c)
          clear P9 x3 d3 hpr hxr P10 dl3 eoH
          walk_at "gf"
          walk_at "go"
          walk_at "gf"
          walk_at "go"
          rename_i la hla
          have P11 := Pu.skip (o := .lst []) s10 hla
          have B11 := B10.pu P11
          have s11 := P11.vh
          have ela : (upd H3 la (.lst [])) la = some (.lst []) := upd_same
          refine ⟨bo, la, pd, rd, 110, 0, "region", "destroy", _, [], rs, U3, rfl, s11, B11, by decide, by omega, ela, .inr (.inr (.inr ⟨rfl, rfl, g, hfg, fun U2 H2 v2' s2 b => ?_⟩))⟩
          obtain ⟨dx12, eo12⟩ := b.ob
          have eoH2 := s2 _ _ eo12
          walk_at "gf"
          refine ⟨bo, pd, rd, [], _, 110, U2, rfl, s2, b, fun _ => ?_, fun g' hf' => absurd hf' (by rw [findR_drop]; simp)⟩
          have fin := q.go H2 (((vH.trans v10').trans v2').trans s2)
          walk_at "gf"
          exact fin
/-! ### the law -/
theorem sc_law : FnScope ["script"] ["script"] (defScope s_law) := ⟨rfl, rfl, rfl, by decide +kernel, rfl, by decide +kernel, by decide +kernel⟩
theorem ok_law (T : Txt0 P K mg A) : FnOk P w K mg base CX0 11 A.flaw A.dlaw ["script"] (sp_law K) := by
  refine T.Flaw.ok sc_law (fun vs H Q E h => ?_) (fun cdv Ar outer s H vs Q E hr h => ?_)
  · obtain ⟨a, ns, rfl, _⟩ := h
    rfl
  · obtain ⟨a, ns, rfl, hS, hlen, q⟩ := h
    replace q := Hid.mk q
    refine ⟨_, (pss_one (ps_ret (pe_and (pe_call (ok__law_buffers T) (hr.mono (by decide)) rfl T.g_law_buffers T.k_law_buffers T.b_law_buffers .nil pass0 (pa_cons (pv 0) pa_nil)) (pe_one (pe_call (ok__law_regions T) (hr.mono (by decide)) rfl T.g_law_regions T.k_law_regions T.b_law_regions .nil pass0 (pa_cons (pv 0) pa_nil)))))), ?_⟩
    walk_at "gf"
    walk_at "go"
    refine ⟨a, ns, rfl, hS, hlen, fun H1 s1 => ?_⟩
    have hS1 := s1.seq hS
    walk_at "gf"
    walk_at "go"
    refine ⟨a, ns, rfl, hS1, hlen, fun H2 s2 => ?_⟩
    exact q.go _
end
theorem all_mk {P : Program} (hP : Prg P) {K : PySem.W.Frag} {h : Heap} {mg : Str → Option Value} {fa : Addr} (X : K.In h) (G : h.Ns mainGlobals mg) (hfa : mg "law" = some (.ref fa))
    {fnumber_at : Addr} {od1 an1 : Option Addr} {sl1 : Array (Option Value)} {oc1 kV1 dc1 pm1 cd1 ct1 : Value}
    {frectangle_region : Addr} {od2 an2 : Option Addr} {sl2 : Array (Option Value)} {oc2 kV2 dc2 pm2 cd2 ct2 : Value}
    {funited : Addr} {od3 an3 : Option Addr} {sl3 : Array (Option Value)} {oc3 kV3 dc3 pm3 cd3 ct3 : Value}
    {fwithout : Addr} {od4 an4 : Option Addr} {sl4 : Array (Option Value)} {oc4 kV4 dc4 pm4 cd4 ct4 : Value}
    {frectangles : Addr} {od5 an5 : Option Addr} {sl5 : Array (Option Value)} {oc5 kV5 dc5 pm5 cd5 ct5 : Value}
    {f_either : Addr} {od6 an6 : Option Addr} {sl6 : Array (Option Value)} {oc6 kV6 dc6 pm6 cd6 ct6 : Value}
    {f_first_alone : Addr} {od7 an7 : Option Addr} {sl7 : Array (Option Value)} {oc7 kV7 dc7 pm7 cd7 ct7 : Value}
    {f_combined : Addr} {od8 an8 : Option Addr} {sl8 : Array (Option Value)} {oc8 kV8 dc8 pm8 cd8 ct8 : Value}
    {f_combined_spans : Addr} {od9 an9 : Option Addr} {sl9 : Array (Option Value)} {oc9 kV9 dc9 pm9 cd9 ct9 : Value}
    {f_spans_of : Addr} {od10 an10 : Option Addr} {sl10 : Array (Option Value)} {oc10 kV10 dc10 pm10 cd10 ct10 : Value}
    {f_pieces : Addr} {od11 an11 : Option Addr} {sl11 : Array (Option Value)} {oc11 kV11 dc11 pm11 cd11 ct11 : Value}
    {f_first_ending_behind : Addr} {od12 an12 : Option Addr} {sl12 : Array (Option Value)} {oc12 kV12 dc12 pm12 cd12 ct12 : Value}
    {f_row_from : Addr} {od13 an13 : Option Addr} {sl13 : Array (Option Value)} {oc13 kV13 dc13 pm13 cd13 ct13 : Value}
    {f_joined : Addr} {od14 an14 : Option Addr} {sl14 : Array (Option Value)} {oc14 kV14 dc14 pm14 cd14 ct14 : Value}
    {fclear_picture : Addr} {od15 an15 : Option Addr} {sl15 : Array (Option Value)} {oc15 kV15 dc15 pm15 cd15 ct15 : Value}
    {f_is_near : Addr} {od16 an16 : Option Addr} {sl16 : Array (Option Value)} {oc16 kV16 dc16 pm16 cd16 ct16 : Value}
    {f_law_cell : Addr} {od17 an17 : Option Addr} {sl17 : Array (Option Value)} {oc17 kV17 dc17 pm17 cd17 ct17 : Value}
    {f_law_row : Addr} {od18 an18 : Option Addr} {sl18 : Array (Option Value)} {oc18 kV18 dc18 pm18 cd18 ct18 : Value}
    {f_law_ask : Addr} {od19 an19 : Option Addr} {sl19 : Array (Option Value)} {oc19 kV19 dc19 pm19 cd19 ct19 : Value}
    {f_law_buffers : Addr} {od20 an20 : Option Addr} {sl20 : Array (Option Value)} {oc20 kV20 dc20 pm20 cd20 ct20 : Value}
    {f_law_regions : Addr} {od21 an21 : Option Addr} {sl21 : Array (Option Value)} {oc21 kV21 dc21 pm21 cd21 ct21 : Value}
    {flaw : Addr} {od22 an22 : Option Addr} {sl22 : Array (Option Value)} {oc22 kV22 dc22 pm22 cd22 ct22 : Value}
    {fFault___init__ : Addr} {od23 an23 : Option Addr} {sl23 : Array (Option Value)} {oc23 kV23 dc23 pm23 ct23 : Value}
    {cc23 cda23 : Addr} {cl23 ccl23 : Value} {cld23 cdd23 : Option Addr} {csl23 ccs23 : Array (Option Value)} {fvs23 : Array Value} {tf23 : Tok} {cdD23 : ClassData}
    {fPicture___init__ : Addr} {od24 an24 : Option Addr} {sl24 : Array (Option Value)} {oc24 kV24 dc24 pm24 cd24 ct24 : Value}
    {fBuffers___init__ : Addr} {od25 an25 : Option Addr} {sl25 : Array (Option Value)} {oc25 kV25 dc25 pm25 cd25 ct25 : Value}
    {fBuffers_serve : Addr} {od26 an26 : Option Addr} {sl26 : Array (Option Value)} {oc26 kV26 dc26 pm26 cd26 ct26 : Value}
    {fBuffers_pixel_count : Addr} {od27 an27 : Option Addr} {sl27 : Array (Option Value)} {oc27 kV27 dc27 pm27 cd27 ct27 : Value}
    {fBuffers_picture_of : Addr} {od28 an28 : Option Addr} {sl28 : Array (Option Value)} {oc28 kV28 dc28 pm28 cd28 ct28 : Value}
    {fBuffers_region_of : Addr} {od29 an29 : Option Addr} {sl29 : Array (Option Value)} {oc29 kV29 dc29 pm29 cd29 ct29 : Value}
    {fBuffers__make_buffer : Addr} {od30 an30 : Option Addr} {sl30 : Array (Option Value)} {oc30 kV30 dc30 pm30 cd30 ct30 : Value}
    {fBuffers__serve_buffer : Addr} {od31 an31 : Option Addr} {sl31 : Array (Option Value)} {oc31 kV31 dc31 pm31 cd31 ct31 : Value}
    {fBuffers__write : Addr} {od32 an32 : Option Addr} {sl32 : Array (Option Value)} {oc32 kV32 dc32 pm32 cd32 ct32 : Value}
    {fBuffers__fill : Addr} {od33 an33 : Option Addr} {sl33 : Array (Option Value)} {oc33 kV33 dc33 pm33 cd33 ct33 : Value}
    {fBuffers__make_region : Addr} {od34 an34 : Option Addr} {sl34 : Array (Option Value)} {oc34 kV34 dc34 pm34 cd34 ct34 : Value}
    {fBuffers__serve_region : Addr} {od35 an35 : Option Addr} {sl35 : Array (Option Value)} {oc35 kV35 dc35 pm35 cd35 ct35 : Value}
    {fBuffers__changed_region : Addr} {od36 an36 : Option Addr} {sl36 : Array (Option Value)} {oc36 kV36 dc36 pm36 cd36 ct36 : Value}
    {fReply___init__ : Addr} {od37 an37 : Option Addr} {sl37 : Array (Option Value)} {oc37 kV37 dc37 pm37 cd37 ct37 : Value}
    {fRequest___init__ : Addr} {od38 an38 : Option Addr} {sl38 : Array (Option Value)} {oc38 kV38 dc38 pm38 cd38 ct38 : Value}
    {tCLEAR : Tok}
    {tMOST_BUFFERS : Tok}
    {tMOST_PIXELS : Tok}
    {tLONGEST_SIDE : Tok}
    {tMOST_REGIONS : Tok}
    {tFARTHEST_PLACE : Tok}
    {tLONGEST_STRETCH : Tok}
    {tMOST_RECTANGLES : Tok}
    {CPicture : Addr}
    {CBuffers : Addr}
    {CReply : Addr}
    {CRequest : Addr}
    {CFault : Addr}
    {nmFault qnFault : Str} {NFault : Addr} {bsFault bmFault : List Value} {snFault : List Str} {sbFault : List Value} {abFault : Bool} {coFault : Option Bool} {ddFault : Option Addr} {k0Fault k1Fault k2Fault k3Fault k5Fault : Option Value}
    (a1 : PySem.W.nsIn K mainGlobals "number_at" = some (some (.ref fnumber_at)))
    (l1 : K.lookup fnumber_at = some ⟨oc1, od1, .func (PySem.W.fnOf "number_at" "number_at" (defArgs s_number_at) (defBody s_number_at) (defScope s_number_at) .none kV1 dc1 pm1 an1 cd1 ct1), sl1⟩) (c1 : PySem.W.codeIn K cd1 "number_at" = true) (k1 : PySem.W.keepIn K (.ref fnumber_at) = true)
    (a2 : PySem.W.nsIn K mainGlobals "rectangle_region" = some (some (.ref frectangle_region)))
    (l2 : K.lookup frectangle_region = some ⟨oc2, od2, .func (PySem.W.fnOf "rectangle_region" "rectangle_region" (defArgs s_rectangle_region) (defBody s_rectangle_region) (defScope s_rectangle_region) .none kV2 dc2 pm2 an2 cd2 ct2), sl2⟩) (c2 : PySem.W.codeIn K cd2 "rectangle_region" = true) (k2 : PySem.W.keepIn K (.ref frectangle_region) = true)
    (a3 : PySem.W.nsIn K mainGlobals "united" = some (some (.ref funited)))
    (l3 : K.lookup funited = some ⟨oc3, od3, .func (PySem.W.fnOf "united" "united" (defArgs s_united) (defBody s_united) (defScope s_united) .none kV3 dc3 pm3 an3 cd3 ct3), sl3⟩) (c3 : PySem.W.codeIn K cd3 "united" = true) (k3 : PySem.W.keepIn K (.ref funited) = true)
    (a4 : PySem.W.nsIn K mainGlobals "without" = some (some (.ref fwithout)))
    (l4 : K.lookup fwithout = some ⟨oc4, od4, .func (PySem.W.fnOf "without" "without" (defArgs s_without) (defBody s_without) (defScope s_without) .none kV4 dc4 pm4 an4 cd4 ct4), sl4⟩) (c4 : PySem.W.codeIn K cd4 "without" = true) (k4 : PySem.W.keepIn K (.ref fwithout) = true)
    (a5 : PySem.W.nsIn K mainGlobals "rectangles" = some (some (.ref frectangles)))
    (l5 : K.lookup frectangles = some ⟨oc5, od5, .func (PySem.W.fnOf "rectangles" "rectangles" (defArgs s_rectangles) (defBody s_rectangles) (defScope s_rectangles) .none kV5 dc5 pm5 an5 cd5 ct5), sl5⟩) (c5 : PySem.W.codeIn K cd5 "rectangles" = true) (k5 : PySem.W.keepIn K (.ref frectangles) = true)
    (a6 : PySem.W.nsIn K mainGlobals "_either" = some (some (.ref f_either)))
    (l6 : K.lookup f_either = some ⟨oc6, od6, .func (PySem.W.fnOf "_either" "_either" (defArgs s__either) (defBody s__either) (defScope s__either) .none kV6 dc6 pm6 an6 cd6 ct6), sl6⟩) (c6 : PySem.W.codeIn K cd6 "_either" = true) (k6 : PySem.W.keepIn K (.ref f_either) = true)
    (a7 : PySem.W.nsIn K mainGlobals "_first_alone" = some (some (.ref f_first_alone)))
    (l7 : K.lookup f_first_alone = some ⟨oc7, od7, .func (PySem.W.fnOf "_first_alone" "_first_alone" (defArgs s__first_alone) (defBody s__first_alone) (defScope s__first_alone) .none kV7 dc7 pm7 an7 cd7 ct7), sl7⟩) (c7 : PySem.W.codeIn K cd7 "_first_alone" = true) (k7 : PySem.W.keepIn K (.ref f_first_alone) = true)
    (a8 : PySem.W.nsIn K mainGlobals "_combined" = some (some (.ref f_combined)))
    (l8 : K.lookup f_combined = some ⟨oc8, od8, .func (PySem.W.fnOf "_combined" "_combined" (defArgs s__combined) (defBody s__combined) (defScope s__combined) .none kV8 dc8 pm8 an8 cd8 ct8), sl8⟩) (c8 : PySem.W.codeIn K cd8 "_combined" = true) (k8 : PySem.W.keepIn K (.ref f_combined) = true)
    (a9 : PySem.W.nsIn K mainGlobals "_combined_spans" = some (some (.ref f_combined_spans)))
    (l9 : K.lookup f_combined_spans = some ⟨oc9, od9, .func (PySem.W.fnOf "_combined_spans" "_combined_spans" (defArgs s__combined_spans) (defBody s__combined_spans) (defScope s__combined_spans) .none kV9 dc9 pm9 an9 cd9 ct9), sl9⟩) (c9 : PySem.W.codeIn K cd9 "_combined_spans" = true) (k9 : PySem.W.keepIn K (.ref f_combined_spans) = true)
    (a10 : PySem.W.nsIn K mainGlobals "_spans_of" = some (some (.ref f_spans_of)))
    (l10 : K.lookup f_spans_of = some ⟨oc10, od10, .func (PySem.W.fnOf "_spans_of" "_spans_of" (defArgs s__spans_of) (defBody s__spans_of) (defScope s__spans_of) .none kV10 dc10 pm10 an10 cd10 ct10), sl10⟩) (c10 : PySem.W.codeIn K cd10 "_spans_of" = true) (k10 : PySem.W.keepIn K (.ref f_spans_of) = true)
    (a11 : PySem.W.nsIn K mainGlobals "_pieces" = some (some (.ref f_pieces)))
    (l11 : K.lookup f_pieces = some ⟨oc11, od11, .func (PySem.W.fnOf "_pieces" "_pieces" (defArgs s__pieces) (defBody s__pieces) (defScope s__pieces) .none kV11 dc11 pm11 an11 cd11 ct11), sl11⟩) (c11 : PySem.W.codeIn K cd11 "_pieces" = true) (k11 : PySem.W.keepIn K (.ref f_pieces) = true)
    (a12 : PySem.W.nsIn K mainGlobals "_first_ending_behind" = some (some (.ref f_first_ending_behind)))
    (l12 : K.lookup f_first_ending_behind = some ⟨oc12, od12, .func (PySem.W.fnOf "_first_ending_behind" "_first_ending_behind" (defArgs s__first_ending_behind) (defBody s__first_ending_behind) (defScope s__first_ending_behind) .none kV12 dc12 pm12 an12 cd12 ct12), sl12⟩) (c12 : PySem.W.codeIn K cd12 "_first_ending_behind" = true) (k12 : PySem.W.keepIn K (.ref f_first_ending_behind) = true)
    (a13 : PySem.W.nsIn K mainGlobals "_row_from" = some (some (.ref f_row_from)))
    (l13 : K.lookup f_row_from = some ⟨oc13, od13, .func (PySem.W.fnOf "_row_from" "_row_from" (defArgs s__row_from) (defBody s__row_from) (defScope s__row_from) .none kV13 dc13 pm13 an13 cd13 ct13), sl13⟩) (c13 : PySem.W.codeIn K cd13 "_row_from" = true) (k13 : PySem.W.keepIn K (.ref f_row_from) = true)
    (a14 : PySem.W.nsIn K mainGlobals "_joined" = some (some (.ref f_joined)))
    (l14 : K.lookup f_joined = some ⟨oc14, od14, .func (PySem.W.fnOf "_joined" "_joined" (defArgs s__joined) (defBody s__joined) (defScope s__joined) .none kV14 dc14 pm14 an14 cd14 ct14), sl14⟩) (c14 : PySem.W.codeIn K cd14 "_joined" = true) (k14 : PySem.W.keepIn K (.ref f_joined) = true)
    (a15 : PySem.W.nsIn K mainGlobals "clear_picture" = some (some (.ref fclear_picture)))
    (l15 : K.lookup fclear_picture = some ⟨oc15, od15, .func (PySem.W.fnOf "clear_picture" "clear_picture" (defArgs s_clear_picture) (defBody s_clear_picture) (defScope s_clear_picture) .none kV15 dc15 pm15 an15 cd15 ct15), sl15⟩) (c15 : PySem.W.codeIn K cd15 "clear_picture" = true) (k15 : PySem.W.keepIn K (.ref fclear_picture) = true)
    (a16 : PySem.W.nsIn K mainGlobals "_is_near" = some (some (.ref f_is_near)))
    (l16 : K.lookup f_is_near = some ⟨oc16, od16, .func (PySem.W.fnOf "_is_near" "_is_near" (defArgs s__is_near) (defBody s__is_near) (defScope s__is_near) .none kV16 dc16 pm16 an16 cd16 ct16), sl16⟩) (c16 : PySem.W.codeIn K cd16 "_is_near" = true) (k16 : PySem.W.keepIn K (.ref f_is_near) = true)
    (a17 : PySem.W.nsIn K mainGlobals "_law_cell" = some (some (.ref f_law_cell)))
    (l17 : K.lookup f_law_cell = some ⟨oc17, od17, .func (PySem.W.fnOf "_law_cell" "_law_cell" (defArgs s__law_cell) (defBody s__law_cell) (defScope s__law_cell) .none kV17 dc17 pm17 an17 cd17 ct17), sl17⟩) (c17 : PySem.W.codeIn K cd17 "_law_cell" = true) (k17 : PySem.W.keepIn K (.ref f_law_cell) = true)
    (a18 : PySem.W.nsIn K mainGlobals "_law_row" = some (some (.ref f_law_row)))
    (l18 : K.lookup f_law_row = some ⟨oc18, od18, .func (PySem.W.fnOf "_law_row" "_law_row" (defArgs s__law_row) (defBody s__law_row) (defScope s__law_row) .none kV18 dc18 pm18 an18 cd18 ct18), sl18⟩) (c18 : PySem.W.codeIn K cd18 "_law_row" = true) (k18 : PySem.W.keepIn K (.ref f_law_row) = true)
    (a19 : PySem.W.nsIn K mainGlobals "_law_ask" = some (some (.ref f_law_ask)))
    (l19 : K.lookup f_law_ask = some ⟨oc19, od19, .func (PySem.W.fnOf "_law_ask" "_law_ask" (defArgs s__law_ask) (defBody s__law_ask) (defScope s__law_ask) .none kV19 dc19 pm19 an19 cd19 ct19), sl19⟩) (c19 : PySem.W.codeIn K cd19 "_law_ask" = true) (k19 : PySem.W.keepIn K (.ref f_law_ask) = true)
    (a20 : PySem.W.nsIn K mainGlobals "_law_buffers" = some (some (.ref f_law_buffers)))
    (l20 : K.lookup f_law_buffers = some ⟨oc20, od20, .func (PySem.W.fnOf "_law_buffers" "_law_buffers" (defArgs s__law_buffers) (defBody s__law_buffers) (defScope s__law_buffers) .none kV20 dc20 pm20 an20 cd20 ct20), sl20⟩) (c20 : PySem.W.codeIn K cd20 "_law_buffers" = true) (k20 : PySem.W.keepIn K (.ref f_law_buffers) = true)
    (a21 : PySem.W.nsIn K mainGlobals "_law_regions" = some (some (.ref f_law_regions)))
    (l21 : K.lookup f_law_regions = some ⟨oc21, od21, .func (PySem.W.fnOf "_law_regions" "_law_regions" (defArgs s__law_regions) (defBody s__law_regions) (defScope s__law_regions) .none kV21 dc21 pm21 an21 cd21 ct21), sl21⟩) (c21 : PySem.W.codeIn K cd21 "_law_regions" = true) (k21 : PySem.W.keepIn K (.ref f_law_regions) = true)
    (a22 : PySem.W.nsIn K mainGlobals "law" = some (some (.ref flaw)))
    (l22 : K.lookup flaw = some ⟨oc22, od22, .func (PySem.W.fnOf "law" "law" (defArgs s_law) (defBody s_law) (defScope s_law) .none kV22 dc22 pm22 an22 cd22 ct22), sl22⟩) (c22 : PySem.W.codeIn K cd22 "law" = true) (k22 : PySem.W.keepIn K (.ref flaw) = true)
    (a23 : PySem.W.findIn K (.ref CFault) "__init__" = some (some (.ref fFault___init__)))
    (i23 : PySem.W.isFn K (.ref fFault___init__) = true)
    (l23 : K.lookup fFault___init__ = some ⟨oc23, od23, .func (PySem.W.fnX "__init__" "Fault.__init__" (defArgs s_Fault___init__) (defBody s_Fault___init__) (defScope s_Fault___init__) [("__class__", cc23)] .none kV23 dc23 pm23 an23 (.ref cda23) ct23), sl23⟩) (c23 : PySem.W.codeIn K (.ref cda23) "Fault.__init__" = true) (k23 : PySem.W.keepIn K (.ref fFault___init__) = true)
    (lc23 : K.lookup cc23 = some ⟨cl23, cld23, .cell (some (.ref CFault)), csl23⟩) (ld23 : K.lookup cda23 = some ⟨ccl23, cdd23, .fields fvs23, ccs23⟩) (rv23 : fvs23[2]? = some (.str "/claim/cut.py" tf23)) (lD23 : PySem.W.clsIn K CFault = some cdD23) (ty23 : PySem.W.typeIn K (.ref fFault___init__) = some (.type "function"))
    (a24 : PySem.W.findIn K (.ref CPicture) "__init__" = some (some (.ref fPicture___init__)))
    (i24 : PySem.W.isFn K (.ref fPicture___init__) = true)
    (l24 : K.lookup fPicture___init__ = some ⟨oc24, od24, .func (PySem.W.fnOf "__init__" "Picture.__init__" (defArgs s_Picture___init__) (defBody s_Picture___init__) (defScope s_Picture___init__) .none kV24 dc24 pm24 an24 cd24 ct24), sl24⟩) (c24 : PySem.W.codeIn K cd24 "Picture.__init__" = true) (k24 : PySem.W.keepIn K (.ref fPicture___init__) = true)
    (a25 : PySem.W.findIn K (.ref CBuffers) "__init__" = some (some (.ref fBuffers___init__)))
    (i25 : PySem.W.isFn K (.ref fBuffers___init__) = true)
    (l25 : K.lookup fBuffers___init__ = some ⟨oc25, od25, .func (PySem.W.fnOf "__init__" "Buffers.__init__" (defArgs s_Buffers___init__) (defBody s_Buffers___init__) (defScope s_Buffers___init__) .none kV25 dc25 pm25 an25 cd25 ct25), sl25⟩) (c25 : PySem.W.codeIn K cd25 "Buffers.__init__" = true) (k25 : PySem.W.keepIn K (.ref fBuffers___init__) = true)
    (a26 : PySem.W.findIn K (.ref CBuffers) "serve" = some (some (.ref fBuffers_serve)))
    (i26 : PySem.W.isFn K (.ref fBuffers_serve) = true)
    (l26 : K.lookup fBuffers_serve = some ⟨oc26, od26, .func (PySem.W.fnOf "serve" "Buffers.serve" (defArgs s_Buffers_serve) (defBody s_Buffers_serve) (defScope s_Buffers_serve) .none kV26 dc26 pm26 an26 cd26 ct26), sl26⟩) (c26 : PySem.W.codeIn K cd26 "Buffers.serve" = true) (k26 : PySem.W.keepIn K (.ref fBuffers_serve) = true)
    (a27 : PySem.W.findIn K (.ref CBuffers) "pixel_count" = some (some (.ref fBuffers_pixel_count)))
    (i27 : PySem.W.isFn K (.ref fBuffers_pixel_count) = true)
    (l27 : K.lookup fBuffers_pixel_count = some ⟨oc27, od27, .func (PySem.W.fnOf "pixel_count" "Buffers.pixel_count" (defArgs s_Buffers_pixel_count) (defBody s_Buffers_pixel_count) (defScope s_Buffers_pixel_count) .none kV27 dc27 pm27 an27 cd27 ct27), sl27⟩) (c27 : PySem.W.codeIn K cd27 "Buffers.pixel_count" = true) (k27 : PySem.W.keepIn K (.ref fBuffers_pixel_count) = true)
    (a28 : PySem.W.findIn K (.ref CBuffers) "picture_of" = some (some (.ref fBuffers_picture_of)))
    (i28 : PySem.W.isFn K (.ref fBuffers_picture_of) = true)
    (l28 : K.lookup fBuffers_picture_of = some ⟨oc28, od28, .func (PySem.W.fnOf "picture_of" "Buffers.picture_of" (defArgs s_Buffers_picture_of) (defBody s_Buffers_picture_of) (defScope s_Buffers_picture_of) .none kV28 dc28 pm28 an28 cd28 ct28), sl28⟩) (c28 : PySem.W.codeIn K cd28 "Buffers.picture_of" = true) (k28 : PySem.W.keepIn K (.ref fBuffers_picture_of) = true)
    (a29 : PySem.W.findIn K (.ref CBuffers) "region_of" = some (some (.ref fBuffers_region_of)))
    (i29 : PySem.W.isFn K (.ref fBuffers_region_of) = true)
    (l29 : K.lookup fBuffers_region_of = some ⟨oc29, od29, .func (PySem.W.fnOf "region_of" "Buffers.region_of" (defArgs s_Buffers_region_of) (defBody s_Buffers_region_of) (defScope s_Buffers_region_of) .none kV29 dc29 pm29 an29 cd29 ct29), sl29⟩) (c29 : PySem.W.codeIn K cd29 "Buffers.region_of" = true) (k29 : PySem.W.keepIn K (.ref fBuffers_region_of) = true)
    (a30 : PySem.W.findIn K (.ref CBuffers) "_make_buffer" = some (some (.ref fBuffers__make_buffer)))
    (i30 : PySem.W.isFn K (.ref fBuffers__make_buffer) = true)
    (l30 : K.lookup fBuffers__make_buffer = some ⟨oc30, od30, .func (PySem.W.fnOf "_make_buffer" "Buffers._make_buffer" (defArgs s_Buffers__make_buffer) (defBody s_Buffers__make_buffer) (defScope s_Buffers__make_buffer) .none kV30 dc30 pm30 an30 cd30 ct30), sl30⟩) (c30 : PySem.W.codeIn K cd30 "Buffers._make_buffer" = true) (k30 : PySem.W.keepIn K (.ref fBuffers__make_buffer) = true)
    (a31 : PySem.W.findIn K (.ref CBuffers) "_serve_buffer" = some (some (.ref fBuffers__serve_buffer)))
    (i31 : PySem.W.isFn K (.ref fBuffers__serve_buffer) = true)
    (l31 : K.lookup fBuffers__serve_buffer = some ⟨oc31, od31, .func (PySem.W.fnOf "_serve_buffer" "Buffers._serve_buffer" (defArgs s_Buffers__serve_buffer) (defBody s_Buffers__serve_buffer) (defScope s_Buffers__serve_buffer) .none kV31 dc31 pm31 an31 cd31 ct31), sl31⟩) (c31 : PySem.W.codeIn K cd31 "Buffers._serve_buffer" = true) (k31 : PySem.W.keepIn K (.ref fBuffers__serve_buffer) = true)
    (a32 : PySem.W.findIn K (.ref CBuffers) "_write" = some (some (.ref fBuffers__write)))
    (i32 : PySem.W.isFn K (.ref fBuffers__write) = true)
    (l32 : K.lookup fBuffers__write = some ⟨oc32, od32, .func (PySem.W.fnOf "_write" "Buffers._write" (defArgs s_Buffers__write) (defBody s_Buffers__write) (defScope s_Buffers__write) .none kV32 dc32 pm32 an32 cd32 ct32), sl32⟩) (c32 : PySem.W.codeIn K cd32 "Buffers._write" = true) (k32 : PySem.W.keepIn K (.ref fBuffers__write) = true)
    (a33 : PySem.W.findIn K (.ref CBuffers) "_fill" = some (some (.ref fBuffers__fill)))
    (i33 : PySem.W.isFn K (.ref fBuffers__fill) = true)
    (l33 : K.lookup fBuffers__fill = some ⟨oc33, od33, .func (PySem.W.fnOf "_fill" "Buffers._fill" (defArgs s_Buffers__fill) (defBody s_Buffers__fill) (defScope s_Buffers__fill) .none kV33 dc33 pm33 an33 cd33 ct33), sl33⟩) (c33 : PySem.W.codeIn K cd33 "Buffers._fill" = true) (k33 : PySem.W.keepIn K (.ref fBuffers__fill) = true)
    (a34 : PySem.W.findIn K (.ref CBuffers) "_make_region" = some (some (.ref fBuffers__make_region)))
    (i34 : PySem.W.isFn K (.ref fBuffers__make_region) = true)
    (l34 : K.lookup fBuffers__make_region = some ⟨oc34, od34, .func (PySem.W.fnOf "_make_region" "Buffers._make_region" (defArgs s_Buffers__make_region) (defBody s_Buffers__make_region) (defScope s_Buffers__make_region) .none kV34 dc34 pm34 an34 cd34 ct34), sl34⟩) (c34 : PySem.W.codeIn K cd34 "Buffers._make_region" = true) (k34 : PySem.W.keepIn K (.ref fBuffers__make_region) = true)
    (a35 : PySem.W.findIn K (.ref CBuffers) "_serve_region" = some (some (.ref fBuffers__serve_region)))
    (i35 : PySem.W.isFn K (.ref fBuffers__serve_region) = true)
    (l35 : K.lookup fBuffers__serve_region = some ⟨oc35, od35, .func (PySem.W.fnOf "_serve_region" "Buffers._serve_region" (defArgs s_Buffers__serve_region) (defBody s_Buffers__serve_region) (defScope s_Buffers__serve_region) .none kV35 dc35 pm35 an35 cd35 ct35), sl35⟩) (c35 : PySem.W.codeIn K cd35 "Buffers._serve_region" = true) (k35 : PySem.W.keepIn K (.ref fBuffers__serve_region) = true)
    (a36 : PySem.W.findIn K (.ref CBuffers) "_changed_region" = some (some (.ref fBuffers__changed_region)))
    (i36 : PySem.W.isFn K (.ref fBuffers__changed_region) = true)
    (l36 : K.lookup fBuffers__changed_region = some ⟨oc36, od36, .func (PySem.W.fnOf "_changed_region" "Buffers._changed_region" (defArgs s_Buffers__changed_region) (defBody s_Buffers__changed_region) (defScope s_Buffers__changed_region) .none kV36 dc36 pm36 an36 cd36 ct36), sl36⟩) (c36 : PySem.W.codeIn K cd36 "Buffers._changed_region" = true) (k36 : PySem.W.keepIn K (.ref fBuffers__changed_region) = true)
    (a37 : PySem.W.findIn K (.ref CReply) "__init__" = some (some (.ref fReply___init__)))
    (i37 : PySem.W.isFn K (.ref fReply___init__) = true)
    (l37 : K.lookup fReply___init__ = some ⟨oc37, od37, .func (PySem.W.fnOf "__init__" "Reply.__init__" (defArgs s_Reply___init__) (defBody s_Reply___init__) (defScope s_Reply___init__) .none kV37 dc37 pm37 an37 cd37 ct37), sl37⟩) (c37 : PySem.W.codeIn K cd37 "Reply.__init__" = true) (k37 : PySem.W.keepIn K (.ref fReply___init__) = true)
    (a38 : PySem.W.findIn K (.ref CRequest) "__init__" = some (some (.ref fRequest___init__)))
    (i38 : PySem.W.isFn K (.ref fRequest___init__) = true)
    (l38 : K.lookup fRequest___init__ = some ⟨oc38, od38, .func (PySem.W.fnOf "__init__" "Request.__init__" (defArgs s_Request___init__) (defBody s_Request___init__) (defScope s_Request___init__) .none kV38 dc38 pm38 an38 cd38 ct38), sl38⟩) (c38 : PySem.W.codeIn K cd38 "Request.__init__" = true) (k38 : PySem.W.keepIn K (.ref fRequest___init__) = true)
    (z_abs : PySem.W.nsIn K mainGlobals "abs" = some none)
    (z_int : PySem.W.nsIn K mainGlobals "int" = some none)
    (z_len : PySem.W.nsIn K mainGlobals "len" = some none)
    (z_list : PySem.W.nsIn K mainGlobals "list" = some none)
    (z_max : PySem.W.nsIn K mainGlobals "max" = some none)
    (z_min : PySem.W.nsIn K mainGlobals "min" = some none)
    (z_range : PySem.W.nsIn K mainGlobals "range" = some none)
    (z_set : PySem.W.nsIn K mainGlobals "set" = some none)
    (z_sorted : PySem.W.nsIn K mainGlobals "sorted" = some none)
    (z_sum : PySem.W.nsIn K mainGlobals "sum" = some none)
    (z_super : PySem.W.nsIn K mainGlobals "super" = some none)
    (z_tuple : PySem.W.nsIn K mainGlobals "tuple" = some none)
    (z_zip : PySem.W.nsIn K mainGlobals "zip" = some none)
    (q_CLEAR : PySem.W.nsIn K mainGlobals "CLEAR" = some (some (.int (0) tCLEAR)))
    (q_MOST_BUFFERS : PySem.W.nsIn K mainGlobals "MOST_BUFFERS" = some (some (.int (32) tMOST_BUFFERS)))
    (q_MOST_PIXELS : PySem.W.nsIn K mainGlobals "MOST_PIXELS" = some (some (.int (16384) tMOST_PIXELS)))
    (q_LONGEST_SIDE : PySem.W.nsIn K mainGlobals "LONGEST_SIDE" = some (some (.int (128) tLONGEST_SIDE)))
    (q_MOST_REGIONS : PySem.W.nsIn K mainGlobals "MOST_REGIONS" = some (some (.int (32) tMOST_REGIONS)))
    (q_FARTHEST_PLACE : PySem.W.nsIn K mainGlobals "FARTHEST_PLACE" = some (some (.int (4096) tFARTHEST_PLACE)))
    (q_LONGEST_STRETCH : PySem.W.nsIn K mainGlobals "LONGEST_STRETCH" = some (some (.int (8192) tLONGEST_STRETCH)))
    (q_MOST_RECTANGLES : PySem.W.nsIn K mainGlobals "MOST_RECTANGLES" = some (some (.int (32) tMOST_RECTANGLES)))
    (uPicture : PySem.W.nsIn K mainGlobals "Picture" = some (some (.ref CPicture)))
    (pgPicture : PySem.W.plainGet K CPicture Str.empty = true) (hdPicture : PySem.W.hasDictIn K CPicture = true) (poPicture : PySem.W.plainOver K CPicture = true) (saPicture : PySem.W.findIn K (.ref CPicture) "__setattr__" = some (some (.builtin "object.__setattr__"))) (mkPicture : PySem.W.makesIn K CPicture = true) (kcPicture : PySem.W.keepIn K (.ref CPicture) = true)
    (nPicture_width : PySem.W.findIn K (.ref CPicture) "width" = some none)
    (nPicture_height : PySem.W.findIn K (.ref CPicture) "height" = some none)
    (nPicture_pixels : PySem.W.findIn K (.ref CPicture) "pixels" = some none)
    (uBuffers : PySem.W.nsIn K mainGlobals "Buffers" = some (some (.ref CBuffers)))
    (pgBuffers : PySem.W.plainGet K CBuffers Str.empty = true) (hdBuffers : PySem.W.hasDictIn K CBuffers = true) (poBuffers : PySem.W.plainOver K CBuffers = true) (saBuffers : PySem.W.findIn K (.ref CBuffers) "__setattr__" = some (some (.builtin "object.__setattr__"))) (mkBuffers : PySem.W.makesIn K CBuffers = true) (kcBuffers : PySem.W.keepIn K (.ref CBuffers) = true)
    (nBuffers__pictures : PySem.W.findIn K (.ref CBuffers) "_pictures" = some none)
    (nBuffers__regions : PySem.W.findIn K (.ref CBuffers) "_regions" = some none)
    (uReply : PySem.W.nsIn K mainGlobals "Reply" = some (some (.ref CReply)))
    (pgReply : PySem.W.plainGet K CReply Str.empty = true) (hdReply : PySem.W.hasDictIn K CReply = true) (poReply : PySem.W.plainOver K CReply = true) (saReply : PySem.W.findIn K (.ref CReply) "__setattr__" = some (some (.builtin "object.__setattr__"))) (mkReply : PySem.W.makesIn K CReply = true) (kcReply : PySem.W.keepIn K (.ref CReply) = true)
    (nReply_told : PySem.W.findIn K (.ref CReply) "told" = some none)
    (nReply_ended : PySem.W.findIn K (.ref CReply) "ended" = some none)
    (nReply_wishes : PySem.W.findIn K (.ref CReply) "wishes" = some none)
    (nReply_applied : PySem.W.findIn K (.ref CReply) "applied" = some none)
    (uRequest : PySem.W.nsIn K mainGlobals "Request" = some (some (.ref CRequest)))
    (pgRequest : PySem.W.plainGet K CRequest Str.empty = true) (hdRequest : PySem.W.hasDictIn K CRequest = true) (poRequest : PySem.W.plainOver K CRequest = true) (saRequest : PySem.W.findIn K (.ref CRequest) "__setattr__" = some (some (.builtin "object.__setattr__"))) (mkRequest : PySem.W.makesIn K CRequest = true) (kcRequest : PySem.W.keepIn K (.ref CRequest) = true)
    (nRequest_number : PySem.W.findIn K (.ref CRequest) "number" = some none)
    (nRequest_interface : PySem.W.findIn K (.ref CRequest) "interface" = some none)
    (nRequest_name : PySem.W.findIn K (.ref CRequest) "name" = some none)
    (nRequest_arguments : PySem.W.findIn K (.ref CRequest) "arguments" = some none)
    (nRequest_ends : PySem.W.findIn K (.ref CRequest) "ends" = some none)
    (uFault : PySem.W.nsIn K mainGlobals "Fault" = some (some (.ref CFault))) (loFault : K.lookup CFault = some (excClassObj nmFault qnFault CFault NFault bsFault bmFault true snFault sbFault abFault coFault ddFault k0Fault k1Fault k2Fault k3Fault k5Fault "ValueError.__new__")) (rmFault : PySem.HandSPX.refsVE bmFault = true) (keFault : PySem.W.keepIn K (.ref CFault) = true) (bxFault : PySem.W.subIn K (.ref CFault) (.type "BaseException") = some true) (txFault : PySem.W.typeIn K (.ref CFault) = some (.type "type")) (ixFault : PySem.W.isClsIn K CFault = true) (sxFault : PySem.W.subIn K (.ref CFault) (.ref CFault) = some true)
    (saFault : PySem.W.findIn K (.ref CFault) "__setattr__" = some (some (.builtin "object.__setattr__"))) (mrFault : PySem.W.mroIn K CFault (.ref CFault) = some true) (ksFault : PySem.W.ks_superIn K CFault CFault "__init__" = some (some (.builtin "ValueError.__init__"))) (veFault : PySem.W.subIn K (.ref CFault) (.type "ValueError") = some true) (tpFault : PySem.W.nsIn K PySem.cStatics "thirdparty.any" = some none)
    (gaFault : PySem.W.findIn K (.ref CFault) "__getattribute__" = some (some (.builtin "BaseException.__getattribute__"))) (gtFault : PySem.W.findIn K (.ref CFault) "__getattr__" = some none) (hxFault : PySem.W.hasDictIn K CFault = true) (fcFault : PySem.W.findIn K (.ref CFault) "__class__" = some (some (.builtin "object.__class__"))) (moFault : PySem.W.mroIn K CFault (.type "object") = some true) (sgFault : PySem.W.specialIn K (.builtin "object.__class__") "__get__" = some (some (.builtin "getset_descriptor.__get__"))) (tkFault : PySem.W.takesIn K (.builtin "object.__class__") = some true)
    (nFault_number : PySem.W.findIn K (.ref CFault) "number" = some none)
    (nFault_code : PySem.W.findIn K (.ref CFault) "code" = some none)
    (nFault_words : PySem.W.findIn K (.ref CFault) "words" = some none)
    : ∃ A : Adr, A.flaw = fa ∧ Txt0 P K mg A ∧ (∀ (s : Shared) (v : Value), BindsTo s A.dlaw ⟨[v], []⟩ [("script", v)]) := by
  have e := hfa.symm.trans (PySem.W.mg_of X G a22)
  cases e
  have F1 := fun_mk (st := s_number_at) l1 c1 k1
  have b1 := F1.binds (ps := ["octets", "at", "count"]) fun _ _ _ _ _ _ us hl => match us, hl with | [_, _, _], _ => rfl
  have F2 := fun_mk (st := s_rectangle_region) l2 c2 k2
  have b2 := F2.binds (ps := ["x", "y", "width", "height"]) fun _ _ _ _ _ _ us hl => match us, hl with | [_, _, _, _], _ => rfl
  have F3 := fun_mk (st := s_united) l3 c3 k3
  have b3 := F3.binds (ps := ["a", "b"]) fun _ _ _ _ _ _ us hl => match us, hl with | [_, _], _ => rfl
  have F4 := fun_mk (st := s_without) l4 c4 k4
  have b4 := F4.binds (ps := ["a", "b"]) fun _ _ _ _ _ _ us hl => match us, hl with | [_, _], _ => rfl
  have F5 := fun_mk (st := s_rectangles) l5 c5 k5
  have b5 := F5.binds (ps := ["region"]) fun _ _ _ _ _ _ us hl => match us, hl with | [_], _ => rfl
  have F6 := fun_mk (st := s__either) l6 c6 k6
  have b6 := F6.binds (ps := ["first", "second"]) fun _ _ _ _ _ _ us hl => match us, hl with | [_, _], _ => rfl
  have F7 := fun_mk (st := s__first_alone) l7 c7 k7
  have b7 := F7.binds (ps := ["first", "second"]) fun _ _ _ _ _ _ us hl => match us, hl with | [_, _], _ => rfl
  have F8 := fun_mk (st := s__combined) l8 c8 k8
  have b8 := F8.binds (ps := ["a", "b", "keeps"]) fun _ _ _ _ _ _ us hl => match us, hl with | [_, _, _], _ => rfl
  have F9 := fun_mk (st := s__combined_spans) l9 c9 k9
  have b9 := F9.binds (ps := ["a", "b", "keeps"]) fun _ _ _ _ _ _ us hl => match us, hl with | [_, _, _], _ => rfl
  have F10 := fun_mk (st := s__spans_of) l10 c10 k10
  have b10 := F10.binds (ps := ["band"]) fun _ _ _ _ _ _ us hl => match us, hl with | [_], _ => rfl
  have F11 := fun_mk (st := s__pieces) l11 c11 k11
  have b11 := F11.binds (ps := ["a", "b"]) fun _ _ _ _ _ _ us hl => match us, hl with | [_, _], _ => rfl
  have F12 := fun_mk (st := s__first_ending_behind) l12 c12 k12
  have b12 := F12.binds (ps := ["rows", "at", "place"]) fun _ _ _ _ _ _ us hl => match us, hl with | [_, _, _], _ => rfl
  have F13 := fun_mk (st := s__row_from) l13 c13 k13
  have b13 := F13.binds (ps := ["rows", "at", "place"]) fun _ _ _ _ _ _ us hl => match us, hl with | [_, _, _], _ => rfl
  have F14 := fun_mk (st := s__joined) l14 c14 k14
  have b14 := F14.binds (ps := ["bands"]) fun _ _ _ _ _ _ us hl => match us, hl with | [_], _ => rfl
  have F15 := fun_mk (st := s_clear_picture) l15 c15 k15
  have b15 := F15.binds (ps := ["width", "height"]) fun _ _ _ _ _ _ us hl => match us, hl with | [_, _], _ => rfl
  have F16 := fun_mk (st := s__is_near) l16 c16 k16
  have b16 := F16.binds (ps := ["place"]) fun _ _ _ _ _ _ us hl => match us, hl with | [_], _ => rfl
  have F17 := fun_mk (st := s__law_cell) l17 c17 k17
  have b17 := F17.binds (ps := ["script", "k"]) fun _ _ _ _ _ _ us hl => match us, hl with | [_, _], _ => rfl
  have F18 := fun_mk (st := s__law_row) l18 c18 k18
  have b18 := F18.binds (ps := ["script", "k"]) fun _ _ _ _ _ _ us hl => match us, hl with | [_, _], _ => rfl
  have F19 := fun_mk (st := s__law_ask) l19 c19 k19
  have b19 := F19.binds (ps := ["buffers", "number", "interface", "name", "arguments", "others"]) fun _ _ _ _ _ _ us hl => match us, hl with | [_, _, _, _, _, _], _ => rfl
  have F20 := fun_mk (st := s__law_buffers) l20 c20 k20
  have b20 := F20.binds (ps := ["script"]) fun _ _ _ _ _ _ us hl => match us, hl with | [_], _ => rfl
  have F21 := fun_mk (st := s__law_regions) l21 c21 k21
  have b21 := F21.binds (ps := ["script"]) fun _ _ _ _ _ _ us hl => match us, hl with | [_], _ => rfl
  have F22 := fun_mk (st := s_law) l22 c22 k22
  have b22 := F22.binds (ps := ["script"]) fun _ _ _ _ _ _ us hl => match us, hl with | [_], _ => rfl
  have F23 : FunSup K "__init__" "Fault.__init__" s_Fault___init__ fFault___init__ (PySem.W.fnX "__init__" "Fault.__init__" (defArgs s_Fault___init__) (defBody s_Fault___init__) (defScope s_Fault___init__) [("__class__", cc23)] .none kV23 dc23 pm23 an23 (.ref cda23) ct23) CFault := ⟨⟨_, _, _, _, _, _, _, _, _, _, _, _, _, _, _, _, _, _, _, rfl, l23, c23, ld23, rv23, lc23, lD23⟩⟩
  have b23 : Binds K (PySem.W.fnX "__init__" "Fault.__init__" (defArgs s_Fault___init__) (defBody s_Fault___init__) (defScope s_Fault___init__) [("__class__", cc23)] .none kV23 dc23 pm23 an23 (.ref cda23) ct23) ["self", "number", "code", "words"] [] := .all fun us hl => match us, hl with | [_, _, _, _], _ => rfl
  have F24 := fun_mk (st := s_Picture___init__) l24 c24 k24
  have b24 := F24.binds (ps := ["self", "width", "height", "pixels"]) fun _ _ _ _ _ _ us hl => match us, hl with | [_, _, _, _], _ => rfl
  have F25 := fun_mk (st := s_Buffers___init__) l25 c25 k25
  have b25 := F25.binds (ps := ["self"]) fun _ _ _ _ _ _ us hl => match us, hl with | [_], _ => rfl
  have F26 := fun_mk (st := s_Buffers_serve) l26 c26 k26
  have b26 := F26.binds (ps := ["self", "request", "other_pixels", "reply"]) fun _ _ _ _ _ _ us hl => match us, hl with | [_, _, _, _], _ => rfl
  have F27 := fun_mk (st := s_Buffers_pixel_count) l27 c27 k27
  have b27 := F27.binds (ps := ["self"]) fun _ _ _ _ _ _ us hl => match us, hl with | [_], _ => rfl
  have F28 := fun_mk (st := s_Buffers_picture_of) l28 c28 k28
  have b28 := F28.binds (ps := ["self", "number"]) fun _ _ _ _ _ _ us hl => match us, hl with | [_, _], _ => rfl
  have F29 := fun_mk (st := s_Buffers_region_of) l29 c29 k29
  have b29 := F29.binds (ps := ["self", "number"]) fun _ _ _ _ _ _ us hl => match us, hl with | [_, _], _ => rfl
  have F30 := fun_mk (st := s_Buffers__make_buffer) l30 c30 k30
  have b30 := F30.binds (ps := ["self", "request", "other_pixels"]) fun _ _ _ _ _ _ us hl => match us, hl with | [_, _, _], _ => rfl
  have F31 := fun_mk (st := s_Buffers__serve_buffer) l31 c31 k31
  have b31 := F31.binds (ps := ["self", "request"]) fun _ _ _ _ _ _ us hl => match us, hl with | [_, _], _ => rfl
  have F32 := fun_mk (st := s_Buffers__write) l32 c32 k32
  have b32 := F32.binds (ps := ["self", "request"]) fun _ _ _ _ _ _ us hl => match us, hl with | [_, _], _ => rfl
  have F33 := fun_mk (st := s_Buffers__fill) l33 c33 k33
  have b33 := F33.binds (ps := ["self", "request"]) fun _ _ _ _ _ _ us hl => match us, hl with | [_, _], _ => rfl
  have F34 := fun_mk (st := s_Buffers__make_region) l34 c34 k34
  have b34 := F34.binds (ps := ["self", "request"]) fun _ _ _ _ _ _ us hl => match us, hl with | [_, _], _ => rfl
  have F35 := fun_mk (st := s_Buffers__serve_region) l35 c35 k35
  have b35 := F35.binds (ps := ["self", "request"]) fun _ _ _ _ _ _ us hl => match us, hl with | [_, _], _ => rfl
  have F36 := fun_mk (st := s_Buffers__changed_region) l36 c36 k36
  have b36 := F36.binds (ps := ["self", "request"]) fun _ _ _ _ _ _ us hl => match us, hl with | [_, _], _ => rfl
  have F37 := fun_mk (st := s_Reply___init__) l37 c37 k37
  have b37 := F37.binds (ps := ["self"]) fun _ _ _ _ _ _ us hl => match us, hl with | [_], _ => rfl
  have F38 := fun_mk (st := s_Request___init__) l38 c38 k38
  have b38 := F38.binds (ps := ["self", "number", "interface", "name", "arguments", "ends"]) fun _ _ _ _ _ _ us hl => match us, hl with | [_, _, _, _, _, _], _ => rfl
  have oFault : OexC K CFault := ⟨⟨_, _, _, _, _, _, _, _, _, _, _, _, _, _, _, loFault, rmFault⟩, saFault, bxFault, txFault, keFault⟩
  refine ⟨{ fnumber_at := fnumber_at, dnumber_at := (PySem.W.fnOf "number_at" "number_at" (defArgs s_number_at) (defBody s_number_at) (defScope s_number_at) .none kV1 dc1 pm1 an1 cd1 ct1), frectangle_region := frectangle_region, drectangle_region := (PySem.W.fnOf "rectangle_region" "rectangle_region" (defArgs s_rectangle_region) (defBody s_rectangle_region) (defScope s_rectangle_region) .none kV2 dc2 pm2 an2 cd2 ct2), funited := funited, dunited := (PySem.W.fnOf "united" "united" (defArgs s_united) (defBody s_united) (defScope s_united) .none kV3 dc3 pm3 an3 cd3 ct3), fwithout := fwithout, dwithout := (PySem.W.fnOf "without" "without" (defArgs s_without) (defBody s_without) (defScope s_without) .none kV4 dc4 pm4 an4 cd4 ct4), frectangles := frectangles, drectangles := (PySem.W.fnOf "rectangles" "rectangles" (defArgs s_rectangles) (defBody s_rectangles) (defScope s_rectangles) .none kV5 dc5 pm5 an5 cd5 ct5), f_either := f_either, d_either := (PySem.W.fnOf "_either" "_either" (defArgs s__either) (defBody s__either) (defScope s__either) .none kV6 dc6 pm6 an6 cd6 ct6), f_first_alone := f_first_alone, d_first_alone := (PySem.W.fnOf "_first_alone" "_first_alone" (defArgs s__first_alone) (defBody s__first_alone) (defScope s__first_alone) .none kV7 dc7 pm7 an7 cd7 ct7), f_combined := f_combined, d_combined := (PySem.W.fnOf "_combined" "_combined" (defArgs s__combined) (defBody s__combined) (defScope s__combined) .none kV8 dc8 pm8 an8 cd8 ct8), f_combined_spans := f_combined_spans, d_combined_spans := (PySem.W.fnOf "_combined_spans" "_combined_spans" (defArgs s__combined_spans) (defBody s__combined_spans) (defScope s__combined_spans) .none kV9 dc9 pm9 an9 cd9 ct9), f_spans_of := f_spans_of, d_spans_of := (PySem.W.fnOf "_spans_of" "_spans_of" (defArgs s__spans_of) (defBody s__spans_of) (defScope s__spans_of) .none kV10 dc10 pm10 an10 cd10 ct10), f_pieces := f_pieces, d_pieces := (PySem.W.fnOf "_pieces" "_pieces" (defArgs s__pieces) (defBody s__pieces) (defScope s__pieces) .none kV11 dc11 pm11 an11 cd11 ct11), f_first_ending_behind := f_first_ending_behind, d_first_ending_behind := (PySem.W.fnOf "_first_ending_behind" "_first_ending_behind" (defArgs s__first_ending_behind) (defBody s__first_ending_behind) (defScope s__first_ending_behind) .none kV12 dc12 pm12 an12 cd12 ct12), f_row_from := f_row_from, d_row_from := (PySem.W.fnOf "_row_from" "_row_from" (defArgs s__row_from) (defBody s__row_from) (defScope s__row_from) .none kV13 dc13 pm13 an13 cd13 ct13), f_joined := f_joined, d_joined := (PySem.W.fnOf "_joined" "_joined" (defArgs s__joined) (defBody s__joined) (defScope s__joined) .none kV14 dc14 pm14 an14 cd14 ct14), fclear_picture := fclear_picture, dclear_picture := (PySem.W.fnOf "clear_picture" "clear_picture" (defArgs s_clear_picture) (defBody s_clear_picture) (defScope s_clear_picture) .none kV15 dc15 pm15 an15 cd15 ct15), f_is_near := f_is_near, d_is_near := (PySem.W.fnOf "_is_near" "_is_near" (defArgs s__is_near) (defBody s__is_near) (defScope s__is_near) .none kV16 dc16 pm16 an16 cd16 ct16), f_law_cell := f_law_cell, d_law_cell := (PySem.W.fnOf "_law_cell" "_law_cell" (defArgs s__law_cell) (defBody s__law_cell) (defScope s__law_cell) .none kV17 dc17 pm17 an17 cd17 ct17), f_law_row := f_law_row, d_law_row := (PySem.W.fnOf "_law_row" "_law_row" (defArgs s__law_row) (defBody s__law_row) (defScope s__law_row) .none kV18 dc18 pm18 an18 cd18 ct18), f_law_ask := f_law_ask, d_law_ask := (PySem.W.fnOf "_law_ask" "_law_ask" (defArgs s__law_ask) (defBody s__law_ask) (defScope s__law_ask) .none kV19 dc19 pm19 an19 cd19 ct19), f_law_buffers := f_law_buffers, d_law_buffers := (PySem.W.fnOf "_law_buffers" "_law_buffers" (defArgs s__law_buffers) (defBody s__law_buffers) (defScope s__law_buffers) .none kV20 dc20 pm20 an20 cd20 ct20), f_law_regions := f_law_regions, d_law_regions := (PySem.W.fnOf "_law_regions" "_law_regions" (defArgs s__law_regions) (defBody s__law_regions) (defScope s__law_regions) .none kV21 dc21 pm21 an21 cd21 ct21), flaw := fa, dlaw := (PySem.W.fnOf "law" "law" (defArgs s_law) (defBody s_law) (defScope s_law) .none kV22 dc22 pm22 an22 cd22 ct22), fFault___init__ := fFault___init__, dFault___init__ := (PySem.W.fnX "__init__" "Fault.__init__" (defArgs s_Fault___init__) (defBody s_Fault___init__) (defScope s_Fault___init__) [("__class__", cc23)] .none kV23 dc23 pm23 an23 (.ref cda23) ct23), fPicture___init__ := fPicture___init__, dPicture___init__ := (PySem.W.fnOf "__init__" "Picture.__init__" (defArgs s_Picture___init__) (defBody s_Picture___init__) (defScope s_Picture___init__) .none kV24 dc24 pm24 an24 cd24 ct24), fBuffers___init__ := fBuffers___init__, dBuffers___init__ := (PySem.W.fnOf "__init__" "Buffers.__init__" (defArgs s_Buffers___init__) (defBody s_Buffers___init__) (defScope s_Buffers___init__) .none kV25 dc25 pm25 an25 cd25 ct25), fBuffers_serve := fBuffers_serve, dBuffers_serve := (PySem.W.fnOf "serve" "Buffers.serve" (defArgs s_Buffers_serve) (defBody s_Buffers_serve) (defScope s_Buffers_serve) .none kV26 dc26 pm26 an26 cd26 ct26), fBuffers_pixel_count := fBuffers_pixel_count, dBuffers_pixel_count := (PySem.W.fnOf "pixel_count" "Buffers.pixel_count" (defArgs s_Buffers_pixel_count) (defBody s_Buffers_pixel_count) (defScope s_Buffers_pixel_count) .none kV27 dc27 pm27 an27 cd27 ct27), fBuffers_picture_of := fBuffers_picture_of, dBuffers_picture_of := (PySem.W.fnOf "picture_of" "Buffers.picture_of" (defArgs s_Buffers_picture_of) (defBody s_Buffers_picture_of) (defScope s_Buffers_picture_of) .none kV28 dc28 pm28 an28 cd28 ct28), fBuffers_region_of := fBuffers_region_of, dBuffers_region_of := (PySem.W.fnOf "region_of" "Buffers.region_of" (defArgs s_Buffers_region_of) (defBody s_Buffers_region_of) (defScope s_Buffers_region_of) .none kV29 dc29 pm29 an29 cd29 ct29), fBuffers__make_buffer := fBuffers__make_buffer, dBuffers__make_buffer := (PySem.W.fnOf "_make_buffer" "Buffers._make_buffer" (defArgs s_Buffers__make_buffer) (defBody s_Buffers__make_buffer) (defScope s_Buffers__make_buffer) .none kV30 dc30 pm30 an30 cd30 ct30), fBuffers__serve_buffer := fBuffers__serve_buffer, dBuffers__serve_buffer := (PySem.W.fnOf "_serve_buffer" "Buffers._serve_buffer" (defArgs s_Buffers__serve_buffer) (defBody s_Buffers__serve_buffer) (defScope s_Buffers__serve_buffer) .none kV31 dc31 pm31 an31 cd31 ct31), fBuffers__write := fBuffers__write, dBuffers__write := (PySem.W.fnOf "_write" "Buffers._write" (defArgs s_Buffers__write) (defBody s_Buffers__write) (defScope s_Buffers__write) .none kV32 dc32 pm32 an32 cd32 ct32), fBuffers__fill := fBuffers__fill, dBuffers__fill := (PySem.W.fnOf "_fill" "Buffers._fill" (defArgs s_Buffers__fill) (defBody s_Buffers__fill) (defScope s_Buffers__fill) .none kV33 dc33 pm33 an33 cd33 ct33), fBuffers__make_region := fBuffers__make_region, dBuffers__make_region := (PySem.W.fnOf "_make_region" "Buffers._make_region" (defArgs s_Buffers__make_region) (defBody s_Buffers__make_region) (defScope s_Buffers__make_region) .none kV34 dc34 pm34 an34 cd34 ct34), fBuffers__serve_region := fBuffers__serve_region, dBuffers__serve_region := (PySem.W.fnOf "_serve_region" "Buffers._serve_region" (defArgs s_Buffers__serve_region) (defBody s_Buffers__serve_region) (defScope s_Buffers__serve_region) .none kV35 dc35 pm35 an35 cd35 ct35), fBuffers__changed_region := fBuffers__changed_region, dBuffers__changed_region := (PySem.W.fnOf "_changed_region" "Buffers._changed_region" (defArgs s_Buffers__changed_region) (defBody s_Buffers__changed_region) (defScope s_Buffers__changed_region) .none kV36 dc36 pm36 an36 cd36 ct36), fReply___init__ := fReply___init__, dReply___init__ := (PySem.W.fnOf "__init__" "Reply.__init__" (defArgs s_Reply___init__) (defBody s_Reply___init__) (defScope s_Reply___init__) .none kV37 dc37 pm37 an37 cd37 ct37), fRequest___init__ := fRequest___init__, dRequest___init__ := (PySem.W.fnOf "__init__" "Request.__init__" (defArgs s_Request___init__) (defBody s_Request___init__) (defScope s_Request___init__) .none kV38 dc38 pm38 an38 cd38 ct38), tCLEAR := tCLEAR, tMOST_BUFFERS := tMOST_BUFFERS, tMOST_PIXELS := tMOST_PIXELS, tLONGEST_SIDE := tLONGEST_SIDE, tMOST_REGIONS := tMOST_REGIONS, tFARTHEST_PLACE := tFARTHEST_PLACE, tLONGEST_STRETCH := tLONGEST_STRETCH, tMOST_RECTANGLES := tMOST_RECTANGLES, CPicture := CPicture, CBuffers := CBuffers, CReply := CReply, CRequest := CRequest, CFault := CFault }, rfl, { Fnumber_at := F1, bnumber_at := b1, gnumber_at := PySem.W.mg_of X G a1, knumber_at := k1, Frectangle_region := F2, brectangle_region := b2, grectangle_region := PySem.W.mg_of X G a2, krectangle_region := k2, Funited := F3, bunited := b3, gunited := PySem.W.mg_of X G a3, kunited := k3, Fwithout := F4, bwithout := b4, gwithout := PySem.W.mg_of X G a4, kwithout := k4, Frectangles := F5, brectangles := b5, grectangles := PySem.W.mg_of X G a5, krectangles := k5, F_either := F6, b_either := b6, g_either := PySem.W.mg_of X G a6, k_either := k6, F_first_alone := F7, b_first_alone := b7, g_first_alone := PySem.W.mg_of X G a7, k_first_alone := k7, F_combined := F8, b_combined := b8, g_combined := PySem.W.mg_of X G a8, k_combined := k8, F_combined_spans := F9, b_combined_spans := b9, g_combined_spans := PySem.W.mg_of X G a9, k_combined_spans := k9, F_spans_of := F10, b_spans_of := b10, g_spans_of := PySem.W.mg_of X G a10, k_spans_of := k10, F_pieces := F11, b_pieces := b11, g_pieces := PySem.W.mg_of X G a11, k_pieces := k11, F_first_ending_behind := F12, b_first_ending_behind := b12, g_first_ending_behind := PySem.W.mg_of X G a12, k_first_ending_behind := k12, F_row_from := F13, b_row_from := b13, g_row_from := PySem.W.mg_of X G a13, k_row_from := k13, F_joined := F14, b_joined := b14, g_joined := PySem.W.mg_of X G a14, k_joined := k14, Fclear_picture := F15, bclear_picture := b15, gclear_picture := PySem.W.mg_of X G a15, kclear_picture := k15, F_is_near := F16, b_is_near := b16, g_is_near := PySem.W.mg_of X G a16, k_is_near := k16, F_law_cell := F17, b_law_cell := b17, g_law_cell := PySem.W.mg_of X G a17, k_law_cell := k17, F_law_row := F18, b_law_row := b18, g_law_row := PySem.W.mg_of X G a18, k_law_row := k18, F_law_ask := F19, b_law_ask := b19, g_law_ask := PySem.W.mg_of X G a19, k_law_ask := k19, F_law_buffers := F20, b_law_buffers := b20, g_law_buffers := PySem.W.mg_of X G a20, k_law_buffers := k20, F_law_regions := F21, b_law_regions := b21, g_law_regions := PySem.W.mg_of X G a21, k_law_regions := k21, Flaw := F22, blaw := b22, glaw := PySem.W.mg_of X G a22, klaw := k22, FFault___init__ := F23, bFault___init__ := b23, MFault := a23, TFault := ty23, FPicture___init__ := F24, bPicture___init__ := b24, MPicture := ⟨mkPicture, a24, i24, kcPicture⟩, FBuffers___init__ := F25, bBuffers___init__ := b25, MBuffers := ⟨mkBuffers, a25, i25, kcBuffers⟩, FBuffers_serve := F26, bBuffers_serve := b26, mBuffers_serve := ⟨a26, i26, k26⟩, FBuffers_pixel_count := F27, bBuffers_pixel_count := b27, mBuffers_pixel_count := ⟨a27, i27, k27⟩, FBuffers_picture_of := F28, bBuffers_picture_of := b28, mBuffers_picture_of := ⟨a28, i28, k28⟩, FBuffers_region_of := F29, bBuffers_region_of := b29, mBuffers_region_of := ⟨a29, i29, k29⟩, FBuffers__make_buffer := F30, bBuffers__make_buffer := b30, mBuffers__make_buffer := ⟨a30, i30, k30⟩, FBuffers__serve_buffer := F31, bBuffers__serve_buffer := b31, mBuffers__serve_buffer := ⟨a31, i31, k31⟩, FBuffers__write := F32, bBuffers__write := b32, mBuffers__write := ⟨a32, i32, k32⟩, FBuffers__fill := F33, bBuffers__fill := b33, mBuffers__fill := ⟨a33, i33, k33⟩, FBuffers__make_region := F34, bBuffers__make_region := b34, mBuffers__make_region := ⟨a34, i34, k34⟩, FBuffers__serve_region := F35, bBuffers__serve_region := b35, mBuffers__serve_region := ⟨a35, i35, k35⟩, FBuffers__changed_region := F36, bBuffers__changed_region := b36, mBuffers__changed_region := ⟨a36, i36, k36⟩, FReply___init__ := F37, bReply___init__ := b37, MReply := ⟨mkReply, a37, i37, kcReply⟩, FRequest___init__ := F38, bRequest___init__ := b38, MRequest := ⟨mkRequest, a38, i38, kcRequest⟩, abs := PySem.W.mg_none_of X G z_abs, int := PySem.W.mg_none_of X G z_int, len := PySem.W.mg_none_of X G z_len, list := PySem.W.mg_none_of X G z_list, max := PySem.W.mg_none_of X G z_max, min := PySem.W.mg_none_of X G z_min, range := PySem.W.mg_none_of X G z_range, set := PySem.W.mg_none_of X G z_set, sorted := PySem.W.mg_none_of X G z_sorted, sum := PySem.W.mg_none_of X G z_sum, super := PySem.W.mg_none_of X G z_super, tuple := PySem.W.mg_none_of X G z_tuple, zip := PySem.W.mg_none_of X G z_zip, gCLEAR := PySem.W.mg_of X G q_CLEAR, gMOST_BUFFERS := PySem.W.mg_of X G q_MOST_BUFFERS, gMOST_PIXELS := PySem.W.mg_of X G q_MOST_PIXELS, gLONGEST_SIDE := PySem.W.mg_of X G q_LONGEST_SIDE, gMOST_REGIONS := PySem.W.mg_of X G q_MOST_REGIONS, gFARTHEST_PLACE := PySem.W.mg_of X G q_FARTHEST_PLACE, gLONGEST_STRETCH := PySem.W.mg_of X G q_LONGEST_STRETCH, gMOST_RECTANGLES := PySem.W.mg_of X G q_MOST_RECTANGLES, clPicture := ⟨pgPicture, hdPicture, poPicture, saPicture⟩, gPicture := PySem.W.mg_of X G uPicture, nPicture_width := nPicture_width, nPicture_height := nPicture_height, nPicture_pixels := nPicture_pixels, clBuffers := ⟨pgBuffers, hdBuffers, poBuffers, saBuffers⟩, gBuffers := PySem.W.mg_of X G uBuffers, nBuffers__pictures := nBuffers__pictures, nBuffers__regions := nBuffers__regions, clReply := ⟨pgReply, hdReply, poReply, saReply⟩, gReply := PySem.W.mg_of X G uReply, nReply_told := nReply_told, nReply_ended := nReply_ended, nReply_wishes := nReply_wishes, nReply_applied := nReply_applied, clRequest := ⟨pgRequest, hdRequest, poRequest, saRequest⟩, gRequest := PySem.W.mg_of X G uRequest, nRequest_number := nRequest_number, nRequest_interface := nRequest_interface, nRequest_name := nRequest_name, nRequest_arguments := nRequest_arguments, nRequest_ends := nRequest_ends, gFault := PySem.W.mg_of X G uFault, oFault := oFault, vFault := ⟨oFault, mrFault, ksFault, veFault, tpFault⟩, xfFault := ⟨gaFault, gtFault, bxFault, hxFault⟩, iXFault := ⟨gaFault, gtFault, bxFault, hxFault, fcFault, sgFault, tkFault, moFault⟩, kFault := keFault, bxFault := bxFault, txFault := txFault, exFault := exm_self bxFault ixFault txFault sxFault, nFault_number := nFault_number, nFault_code := nFault_code, nFault_words := nFault_words, prg := hP }, fun s v => .of_eq rfl⟩
theorem walk {l : PySem.W.OpenLaw} {q : Program} {loose : List Str} {XP : (Str → Option Value) → Heap → Prop} {YP : World → Heap → Prop} {d : DefRec} {K : Params → PySem.W.Frag} (hn : l.most = some 63) (hdf : d.params.defaults = [])
    (hY : ∀ (w : World) (h : Heap), YP w h → (K w.params).In h)
    (F : ∀ (w : World) (mg : Str → Option Value) (fa : Addr) (h : Heap), (K w.params).In h → h.Ns mainGlobals mg → mg d.name = some (.ref fa) →
      ∃ A : Adr, A.flaw = fa ∧ Txt0 l.prog (K w.params) mg A ∧ (∀ (s : Shared) (v : Value), BindsTo s A.dlaw ⟨[v], []⟩ [("script", v)])) :
    PySem.W.WalkO q loose XP YP l.row.toRowW d [] (fun f vs => PySem.call f vs) :=
  L2.walk_of (n := 63) (k := 11) (x := "script") (CX := fun _ => CX0) (sp := fun w => sp_law (K w.params)) hn (by decide) hdf ⟨rfl, by decide, by decide⟩ hY (fun w mg fa h X G hfa => by
    obtain ⟨A, rfl, T, b⟩ := F w mg fa h X G hfa
    exact ⟨A.dlaw, b, fun base _ _ => ok_law T⟩) (fun _ _ a ns hl _ hS => ⟨a, ns, rfl, hS, hl, fun _ => rfl⟩) fun _ _ _ _ _ z => z
/-! ### the head: what the top leaves, by one kernel run -/
def KF (PP : Params) : PySem.W.Frag :=
(nat_lit 2, Obj.mk Value.none none (Data.dict #[]) #[]) ::
(nat_lit 3, Obj.mk (Value.type "dict") none (Data.dict #[DictEntry.mk (PyData.keyHash PP (Str.ofString "__name__")) (Value.str (Str.ofString "__name__") 165) (Value.str (Str.ofString "law_sillwatch_k29_buffers_and_regions_bounds") 998), DictEntry.mk (PyData.keyHash PP (Str.ofString "__doc__")) (Value.str (Str.ofString "__doc__") 166) Value.none, DictEntry.mk (PyData.keyHash PP (Str.ofString "__package__")) (Value.str (Str.ofString "__package__") 167) Value.none, DictEntry.mk (PyData.keyHash PP (Str.ofString "__loader__")) (Value.str (Str.ofString "__loader__") 168) (Value.builtin "__main__.__loader__#opaque"), DictEntry.mk (PyData.keyHash PP (Str.ofString "__spec__")) (Value.str (Str.ofString "__spec__") 169) Value.none, DictEntry.mk (PyData.keyHash PP (Str.ofString "__annotations__")) (Value.str (Str.ofString "__annotations__") 170) (Value.ref 6), DictEntry.mk (PyData.keyHash PP (Str.ofString "__builtins__")) (Value.str (Str.ofString "__builtins__") 171) (Value.ref 4), DictEntry.mk (PyData.keyHash PP (Str.ofString "__file__")) (Value.str (Str.ofString "__file__") 173) (Value.str (Str.ofString "/claim/cut.py") 172), DictEntry.mk (PyData.keyHash PP (Str.ofString "__cached__")) (Value.str (Str.ofString "__cached__") 174) Value.none, DictEntry.mk (PyData.keyHash PP (Str.ofString "_wall")) (Value.str (Str.ofString "_wall") 193) (Value.ref 21), DictEntry.mk (PyData.keyHash PP (Str.ofString "DisplayError")) (Value.str (Str.ofString "DisplayError") 213) (Value.ref 31), DictEntry.mk (PyData.keyHash PP (Str.ofString "BadMessage")) (Value.str (Str.ofString "BadMessage") 229) (Value.ref 44), DictEntry.mk (PyData.keyHash PP (Str.ofString "MessageTooLong")) (Value.str (Str.ofString "MessageTooLong") 245) (Value.ref 56), DictEntry.mk (PyData.keyHash PP (Str.ofString "Fault")) (Value.str (Str.ofString "Fault") 276) (Value.ref 77), DictEntry.mk (PyData.keyHash PP (Str.ofString "GREATEST_NUMBER")) (Value.str (Str.ofString "GREATEST_NUMBER") 280) (Value.int 4294967295 279), DictEntry.mk (PyData.keyHash PP (Str.ofString "LEAST_INT")) (Value.str (Str.ofString "LEAST_INT") 283) (Value.int (-2147483648) 282), DictEntry.mk (PyData.keyHash PP (Str.ofString "GREATEST_INT")) (Value.str (Str.ofString "GREATEST_INT") 285) (Value.int 2147483647 284), DictEntry.mk (PyData.keyHash PP (Str.ofString "LONGEST_TEXT")) (Value.str (Str.ofString "LONGEST_TEXT") 287) (Value.int 1000 286), DictEntry.mk (PyData.keyHash PP (Str.ofString "MOST_OCTETS")) (Value.str (Str.ofString "MOST_OCTETS") 289) (Value.int 16384 288), DictEntry.mk (PyData.keyHash PP (Str.ofString "_FIRST_CODE")) (Value.str (Str.ofString "_FIRST_CODE") 291) (Value.int 32 290), DictEntry.mk (PyData.keyHash PP (Str.ofString "_LAST_CODE")) (Value.str (Str.ofString "_LAST_CODE") 293) (Value.int 126 292), DictEntry.mk (PyData.keyHash PP (Str.ofString "_PERCENT_CODE")) (Value.str (Str.ofString "_PERCENT_CODE") 295) (Value.int 37 294), DictEntry.mk (PyData.keyHash PP (Str.ofString "is_integer")) (Value.str (Str.ofString "is_integer") 304) (Value.ref 86), DictEntry.mk (PyData.keyHash PP (Str.ofString "is_text")) (Value.str (Str.ofString "is_text") 310) (Value.ref 91), DictEntry.mk (PyData.keyHash PP (Str.ofString "number_octets")) (Value.str (Str.ofString "number_octets") 316) (Value.ref 96), DictEntry.mk (PyData.keyHash PP (Str.ofString "number_at")) (Value.str (Str.ofString "number_at") 322) (Value.ref 101), DictEntry.mk (PyData.keyHash PP (Str.ofString "field_octets")) (Value.str (Str.ofString "field_octets") 332) (Value.ref 108), DictEntry.mk (PyData.keyHash PP (Str.ofString "_is_code")) (Value.str (Str.ofString "_is_code") 339) (Value.ref 115), DictEntry.mk (PyData.keyHash PP (Str.ofString "_is_of")) (Value.str (Str.ofString "_is_of") 347) (Value.ref 122), DictEntry.mk (PyData.keyHash PP (Str.ofString "_are_octets")) (Value.str (Str.ofString "_are_octets") 353) (Value.ref 127), DictEntry.mk (PyData.keyHash PP (Str.ofString "_is_bound")) (Value.str (Str.ofString "_is_bound") 360) (Value.ref 134), DictEntry.mk (PyData.keyHash PP (Str.ofString "_text_octets")) (Value.str (Str.ofString "_text_octets") 366) (Value.ref 139), DictEntry.mk (PyData.keyHash PP (Str.ofString "_padded")) (Value.str (Str.ofString "_padded") 373) (Value.ref 146), DictEntry.mk (PyData.keyHash PP (Str.ofString "rectangle_region")) (Value.str (Str.ofString "rectangle_region") 385) (Value.ref 153), DictEntry.mk (PyData.keyHash PP (Str.ofString "united")) (Value.str (Str.ofString "united") 393) (Value.ref 160), DictEntry.mk (PyData.keyHash PP (Str.ofString "without")) (Value.str (Str.ofString "without") 401) (Value.ref 167), DictEntry.mk (PyData.keyHash PP (Str.ofString "rectangles")) (Value.str (Str.ofString "rectangles") 407) (Value.ref 172), DictEntry.mk (PyData.keyHash PP (Str.ofString "_either")) (Value.str (Str.ofString "_either") 415) (Value.ref 179), DictEntry.mk (PyData.keyHash PP (Str.ofString "_first_alone")) (Value.str (Str.ofString "_first_alone") 423) (Value.ref 186), DictEntry.mk (PyData.keyHash PP (Str.ofString "_combined")) (Value.str (Str.ofString "_combined") 429) (Value.ref 191), DictEntry.mk (PyData.keyHash PP (Str.ofString "_combined_spans")) (Value.str (Str.ofString "_combined_spans") 443) (Value.ref 198), DictEntry.mk (PyData.keyHash PP (Str.ofString "_spans_of")) (Value.str (Str.ofString "_spans_of") 450) (Value.ref 205), DictEntry.mk (PyData.keyHash PP (Str.ofString "_pieces")) (Value.str (Str.ofString "_pieces") 456) (Value.ref 210), DictEntry.mk (PyData.keyHash PP (Str.ofString "_first_ending_behind")) (Value.str (Str.ofString "_first_ending_behind") 465) (Value.ref 217), DictEntry.mk (PyData.keyHash PP (Str.ofString "_row_from")) (Value.str (Str.ofString "_row_from") 474) (Value.ref 224), DictEntry.mk (PyData.keyHash PP (Str.ofString "_joined")) (Value.str (Str.ofString "_joined") 485) (Value.ref 231), DictEntry.mk (PyData.keyHash PP (Str.ofString "CLEAR")) (Value.str (Str.ofString "CLEAR") 489) (Value.int 0 488), DictEntry.mk (PyData.keyHash PP (Str.ofString "Picture")) (Value.str (Str.ofString "Picture") 547) (Value.ref 269), DictEntry.mk (PyData.keyHash PP (Str.ofString "clear_picture")) (Value.str (Str.ofString "clear_picture") 555) (Value.ref 280), DictEntry.mk (PyData.keyHash PP (Str.ofString "MOST_BUFFERS")) (Value.str (Str.ofString "MOST_BUFFERS") 559) (Value.int 32 558), DictEntry.mk (PyData.keyHash PP (Str.ofString "MOST_PIXELS")) (Value.str (Str.ofString "MOST_PIXELS") 561) (Value.int 16384 560), DictEntry.mk (PyData.keyHash PP (Str.ofString "LONGEST_SIDE")) (Value.str (Str.ofString "LONGEST_SIDE") 563) (Value.int 128 562), DictEntry.mk (PyData.keyHash PP (Str.ofString "MOST_REGIONS")) (Value.str (Str.ofString "MOST_REGIONS") 565) (Value.int 32 564), DictEntry.mk (PyData.keyHash PP (Str.ofString "FARTHEST_PLACE")) (Value.str (Str.ofString "FARTHEST_PLACE") 567) (Value.int 4096 566), DictEntry.mk (PyData.keyHash PP (Str.ofString "LONGEST_STRETCH")) (Value.str (Str.ofString "LONGEST_STRETCH") 569) (Value.int 8192 568), DictEntry.mk (PyData.keyHash PP (Str.ofString "MOST_RECTANGLES")) (Value.str (Str.ofString "MOST_RECTANGLES") 571) (Value.int 32 570), DictEntry.mk (PyData.keyHash PP (Str.ofString "Buffers")) (Value.str (Str.ofString "Buffers") 712) (Value.ref 370), DictEntry.mk (PyData.keyHash PP (Str.ofString "_is_near")) (Value.str (Str.ofString "_is_near") 719) (Value.ref 381), DictEntry.mk (PyData.keyHash PP (Str.ofString "HEADER_SIZE")) (Value.str (Str.ofString "HEADER_SIZE") 723) (Value.int 8 722), DictEntry.mk (PyData.keyHash PP (Str.ofString "GREATEST_SIZE")) (Value.str (Str.ofString "GREATEST_SIZE") 725) (Value.int 20480 724), DictEntry.mk (PyData.keyHash PP (Str.ofString "GREATEST_OPCODE")) (Value.str (Str.ofString "GREATEST_OPCODE") 727) (Value.int 65535 726), DictEntry.mk (PyData.keyHash PP (Str.ofString "MOST_ARGUMENTS")) (Value.str (Str.ofString "MOST_ARGUMENTS") 729) (Value.int 20 728), DictEntry.mk (PyData.keyHash PP (Str.ofString "encode_message")) (Value.str (Str.ofString "encode_message") 742) (Value.ref 388), DictEntry.mk (PyData.keyHash PP (Str.ofString "_EVENTS")) (Value.str (Str.ofString "_EVENTS") 879) (Value.ref 389), DictEntry.mk (PyData.keyHash PP (Str.ofString "event_octets")) (Value.str (Str.ofString "event_octets") 892) (Value.ref 488), DictEntry.mk (PyData.keyHash PP (Str.ofString "_opcode_of")) (Value.str (Str.ofString "_opcode_of") 898) (Value.ref 493), DictEntry.mk (PyData.keyHash PP (Str.ofString "Reply")) (Value.str (Str.ofString "Reply") 958) (Value.ref 531), DictEntry.mk (PyData.keyHash PP (Str.ofString "Request")) (Value.str (Str.ofString "Request") 997) (Value.ref 552), DictEntry.mk (PyData.keyHash PP (Str.ofString "_law_cell")) (Value.str (Str.ofString "_law_cell") 1008) (Value.ref 563), DictEntry.mk (PyData.keyHash PP (Str.ofString "_law_row")) (Value.str (Str.ofString "_law_row") 1019) (Value.ref 570), DictEntry.mk (PyData.keyHash PP (Str.ofString "_law_ask")) (Value.str (Str.ofString "_law_ask") 1032) (Value.ref 577), DictEntry.mk (PyData.keyHash PP (Str.ofString "_law_buffers")) (Value.str (Str.ofString "_law_buffers") 1049) (Value.ref 584), DictEntry.mk (PyData.keyHash PP (Str.ofString "_law_regions")) (Value.str (Str.ofString "_law_regions") 1067) (Value.ref 591), DictEntry.mk (PyData.keyHash PP (Str.ofString "law")) (Value.str (Str.ofString "law") 1074) (Value.ref 598)] 74) #[]) ::
(nat_lit 15, Obj.mk (Value.type "tuple") none (Data.seq #[]) #[]) ::
(nat_lit 17, Obj.mk (Value.type "tuple") none (Data.seq #[Value.str (Str.ofString "k") 190]) #[]) ::
(nat_lit 18, Obj.mk (Value.type "tuple") none (Data.seq #[]) #[]) ::
(nat_lit 20, Obj.mk (Value.type "code") none (Data.fields #[Value.str (Str.ofString "_wall") 187, Value.str (Str.ofString "_wall") 188, Value.str (Str.ofString "/claim/cut.py") 189, Value.int 1 0, Value.int 1 0, Value.int 0 0, Value.int 0 0, Value.int 3 0, Value.ref 15, Value.bool true, Value.int 181 0, Value.ref 16, Value.none, Value.ref 17, Value.ref 18, Value.ref 19, Value.int 191 0, Value.int 1 0, Value.str (Str.ofString "/claim/cut.py") 192]) #[]) ::
(nat_lit 21, Obj.mk (Value.type "function") none (Data.func (FuncData.mk (Str.ofString "_wall") (Str.ofString "_wall") (defArgs (topS 0)) (.stmts (defBody (topS 0))) (defScope (topS 0)) 3 [] Value.none Value.none Value.none (Value.str (Str.ofString "__main__") 164) none (Value.ref 20) Value.none 0)) #[]) ::
(nat_lit 22, Obj.mk (Value.type "tuple") none (Data.seq #[Value.type "ValueError"]) #[]) ::
(nat_lit 29, Obj.mk (Value.type "tuple") none (Data.seq #[]) #[]) ::
(nat_lit 30, Obj.mk (Value.type "dict") none (Data.dict #[DictEntry.mk (PyData.keyHash PP (Str.ofString "__module__")) (Value.str (Str.ofString "__module__") 203) (Value.str (Str.ofString "sillwatch.errors") 194), DictEntry.mk (PyData.keyHash PP (Str.ofString "__firstlineno__")) (Value.str (Str.ofString "__firstlineno__") 207) (Value.int 5 206), DictEntry.mk (PyData.keyHash PP (Str.ofString "__static_attributes__")) (Value.str (Str.ofString "__static_attributes__") 208) (Value.ref 29), DictEntry.mk (PyData.keyHash PP (Str.ofString "__weakref__")) (Value.str (Str.ofString "__weakref__") 210) (Value.ref 32), DictEntry.mk (PyData.keyHash PP (Str.ofString "__doc__")) (Value.str (Str.ofString "__doc__") 211) Value.none] 3) #[]) ::
(nat_lit 31, Obj.mk (Value.type "type") none (Data.cls (ClassData.mk (Str.ofString "DisplayError") [Value.type "ValueError"] [Value.ref 31, Value.type "ValueError", Value.type "Exception", Value.type "BaseException", Value.type "object"] 30 (Str.ofString "DisplayError") true [] [Value.ref 44, Value.ref 56, Value.ref 77] false none false)) #[some (Value.ref 22), none, some (Value.str (Str.ofString "DisplayError") 196), some (Value.str (Str.ofString "DisplayError") 204), some (Value.builtin "ValueError.__new__"), some (Value.bool true)]) ::
(nat_lit 32, Obj.mk (Value.type "getset_descriptor") none (Data.fields #[Value.str (Str.ofString "__weakref__") 209, Value.ref 31, Value.builtin "ExceptionGroup.__weakref__", Value.none]) #[]) ::
(nat_lit 35, Obj.mk (Value.type "tuple") none (Data.seq #[Value.ref 31]) #[]) ::
(nat_lit 42, Obj.mk (Value.type "tuple") none (Data.seq #[]) #[]) ::
(nat_lit 43, Obj.mk (Value.type "dict") none (Data.dict #[DictEntry.mk (PyData.keyHash PP (Str.ofString "__module__")) (Value.str (Str.ofString "__module__") 221) (Value.str (Str.ofString "sillwatch.errors") 194), DictEntry.mk (PyData.keyHash PP (Str.ofString "__firstlineno__")) (Value.str (Str.ofString "__firstlineno__") 225) (Value.int 7 224), DictEntry.mk (PyData.keyHash PP (Str.ofString "__static_attributes__")) (Value.str (Str.ofString "__static_attributes__") 226) (Value.ref 42), DictEntry.mk (PyData.keyHash PP (Str.ofString "__doc__")) (Value.str (Str.ofString "__doc__") 227) Value.none] 2) #[]) ::
(nat_lit 44, Obj.mk (Value.type "type") none (Data.cls (ClassData.mk (Str.ofString "BadMessage") [Value.ref 31] [Value.ref 44, Value.ref 31, Value.type "ValueError", Value.type "Exception", Value.type "BaseException", Value.type "object"] 43 (Str.ofString "BadMessage") true [] [] false none false)) #[some (Value.ref 35), none, some (Value.str (Str.ofString "BadMessage") 214), some (Value.str (Str.ofString "BadMessage") 222), some (Value.builtin "ValueError.__new__"), some (Value.bool true)]) ::
(nat_lit 47, Obj.mk (Value.type "tuple") none (Data.seq #[Value.ref 31]) #[]) ::
(nat_lit 54, Obj.mk (Value.type "tuple") none (Data.seq #[]) #[]) ::
(nat_lit 55, Obj.mk (Value.type "dict") none (Data.dict #[DictEntry.mk (PyData.keyHash PP (Str.ofString "__module__")) (Value.str (Str.ofString "__module__") 237) (Value.str (Str.ofString "sillwatch.errors") 194), DictEntry.mk (PyData.keyHash PP (Str.ofString "__firstlineno__")) (Value.str (Str.ofString "__firstlineno__") 241) (Value.int 9 240), DictEntry.mk (PyData.keyHash PP (Str.ofString "__static_attributes__")) (Value.str (Str.ofString "__static_attributes__") 242) (Value.ref 54), DictEntry.mk (PyData.keyHash PP (Str.ofString "__doc__")) (Value.str (Str.ofString "__doc__") 243) Value.none] 2) #[]) ::
(nat_lit 56, Obj.mk (Value.type "type") none (Data.cls (ClassData.mk (Str.ofString "MessageTooLong") [Value.ref 31] [Value.ref 56, Value.ref 31, Value.type "ValueError", Value.type "Exception", Value.type "BaseException", Value.type "object"] 55 (Str.ofString "MessageTooLong") true [] [] false none false)) #[some (Value.ref 47), none, some (Value.str (Str.ofString "MessageTooLong") 230), some (Value.str (Str.ofString "MessageTooLong") 238), some (Value.builtin "ValueError.__new__"), some (Value.bool true)]) ::
(nat_lit 59, Obj.mk (Value.type "tuple") none (Data.seq #[Value.ref 31]) #[]) ::
(nat_lit 62, Obj.mk (Value.type "cell") none (Data.cell (some (Value.ref 77))) #[]) ::
(nat_lit 67, Obj.mk (Value.type "tuple") none (Data.seq #[Value.ref 62]) #[]) ::
(nat_lit 68, Obj.mk (Value.type "tuple") none (Data.seq #[Value.str (Str.ofString "__class__") 261]) #[]) ::
(nat_lit 70, Obj.mk (Value.type "tuple") none (Data.seq #[Value.str (Str.ofString "self") 262, Value.str (Str.ofString "number") 263, Value.str (Str.ofString "code") 264, Value.str (Str.ofString "words") 265]) #[]) ::
(nat_lit 71, Obj.mk (Value.type "tuple") none (Data.seq #[]) #[]) ::
(nat_lit 73, Obj.mk (Value.type "code") none (Data.fields #[Value.str (Str.ofString "__init__") 258, Value.str (Str.ofString "Fault.__init__") 259, Value.str (Str.ofString "/claim/cut.py") 260, Value.int 13 0, Value.int 4 0, Value.int 0 0, Value.int 0 0, Value.int 3 0, Value.ref 68, Value.bool true, Value.int 181 0, Value.ref 69, Value.none, Value.ref 70, Value.ref 71, Value.ref 72, Value.int 266 0, Value.int 13 0, Value.str (Str.ofString "/claim/cut.py") 267]) #[]) ::
(nat_lit 74, Obj.mk (Value.type "function") none (Data.func (FuncData.mk (Str.ofString "__init__") (Str.ofString "Fault.__init__") (defArgs (inClass (topS 5) 0)) (.stmts (defBody (inClass (topS 5) 0))) (defScope (inClass (topS 5) 0)) 3 [(Str.ofString "__class__", 62)] Value.none Value.none Value.none (Value.str (Str.ofString "sillwatch.errors") 194) none (Value.ref 73) (Value.ref 67) 0)) #[]) ::
(nat_lit 75, Obj.mk (Value.type "tuple") none (Data.seq #[Value.str (Str.ofString "code") 269, Value.str (Str.ofString "number") 270, Value.str (Str.ofString "words") 271]) #[]) ::
(nat_lit 76, Obj.mk (Value.type "dict") none (Data.dict #[DictEntry.mk (PyData.keyHash PP (Str.ofString "__module__")) (Value.str (Str.ofString "__module__") 253) (Value.str (Str.ofString "sillwatch.errors") 194), DictEntry.mk (PyData.keyHash PP (Str.ofString "__firstlineno__")) (Value.str (Str.ofString "__firstlineno__") 257) (Value.int 11 256), DictEntry.mk (PyData.keyHash PP (Str.ofString "__init__")) (Value.str (Str.ofString "__init__") 268) (Value.ref 74), DictEntry.mk (PyData.keyHash PP (Str.ofString "__static_attributes__")) (Value.str (Str.ofString "__static_attributes__") 272) (Value.ref 75), DictEntry.mk (PyData.keyHash PP (Str.ofString "__doc__")) (Value.str (Str.ofString "__doc__") 274) Value.none] 3) #[]) ::
(nat_lit 77, Obj.mk (Value.type "type") none (Data.cls (ClassData.mk (Str.ofString "Fault") [Value.ref 31] [Value.ref 77, Value.ref 31, Value.type "ValueError", Value.type "Exception", Value.type "BaseException", Value.type "object"] 76 (Str.ofString "Fault") true [] [] false none false)) #[some (Value.ref 59), none, some (Value.str (Str.ofString "Fault") 246), some (Value.str (Str.ofString "Fault") 254), some (Value.builtin "ValueError.__new__"), some (Value.bool true)]) ::
(nat_lit 80, Obj.mk (Value.type "tuple") none (Data.seq #[]) #[]) ::
(nat_lit 82, Obj.mk (Value.type "tuple") none (Data.seq #[Value.str (Str.ofString "value") 299, Value.str (Str.ofString "least") 300, Value.str (Str.ofString "greatest") 301]) #[]) ::
(nat_lit 83, Obj.mk (Value.type "tuple") none (Data.seq #[]) #[]) ::
(nat_lit 85, Obj.mk (Value.type "code") none (Data.fields #[Value.str (Str.ofString "is_integer") 296, Value.str (Str.ofString "is_integer") 297, Value.str (Str.ofString "/claim/cut.py") 298, Value.int 27 0, Value.int 3 0, Value.int 0 0, Value.int 0 0, Value.int 3 0, Value.ref 80, Value.bool true, Value.int 181 0, Value.ref 81, Value.none, Value.ref 82, Value.ref 83, Value.ref 84, Value.int 302 0, Value.int 27 0, Value.str (Str.ofString "/claim/cut.py") 303]) #[]) ::
(nat_lit 86, Obj.mk (Value.type "function") none (Data.func (FuncData.mk (Str.ofString "is_integer") (Str.ofString "is_integer") (defArgs (topS 15)) (.stmts (defBody (topS 15))) (defScope (topS 15)) 3 [] Value.none Value.none Value.none (Value.str (Str.ofString "sillwatch.octets.fields") 277) none (Value.ref 85) Value.none 0)) #[]) ::
(nat_lit 87, Obj.mk (Value.type "tuple") none (Data.seq #[]) #[]) ::
(nat_lit 90, Obj.mk (Value.type "code") none (Data.fields #[Value.str (Str.ofString "is_text") 305, Value.str (Str.ofString "is_text") 306, Value.str (Str.ofString "/claim/cut.py") 307, Value.int 29 0, Value.int 1 0, Value.int 0 0, Value.int 0 0, Value.int 3 0, Value.ref 87, Value.bool true, Value.int 181 0, Value.ref 88, Value.none, Value.none, Value.none, Value.ref 89, Value.int 308 0, Value.int 29 0, Value.str (Str.ofString "/claim/cut.py") 309]) #[]) ::
(nat_lit 91, Obj.mk (Value.type "function") none (Data.func (FuncData.mk (Str.ofString "is_text") (Str.ofString "is_text") (defArgs (topS 16)) (.stmts (defBody (topS 16))) (defScope (topS 16)) 3 [] Value.none Value.none Value.none (Value.str (Str.ofString "sillwatch.octets.fields") 277) none (Value.ref 90) Value.none 0)) #[]) ::
(nat_lit 92, Obj.mk (Value.type "tuple") none (Data.seq #[]) #[]) ::
(nat_lit 95, Obj.mk (Value.type "code") none (Data.fields #[Value.str (Str.ofString "number_octets") 311, Value.str (Str.ofString "number_octets") 312, Value.str (Str.ofString "/claim/cut.py") 313, Value.int 31 0, Value.int 2 0, Value.int 0 0, Value.int 0 0, Value.int 3 0, Value.ref 92, Value.bool true, Value.int 181 0, Value.ref 93, Value.none, Value.none, Value.none, Value.ref 94, Value.int 314 0, Value.int 31 0, Value.str (Str.ofString "/claim/cut.py") 315]) #[]) ::
(nat_lit 96, Obj.mk (Value.type "function") none (Data.func (FuncData.mk (Str.ofString "number_octets") (Str.ofString "number_octets") (defArgs (topS 17)) (.stmts (defBody (topS 17))) (defScope (topS 17)) 3 [] Value.none Value.none Value.none (Value.str (Str.ofString "sillwatch.octets.fields") 277) none (Value.ref 95) Value.none 0)) #[]) ::
(nat_lit 97, Obj.mk (Value.type "tuple") none (Data.seq #[]) #[]) ::
(nat_lit 100, Obj.mk (Value.type "code") none (Data.fields #[Value.str (Str.ofString "number_at") 317, Value.str (Str.ofString "number_at") 318, Value.str (Str.ofString "/claim/cut.py") 319, Value.int 33 0, Value.int 3 0, Value.int 0 0, Value.int 0 0, Value.int 3 0, Value.ref 97, Value.bool true, Value.int 181 0, Value.ref 98, Value.none, Value.none, Value.none, Value.ref 99, Value.int 320 0, Value.int 33 0, Value.str (Str.ofString "/claim/cut.py") 321]) #[]) ::
(nat_lit 101, Obj.mk (Value.type "function") none (Data.func (FuncData.mk (Str.ofString "number_at") (Str.ofString "number_at") (defArgs (topS 18)) (.stmts (defBody (topS 18))) (defScope (topS 18)) 3 [] Value.none Value.none Value.none (Value.str (Str.ofString "sillwatch.octets.fields") 277) none (Value.ref 100) Value.none 0)) #[]) ::
(nat_lit 102, Obj.mk (Value.type "tuple") none (Data.seq #[]) #[]) ::
(nat_lit 104, Obj.mk (Value.type "tuple") none (Data.seq #[Value.str (Str.ofString "kind") 326, Value.str (Str.ofString "value") 327, Value.str (Str.ofString "text") 328, Value.str (Str.ofString "number") 329]) #[]) ::
(nat_lit 105, Obj.mk (Value.type "tuple") none (Data.seq #[]) #[]) ::
(nat_lit 107, Obj.mk (Value.type "code") none (Data.fields #[Value.str (Str.ofString "field_octets") 323, Value.str (Str.ofString "field_octets") 324, Value.str (Str.ofString "/claim/cut.py") 325, Value.int 35 0, Value.int 2 0, Value.int 0 0, Value.int 0 0, Value.int 3 0, Value.ref 102, Value.bool true, Value.int 181 0, Value.ref 103, Value.none, Value.ref 104, Value.ref 105, Value.ref 106, Value.int 330 0, Value.int 35 0, Value.str (Str.ofString "/claim/cut.py") 331]) #[]) ::
(nat_lit 108, Obj.mk (Value.type "function") none (Data.func (FuncData.mk (Str.ofString "field_octets") (Str.ofString "field_octets") (defArgs (topS 19)) (.stmts (defBody (topS 19))) (defScope (topS 19)) 3 [] Value.none Value.none Value.none (Value.str (Str.ofString "sillwatch.octets.fields") 277) none (Value.ref 107) Value.none 0)) #[]) ::
(nat_lit 109, Obj.mk (Value.type "tuple") none (Data.seq #[]) #[]) ::
(nat_lit 111, Obj.mk (Value.type "tuple") none (Data.seq #[Value.str (Str.ofString "code") 336]) #[]) ::
(nat_lit 112, Obj.mk (Value.type "tuple") none (Data.seq #[]) #[]) ::
(nat_lit 114, Obj.mk (Value.type "code") none (Data.fields #[Value.str (Str.ofString "_is_code") 333, Value.str (Str.ofString "_is_code") 334, Value.str (Str.ofString "/claim/cut.py") 335, Value.int 46 0, Value.int 1 0, Value.int 0 0, Value.int 0 0, Value.int 3 0, Value.ref 109, Value.bool true, Value.int 181 0, Value.ref 110, Value.none, Value.ref 111, Value.ref 112, Value.ref 113, Value.int 337 0, Value.int 46 0, Value.str (Str.ofString "/claim/cut.py") 338]) #[]) ::
(nat_lit 115, Obj.mk (Value.type "function") none (Data.func (FuncData.mk (Str.ofString "_is_code") (Str.ofString "_is_code") (defArgs (topS 20)) (.stmts (defBody (topS 20))) (defScope (topS 20)) 3 [] Value.none Value.none Value.none (Value.str (Str.ofString "sillwatch.octets.fields") 277) none (Value.ref 114) Value.none 0)) #[]) ::
(nat_lit 116, Obj.mk (Value.type "tuple") none (Data.seq #[]) #[]) ::
(nat_lit 118, Obj.mk (Value.type "tuple") none (Data.seq #[Value.str (Str.ofString "kind") 343, Value.str (Str.ofString "value") 344]) #[]) ::
(nat_lit 119, Obj.mk (Value.type "tuple") none (Data.seq #[]) #[]) ::
(nat_lit 121, Obj.mk (Value.type "code") none (Data.fields #[Value.str (Str.ofString "_is_of") 340, Value.str (Str.ofString "_is_of") 341, Value.str (Str.ofString "/claim/cut.py") 342, Value.int 48 0, Value.int 2 0, Value.int 0 0, Value.int 0 0, Value.int 3 0, Value.ref 116, Value.bool true, Value.int 181 0, Value.ref 117, Value.none, Value.ref 118, Value.ref 119, Value.ref 120, Value.int 345 0, Value.int 48 0, Value.str (Str.ofString "/claim/cut.py") 346]) #[]) ::
(nat_lit 122, Obj.mk (Value.type "function") none (Data.func (FuncData.mk (Str.ofString "_is_of") (Str.ofString "_is_of") (defArgs (topS 21)) (.stmts (defBody (topS 21))) (defScope (topS 21)) 3 [] Value.none Value.none Value.none (Value.str (Str.ofString "sillwatch.octets.fields") 277) none (Value.ref 121) Value.none 0)) #[]) ::
(nat_lit 123, Obj.mk (Value.type "tuple") none (Data.seq #[]) #[]) ::
(nat_lit 126, Obj.mk (Value.type "code") none (Data.fields #[Value.str (Str.ofString "_are_octets") 348, Value.str (Str.ofString "_are_octets") 349, Value.str (Str.ofString "/claim/cut.py") 350, Value.int 60 0, Value.int 1 0, Value.int 0 0, Value.int 0 0, Value.int 3 0, Value.ref 123, Value.bool true, Value.int 181 0, Value.ref 124, Value.none, Value.none, Value.none, Value.ref 125, Value.int 351 0, Value.int 60 0, Value.str (Str.ofString "/claim/cut.py") 352]) #[]) ::
(nat_lit 127, Obj.mk (Value.type "function") none (Data.func (FuncData.mk (Str.ofString "_are_octets") (Str.ofString "_are_octets") (defArgs (topS 22)) (.stmts (defBody (topS 22))) (defScope (topS 22)) 3 [] Value.none Value.none Value.none (Value.str (Str.ofString "sillwatch.octets.fields") 277) none (Value.ref 126) Value.none 0)) #[]) ::
(nat_lit 128, Obj.mk (Value.type "tuple") none (Data.seq #[]) #[]) ::
(nat_lit 130, Obj.mk (Value.type "tuple") none (Data.seq #[Value.str (Str.ofString "value") 357]) #[]) ::
(nat_lit 131, Obj.mk (Value.type "tuple") none (Data.seq #[]) #[]) ::
(nat_lit 133, Obj.mk (Value.type "code") none (Data.fields #[Value.str (Str.ofString "_is_bound") 354, Value.str (Str.ofString "_is_bound") 355, Value.str (Str.ofString "/claim/cut.py") 356, Value.int 64 0, Value.int 1 0, Value.int 0 0, Value.int 0 0, Value.int 3 0, Value.ref 128, Value.bool true, Value.int 181 0, Value.ref 129, Value.none, Value.ref 130, Value.ref 131, Value.ref 132, Value.int 358 0, Value.int 64 0, Value.str (Str.ofString "/claim/cut.py") 359]) #[]) ::
(nat_lit 134, Obj.mk (Value.type "function") none (Data.func (FuncData.mk (Str.ofString "_is_bound") (Str.ofString "_is_bound") (defArgs (topS 23)) (.stmts (defBody (topS 23))) (defScope (topS 23)) 3 [] Value.none Value.none Value.none (Value.str (Str.ofString "sillwatch.octets.fields") 277) none (Value.ref 133) Value.none 0)) #[]) ::
(nat_lit 135, Obj.mk (Value.type "tuple") none (Data.seq #[]) #[]) ::
(nat_lit 138, Obj.mk (Value.type "code") none (Data.fields #[Value.str (Str.ofString "_text_octets") 361, Value.str (Str.ofString "_text_octets") 362, Value.str (Str.ofString "/claim/cut.py") 363, Value.int 68 0, Value.int 1 0, Value.int 0 0, Value.int 0 0, Value.int 3 0, Value.ref 135, Value.bool true, Value.int 181 0, Value.ref 136, Value.none, Value.none, Value.none, Value.ref 137, Value.int 364 0, Value.int 68 0, Value.str (Str.ofString "/claim/cut.py") 365]) #[]) ::
(nat_lit 139, Obj.mk (Value.type "function") none (Data.func (FuncData.mk (Str.ofString "_text_octets") (Str.ofString "_text_octets") (defArgs (topS 24)) (.stmts (defBody (topS 24))) (defScope (topS 24)) 3 [] Value.none Value.none Value.none (Value.str (Str.ofString "sillwatch.octets.fields") 277) none (Value.ref 138) Value.none 0)) #[]) ::
(nat_lit 140, Obj.mk (Value.type "tuple") none (Data.seq #[]) #[]) ::
(nat_lit 142, Obj.mk (Value.type "tuple") none (Data.seq #[Value.str (Str.ofString "octets") 370]) #[]) ::
(nat_lit 143, Obj.mk (Value.type "tuple") none (Data.seq #[]) #[]) ::
(nat_lit 145, Obj.mk (Value.type "code") none (Data.fields #[Value.str (Str.ofString "_padded") 367, Value.str (Str.ofString "_padded") 368, Value.str (Str.ofString "/claim/cut.py") 369, Value.int 71 0, Value.int 1 0, Value.int 0 0, Value.int 0 0, Value.int 3 0, Value.ref 140, Value.bool true, Value.int 181 0, Value.ref 141, Value.none, Value.ref 142, Value.ref 143, Value.ref 144, Value.int 371 0, Value.int 71 0, Value.str (Str.ofString "/claim/cut.py") 372]) #[]) ::
(nat_lit 146, Obj.mk (Value.type "function") none (Data.func (FuncData.mk (Str.ofString "_padded") (Str.ofString "_padded") (defArgs (topS 25)) (.stmts (defBody (topS 25))) (defScope (topS 25)) 3 [] Value.none Value.none Value.none (Value.str (Str.ofString "sillwatch.octets.fields") 277) none (Value.ref 145) Value.none 0)) #[]) ::
(nat_lit 147, Obj.mk (Value.type "tuple") none (Data.seq #[]) #[]) ::
(nat_lit 149, Obj.mk (Value.type "tuple") none (Data.seq #[Value.str (Str.ofString "x") 379, Value.str (Str.ofString "y") 380, Value.str (Str.ofString "width") 381, Value.str (Str.ofString "height") 382]) #[]) ::
(nat_lit 150, Obj.mk (Value.type "tuple") none (Data.seq #[]) #[]) ::
(nat_lit 152, Obj.mk (Value.type "code") none (Data.fields #[Value.str (Str.ofString "rectangle_region") 376, Value.str (Str.ofString "rectangle_region") 377, Value.str (Str.ofString "/claim/cut.py") 378, Value.int 74 0, Value.int 4 0, Value.int 0 0, Value.int 0 0, Value.int 3 0, Value.ref 147, Value.bool true, Value.int 181 0, Value.ref 148, Value.none, Value.ref 149, Value.ref 150, Value.ref 151, Value.int 383 0, Value.int 74 0, Value.str (Str.ofString "/claim/cut.py") 384]) #[]) ::
(nat_lit 153, Obj.mk (Value.type "function") none (Data.func (FuncData.mk (Str.ofString "rectangle_region") (Str.ofString "rectangle_region") (defArgs (topS 27)) (.stmts (defBody (topS 27))) (defScope (topS 27)) 3 [] Value.none Value.none Value.none (Value.str (Str.ofString "sillwatch.regions.bands") 374) none (Value.ref 152) Value.none 0)) #[]) ::
(nat_lit 154, Obj.mk (Value.type "tuple") none (Data.seq #[]) #[]) ::
(nat_lit 156, Obj.mk (Value.type "tuple") none (Data.seq #[Value.str (Str.ofString "a") 389, Value.str (Str.ofString "b") 390]) #[]) ::
(nat_lit 157, Obj.mk (Value.type "tuple") none (Data.seq #[]) #[]) ::
(nat_lit 159, Obj.mk (Value.type "code") none (Data.fields #[Value.str (Str.ofString "united") 386, Value.str (Str.ofString "united") 387, Value.str (Str.ofString "/claim/cut.py") 388, Value.int 78 0, Value.int 2 0, Value.int 0 0, Value.int 0 0, Value.int 3 0, Value.ref 154, Value.bool true, Value.int 181 0, Value.ref 155, Value.none, Value.ref 156, Value.ref 157, Value.ref 158, Value.int 391 0, Value.int 78 0, Value.str (Str.ofString "/claim/cut.py") 392]) #[]) ::
(nat_lit 160, Obj.mk (Value.type "function") none (Data.func (FuncData.mk (Str.ofString "united") (Str.ofString "united") (defArgs (topS 28)) (.stmts (defBody (topS 28))) (defScope (topS 28)) 3 [] Value.none Value.none Value.none (Value.str (Str.ofString "sillwatch.regions.bands") 374) none (Value.ref 159) Value.none 0)) #[]) ::
(nat_lit 161, Obj.mk (Value.type "tuple") none (Data.seq #[]) #[]) ::
(nat_lit 163, Obj.mk (Value.type "tuple") none (Data.seq #[Value.str (Str.ofString "a") 397, Value.str (Str.ofString "b") 398]) #[]) ::
(nat_lit 164, Obj.mk (Value.type "tuple") none (Data.seq #[]) #[]) ::
(nat_lit 166, Obj.mk (Value.type "code") none (Data.fields #[Value.str (Str.ofString "without") 394, Value.str (Str.ofString "without") 395, Value.str (Str.ofString "/claim/cut.py") 396, Value.int 80 0, Value.int 2 0, Value.int 0 0, Value.int 0 0, Value.int 3 0, Value.ref 161, Value.bool true, Value.int 181 0, Value.ref 162, Value.none, Value.ref 163, Value.ref 164, Value.ref 165, Value.int 399 0, Value.int 80 0, Value.str (Str.ofString "/claim/cut.py") 400]) #[]) ::
(nat_lit 167, Obj.mk (Value.type "function") none (Data.func (FuncData.mk (Str.ofString "without") (Str.ofString "without") (defArgs (topS 29)) (.stmts (defBody (topS 29))) (defScope (topS 29)) 3 [] Value.none Value.none Value.none (Value.str (Str.ofString "sillwatch.regions.bands") 374) none (Value.ref 166) Value.none 0)) #[]) ::
(nat_lit 168, Obj.mk (Value.type "tuple") none (Data.seq #[]) #[]) ::
(nat_lit 171, Obj.mk (Value.type "code") none (Data.fields #[Value.str (Str.ofString "rectangles") 402, Value.str (Str.ofString "rectangles") 403, Value.str (Str.ofString "/claim/cut.py") 404, Value.int 82 0, Value.int 1 0, Value.int 0 0, Value.int 0 0, Value.int 3 0, Value.ref 168, Value.bool true, Value.int 181 0, Value.ref 169, Value.none, Value.none, Value.none, Value.ref 170, Value.int 405 0, Value.int 82 0, Value.str (Str.ofString "/claim/cut.py") 406]) #[]) ::
(nat_lit 172, Obj.mk (Value.type "function") none (Data.func (FuncData.mk (Str.ofString "rectangles") (Str.ofString "rectangles") (defArgs (topS 30)) (.stmts (defBody (topS 30))) (defScope (topS 30)) 3 [] Value.none Value.none Value.none (Value.str (Str.ofString "sillwatch.regions.bands") 374) none (Value.ref 171) Value.none 0)) #[]) ::
(nat_lit 173, Obj.mk (Value.type "tuple") none (Data.seq #[]) #[]) ::
(nat_lit 175, Obj.mk (Value.type "tuple") none (Data.seq #[Value.str (Str.ofString "first") 411, Value.str (Str.ofString "second") 412]) #[]) ::
(nat_lit 176, Obj.mk (Value.type "tuple") none (Data.seq #[]) #[]) ::
(nat_lit 178, Obj.mk (Value.type "code") none (Data.fields #[Value.str (Str.ofString "_either") 408, Value.str (Str.ofString "_either") 409, Value.str (Str.ofString "/claim/cut.py") 410, Value.int 84 0, Value.int 2 0, Value.int 0 0, Value.int 0 0, Value.int 3 0, Value.ref 173, Value.bool true, Value.int 181 0, Value.ref 174, Value.none, Value.ref 175, Value.ref 176, Value.ref 177, Value.int 413 0, Value.int 84 0, Value.str (Str.ofString "/claim/cut.py") 414]) #[]) ::
(nat_lit 179, Obj.mk (Value.type "function") none (Data.func (FuncData.mk (Str.ofString "_either") (Str.ofString "_either") (defArgs (topS 31)) (.stmts (defBody (topS 31))) (defScope (topS 31)) 3 [] Value.none Value.none Value.none (Value.str (Str.ofString "sillwatch.regions.bands") 374) none (Value.ref 178) Value.none 0)) #[]) ::
(nat_lit 180, Obj.mk (Value.type "tuple") none (Data.seq #[]) #[]) ::
(nat_lit 182, Obj.mk (Value.type "tuple") none (Data.seq #[Value.str (Str.ofString "first") 419, Value.str (Str.ofString "second") 420]) #[]) ::
(nat_lit 183, Obj.mk (Value.type "tuple") none (Data.seq #[]) #[]) ::
(nat_lit 185, Obj.mk (Value.type "code") none (Data.fields #[Value.str (Str.ofString "_first_alone") 416, Value.str (Str.ofString "_first_alone") 417, Value.str (Str.ofString "/claim/cut.py") 418, Value.int 86 0, Value.int 2 0, Value.int 0 0, Value.int 0 0, Value.int 3 0, Value.ref 180, Value.bool true, Value.int 181 0, Value.ref 181, Value.none, Value.ref 182, Value.ref 183, Value.ref 184, Value.int 421 0, Value.int 86 0, Value.str (Str.ofString "/claim/cut.py") 422]) #[]) ::
(nat_lit 186, Obj.mk (Value.type "function") none (Data.func (FuncData.mk (Str.ofString "_first_alone") (Str.ofString "_first_alone") (defArgs (topS 32)) (.stmts (defBody (topS 32))) (defScope (topS 32)) 3 [] Value.none Value.none Value.none (Value.str (Str.ofString "sillwatch.regions.bands") 374) none (Value.ref 185) Value.none 0)) #[]) ::
(nat_lit 187, Obj.mk (Value.type "tuple") none (Data.seq #[]) #[]) ::
(nat_lit 190, Obj.mk (Value.type "code") none (Data.fields #[Value.str (Str.ofString "_combined") 424, Value.str (Str.ofString "_combined") 425, Value.str (Str.ofString "/claim/cut.py") 426, Value.int 88 0, Value.int 3 0, Value.int 0 0, Value.int 0 0, Value.int 3 0, Value.ref 187, Value.bool true, Value.int 181 0, Value.ref 188, Value.none, Value.none, Value.none, Value.ref 189, Value.int 427 0, Value.int 88 0, Value.str (Str.ofString "/claim/cut.py") 428]) #[]) ::
(nat_lit 191, Obj.mk (Value.type "function") none (Data.func (FuncData.mk (Str.ofString "_combined") (Str.ofString "_combined") (defArgs (topS 33)) (.stmts (defBody (topS 33))) (defScope (topS 33)) 3 [] Value.none Value.none Value.none (Value.str (Str.ofString "sillwatch.regions.bands") 374) none (Value.ref 190) Value.none 0)) #[]) ::
(nat_lit 192, Obj.mk (Value.type "tuple") none (Data.seq #[]) #[]) ::
(nat_lit 194, Obj.mk (Value.type "tuple") none (Data.seq #[Value.str (Str.ofString "a") 433, Value.str (Str.ofString "b") 434, Value.str (Str.ofString "keeps") 435, Value.str (Str.ofString "spans") 436, Value.str (Str.ofString "begin") 437, Value.str (Str.ofString "end") 438, Value.str (Str.ofString "first") 439, Value.str (Str.ofString "second") 440]) #[]) ::
(nat_lit 195, Obj.mk (Value.type "tuple") none (Data.seq #[]) #[]) ::
(nat_lit 197, Obj.mk (Value.type "code") none (Data.fields #[Value.str (Str.ofString "_combined_spans") 430, Value.str (Str.ofString "_combined_spans") 431, Value.str (Str.ofString "/claim/cut.py") 432, Value.int 90 0, Value.int 3 0, Value.int 0 0, Value.int 0 0, Value.int 3 0, Value.ref 192, Value.bool true, Value.int 181 0, Value.ref 193, Value.none, Value.ref 194, Value.ref 195, Value.ref 196, Value.int 441 0, Value.int 90 0, Value.str (Str.ofString "/claim/cut.py") 442]) #[]) ::
(nat_lit 198, Obj.mk (Value.type "function") none (Data.func (FuncData.mk (Str.ofString "_combined_spans") (Str.ofString "_combined_spans") (defArgs (topS 34)) (.stmts (defBody (topS 34))) (defScope (topS 34)) 3 [] Value.none Value.none Value.none (Value.str (Str.ofString "sillwatch.regions.bands") 374) none (Value.ref 197) Value.none 0)) #[]) ::
(nat_lit 199, Obj.mk (Value.type "tuple") none (Data.seq #[]) #[]) ::
(nat_lit 201, Obj.mk (Value.type "tuple") none (Data.seq #[Value.str (Str.ofString "band") 447]) #[]) ::
(nat_lit 202, Obj.mk (Value.type "tuple") none (Data.seq #[]) #[]) ::
(nat_lit 204, Obj.mk (Value.type "code") none (Data.fields #[Value.str (Str.ofString "_spans_of") 444, Value.str (Str.ofString "_spans_of") 445, Value.str (Str.ofString "/claim/cut.py") 446, Value.int 99 0, Value.int 1 0, Value.int 0 0, Value.int 0 0, Value.int 3 0, Value.ref 199, Value.bool true, Value.int 181 0, Value.ref 200, Value.none, Value.ref 201, Value.ref 202, Value.ref 203, Value.int 448 0, Value.int 99 0, Value.str (Str.ofString "/claim/cut.py") 449]) #[]) ::
(nat_lit 205, Obj.mk (Value.type "function") none (Data.func (FuncData.mk (Str.ofString "_spans_of") (Str.ofString "_spans_of") (defArgs (topS 35)) (.stmts (defBody (topS 35))) (defScope (topS 35)) 3 [] Value.none Value.none Value.none (Value.str (Str.ofString "sillwatch.regions.bands") 374) none (Value.ref 204) Value.none 0)) #[]) ::
(nat_lit 206, Obj.mk (Value.type "tuple") none (Data.seq #[]) #[]) ::
(nat_lit 209, Obj.mk (Value.type "code") none (Data.fields #[Value.str (Str.ofString "_pieces") 451, Value.str (Str.ofString "_pieces") 452, Value.str (Str.ofString "/claim/cut.py") 453, Value.int 101 0, Value.int 2 0, Value.int 0 0, Value.int 0 0, Value.int 3 0, Value.ref 206, Value.bool true, Value.int 181 0, Value.ref 207, Value.none, Value.none, Value.none, Value.ref 208, Value.int 454 0, Value.int 101 0, Value.str (Str.ofString "/claim/cut.py") 455]) #[]) ::
(nat_lit 210, Obj.mk (Value.type "function") none (Data.func (FuncData.mk (Str.ofString "_pieces") (Str.ofString "_pieces") (defArgs (topS 36)) (.stmts (defBody (topS 36))) (defScope (topS 36)) 3 [] Value.none Value.none Value.none (Value.str (Str.ofString "sillwatch.regions.bands") 374) none (Value.ref 209) Value.none 0)) #[]) ::
(nat_lit 211, Obj.mk (Value.type "tuple") none (Data.seq #[]) #[]) ::
(nat_lit 213, Obj.mk (Value.type "tuple") none (Data.seq #[Value.str (Str.ofString "rows") 460, Value.str (Str.ofString "at") 461, Value.str (Str.ofString "place") 462]) #[]) ::
(nat_lit 214, Obj.mk (Value.type "tuple") none (Data.seq #[]) #[]) ::
(nat_lit 216, Obj.mk (Value.type "code") none (Data.fields #[Value.str (Str.ofString "_first_ending_behind") 457, Value.str (Str.ofString "_first_ending_behind") 458, Value.str (Str.ofString "/claim/cut.py") 459, Value.int 111 0, Value.int 3 0, Value.int 0 0, Value.int 0 0, Value.int 3 0, Value.ref 211, Value.bool true, Value.int 181 0, Value.ref 212, Value.none, Value.ref 213, Value.ref 214, Value.ref 215, Value.int 463 0, Value.int 111 0, Value.str (Str.ofString "/claim/cut.py") 464]) #[]) ::
(nat_lit 217, Obj.mk (Value.type "function") none (Data.func (FuncData.mk (Str.ofString "_first_ending_behind") (Str.ofString "_first_ending_behind") (defArgs (topS 37)) (.stmts (defBody (topS 37))) (defScope (topS 37)) 3 [] Value.none Value.none Value.none (Value.str (Str.ofString "sillwatch.regions.bands") 374) none (Value.ref 216) Value.none 0)) #[]) ::
(nat_lit 218, Obj.mk (Value.type "tuple") none (Data.seq #[]) #[]) ::
(nat_lit 220, Obj.mk (Value.type "tuple") none (Data.seq #[Value.str (Str.ofString "rows") 469, Value.str (Str.ofString "at") 470, Value.str (Str.ofString "place") 471]) #[]) ::
(nat_lit 221, Obj.mk (Value.type "tuple") none (Data.seq #[]) #[]) ::
(nat_lit 223, Obj.mk (Value.type "code") none (Data.fields #[Value.str (Str.ofString "_row_from") 466, Value.str (Str.ofString "_row_from") 467, Value.str (Str.ofString "/claim/cut.py") 468, Value.int 115 0, Value.int 3 0, Value.int 0 0, Value.int 0 0, Value.int 3 0, Value.ref 218, Value.bool true, Value.int 181 0, Value.ref 219, Value.none, Value.ref 220, Value.ref 221, Value.ref 222, Value.int 472 0, Value.int 115 0, Value.str (Str.ofString "/claim/cut.py") 473]) #[]) ::
(nat_lit 224, Obj.mk (Value.type "function") none (Data.func (FuncData.mk (Str.ofString "_row_from") (Str.ofString "_row_from") (defArgs (topS 38)) (.stmts (defBody (topS 38))) (defScope (topS 38)) 3 [] Value.none Value.none Value.none (Value.str (Str.ofString "sillwatch.regions.bands") 374) none (Value.ref 223) Value.none 0)) #[]) ::
(nat_lit 225, Obj.mk (Value.type "tuple") none (Data.seq #[]) #[]) ::
(nat_lit 227, Obj.mk (Value.type "tuple") none (Data.seq #[Value.str (Str.ofString "bands") 478, Value.str (Str.ofString "region") 479, Value.str (Str.ofString "top") 480, Value.str (Str.ofString "bottom") 481, Value.str (Str.ofString "spans") 482]) #[]) ::
(nat_lit 228, Obj.mk (Value.type "tuple") none (Data.seq #[]) #[]) ::
(nat_lit 230, Obj.mk (Value.type "code") none (Data.fields #[Value.str (Str.ofString "_joined") 475, Value.str (Str.ofString "_joined") 476, Value.str (Str.ofString "/claim/cut.py") 477, Value.int 117 0, Value.int 1 0, Value.int 0 0, Value.int 0 0, Value.int 3 0, Value.ref 225, Value.bool true, Value.int 181 0, Value.ref 226, Value.none, Value.ref 227, Value.ref 228, Value.ref 229, Value.int 483 0, Value.int 117 0, Value.str (Str.ofString "/claim/cut.py") 484]) #[]) ::
(nat_lit 231, Obj.mk (Value.type "function") none (Data.func (FuncData.mk (Str.ofString "_joined") (Str.ofString "_joined") (defArgs (topS 39)) (.stmts (defBody (topS 39))) (defScope (topS 39)) 3 [] Value.none Value.none Value.none (Value.str (Str.ofString "sillwatch.regions.bands") 374) none (Value.ref 230) Value.none 0)) #[]) ::
(nat_lit 239, Obj.mk (Value.type "tuple") none (Data.seq #[]) #[]) ::
(nat_lit 241, Obj.mk (Value.type "tuple") none (Data.seq #[Value.str (Str.ofString "self") 505, Value.str (Str.ofString "width") 506, Value.str (Str.ofString "height") 507, Value.str (Str.ofString "pixels") 508]) #[]) ::
(nat_lit 242, Obj.mk (Value.type "tuple") none (Data.seq #[]) #[]) ::
(nat_lit 244, Obj.mk (Value.type "code") none (Data.fields #[Value.str (Str.ofString "__init__") 502, Value.str (Str.ofString "Picture.__init__") 503, Value.str (Str.ofString "/claim/cut.py") 504, Value.int 130 0, Value.int 4 0, Value.int 0 0, Value.int 0 0, Value.int 3 0, Value.ref 239, Value.bool true, Value.int 181 0, Value.ref 240, Value.none, Value.ref 241, Value.ref 242, Value.ref 243, Value.int 509 0, Value.int 130 0, Value.str (Str.ofString "/claim/cut.py") 510]) #[]) ::
(nat_lit 245, Obj.mk (Value.type "function") none (Data.func (FuncData.mk (Str.ofString "__init__") (Str.ofString "Picture.__init__") (defArgs (inClass (topS 42) 0)) (.stmts (defBody (inClass (topS 42) 0))) (defScope (inClass (topS 42) 0)) 3 [] Value.none Value.none Value.none (Value.str (Str.ofString "sillwatch.surfaces.pictures") 486) none (Value.ref 244) Value.none 0)) #[]) ::
(nat_lit 246, Obj.mk (Value.type "tuple") none (Data.seq #[]) #[]) ::
(nat_lit 248, Obj.mk (Value.type "tuple") none (Data.seq #[Value.str (Str.ofString "self") 515, Value.str (Str.ofString "x") 516, Value.str (Str.ofString "y") 517]) #[]) ::
(nat_lit 249, Obj.mk (Value.type "tuple") none (Data.seq #[]) #[]) ::
(nat_lit 251, Obj.mk (Value.type "code") none (Data.fields #[Value.str (Str.ofString "colour_at") 512, Value.str (Str.ofString "Picture.colour_at") 513, Value.str (Str.ofString "/claim/cut.py") 514, Value.int 135 0, Value.int 3 0, Value.int 0 0, Value.int 0 0, Value.int 3 0, Value.ref 246, Value.bool true, Value.int 181 0, Value.ref 247, Value.none, Value.ref 248, Value.ref 249, Value.ref 250, Value.int 518 0, Value.int 135 0, Value.str (Str.ofString "/claim/cut.py") 519]) #[]) ::
(nat_lit 252, Obj.mk (Value.type "function") none (Data.func (FuncData.mk (Str.ofString "colour_at") (Str.ofString "Picture.colour_at") (defArgs (inClass (topS 42) 1)) (.stmts (defBody (inClass (topS 42) 1))) (defScope (inClass (topS 42) 1)) 3 [] Value.none Value.none Value.none (Value.str (Str.ofString "sillwatch.surfaces.pictures") 486) none (Value.ref 251) Value.none 0)) #[]) ::
(nat_lit 253, Obj.mk (Value.type "tuple") none (Data.seq #[]) #[]) ::
(nat_lit 255, Obj.mk (Value.type "tuple") none (Data.seq #[Value.str (Str.ofString "self") 524, Value.str (Str.ofString "turn") 525]) #[]) ::
(nat_lit 256, Obj.mk (Value.type "tuple") none (Data.seq #[]) #[]) ::
(nat_lit 258, Obj.mk (Value.type "code") none (Data.fields #[Value.str (Str.ofString "turned") 521, Value.str (Str.ofString "Picture.turned") 522, Value.str (Str.ofString "/claim/cut.py") 523, Value.int 138 0, Value.int 2 0, Value.int 0 0, Value.int 0 0, Value.int 3 0, Value.ref 253, Value.bool true, Value.int 181 0, Value.ref 254, Value.none, Value.ref 255, Value.ref 256, Value.ref 257, Value.int 526 0, Value.int 138 0, Value.str (Str.ofString "/claim/cut.py") 527]) #[]) ::
(nat_lit 259, Obj.mk (Value.type "function") none (Data.func (FuncData.mk (Str.ofString "turned") (Str.ofString "Picture.turned") (defArgs (inClass (topS 42) 2)) (.stmts (defBody (inClass (topS 42) 2))) (defScope (inClass (topS 42) 2)) 3 [] Value.none Value.none Value.none (Value.str (Str.ofString "sillwatch.surfaces.pictures") 486) none (Value.ref 258) Value.none 0)) #[]) ::
(nat_lit 260, Obj.mk (Value.type "tuple") none (Data.seq #[]) #[]) ::
(nat_lit 262, Obj.mk (Value.type "tuple") none (Data.seq #[Value.str (Str.ofString "self") 532, Value.str (Str.ofString "other") 533]) #[]) ::
(nat_lit 263, Obj.mk (Value.type "tuple") none (Data.seq #[]) #[]) ::
(nat_lit 265, Obj.mk (Value.type "code") none (Data.fields #[Value.str (Str.ofString "is_alike") 529, Value.str (Str.ofString "Picture.is_alike") 530, Value.str (Str.ofString "/claim/cut.py") 531, Value.int 141 0, Value.int 2 0, Value.int 0 0, Value.int 0 0, Value.int 3 0, Value.ref 260, Value.bool true, Value.int 181 0, Value.ref 261, Value.none, Value.ref 262, Value.ref 263, Value.ref 264, Value.int 534 0, Value.int 141 0, Value.str (Str.ofString "/claim/cut.py") 535]) #[]) ::
(nat_lit 266, Obj.mk (Value.type "function") none (Data.func (FuncData.mk (Str.ofString "is_alike") (Str.ofString "Picture.is_alike") (defArgs (inClass (topS 42) 3)) (.stmts (defBody (inClass (topS 42) 3))) (defScope (inClass (topS 42) 3)) 3 [] Value.none Value.none Value.none (Value.str (Str.ofString "sillwatch.surfaces.pictures") 486) none (Value.ref 265) Value.none 0)) #[]) ::
(nat_lit 267, Obj.mk (Value.type "tuple") none (Data.seq #[Value.str (Str.ofString "height") 537, Value.str (Str.ofString "pixels") 538, Value.str (Str.ofString "width") 539]) #[]) ::
(nat_lit 268, Obj.mk (Value.type "dict") none (Data.dict #[DictEntry.mk (PyData.keyHash PP (Str.ofString "__module__")) (Value.str (Str.ofString "__module__") 497) (Value.str (Str.ofString "sillwatch.surfaces.pictures") 486), DictEntry.mk (PyData.keyHash PP (Str.ofString "__firstlineno__")) (Value.str (Str.ofString "__firstlineno__") 501) (Value.int 128 500), DictEntry.mk (PyData.keyHash PP (Str.ofString "__init__")) (Value.str (Str.ofString "__init__") 511) (Value.ref 245), DictEntry.mk (PyData.keyHash PP (Str.ofString "colour_at")) (Value.str (Str.ofString "colour_at") 520) (Value.ref 252), DictEntry.mk (PyData.keyHash PP (Str.ofString "turned")) (Value.str (Str.ofString "turned") 528) (Value.ref 259), DictEntry.mk (PyData.keyHash PP (Str.ofString "is_alike")) (Value.str (Str.ofString "is_alike") 536) (Value.ref 266), DictEntry.mk (PyData.keyHash PP (Str.ofString "__static_attributes__")) (Value.str (Str.ofString "__static_attributes__") 540) (Value.ref 267), DictEntry.mk (PyData.keyHash PP (Str.ofString "__dict__")) (Value.str (Str.ofString "__dict__") 542) (Value.ref 270), DictEntry.mk (PyData.keyHash PP (Str.ofString "__weakref__")) (Value.str (Str.ofString "__weakref__") 544) (Value.ref 271), DictEntry.mk (PyData.keyHash PP (Str.ofString "__doc__")) (Value.str (Str.ofString "__doc__") 545) Value.none] 4) #[]) ::
(nat_lit 269, Obj.mk (Value.type "type") none (Data.cls (ClassData.mk (Str.ofString "Picture") [Value.type "object"] [Value.ref 269, Value.type "object"] 268 (Str.ofString "Picture") true [] [] false none false)) #[none, none, some (Value.str (Str.ofString "Picture") 490), some (Value.str (Str.ofString "Picture") 498), some (Value.builtin "object.__new__"), some (Value.bool true)]) ::
(nat_lit 270, Obj.mk (Value.type "getset_descriptor") none (Data.fields #[Value.str (Str.ofString "__dict__") 541, Value.ref 269, Value.builtin "function.__dict__", Value.builtin "function.__dict__#set"]) #[]) ::
(nat_lit 271, Obj.mk (Value.type "getset_descriptor") none (Data.fields #[Value.str (Str.ofString "__weakref__") 543, Value.ref 269, Value.builtin "ExceptionGroup.__weakref__", Value.none]) #[]) ::
(nat_lit 274, Obj.mk (Value.type "tuple") none (Data.seq #[]) #[]) ::
(nat_lit 276, Obj.mk (Value.type "tuple") none (Data.seq #[Value.str (Str.ofString "width") 551, Value.str (Str.ofString "height") 552]) #[]) ::
(nat_lit 277, Obj.mk (Value.type "tuple") none (Data.seq #[]) #[]) ::
(nat_lit 279, Obj.mk (Value.type "code") none (Data.fields #[Value.str (Str.ofString "clear_picture") 548, Value.str (Str.ofString "clear_picture") 549, Value.str (Str.ofString "/claim/cut.py") 550, Value.int 143 0, Value.int 2 0, Value.int 0 0, Value.int 0 0, Value.int 3 0, Value.ref 274, Value.bool true, Value.int 181 0, Value.ref 275, Value.none, Value.ref 276, Value.ref 277, Value.ref 278, Value.int 553 0, Value.int 143 0, Value.str (Str.ofString "/claim/cut.py") 554]) #[]) ::
(nat_lit 280, Obj.mk (Value.type "function") none (Data.func (FuncData.mk (Str.ofString "clear_picture") (Str.ofString "clear_picture") (defArgs (topS 43)) (.stmts (defBody (topS 43))) (defScope (topS 43)) 3 [] Value.none Value.none Value.none (Value.str (Str.ofString "sillwatch.surfaces.pictures") 486) none (Value.ref 279) Value.none 0)) #[]) ::
(nat_lit 288, Obj.mk (Value.type "tuple") none (Data.seq #[]) #[]) ::
(nat_lit 290, Obj.mk (Value.type "tuple") none (Data.seq #[Value.str (Str.ofString "self") 587]) #[]) ::
(nat_lit 291, Obj.mk (Value.type "tuple") none (Data.seq #[]) #[]) ::
(nat_lit 293, Obj.mk (Value.type "code") none (Data.fields #[Value.str (Str.ofString "__init__") 584, Value.str (Str.ofString "Buffers.__init__") 585, Value.str (Str.ofString "/claim/cut.py") 586, Value.int 155 0, Value.int 1 0, Value.int 0 0, Value.int 0 0, Value.int 3 0, Value.ref 288, Value.bool true, Value.int 181 0, Value.ref 289, Value.none, Value.ref 290, Value.ref 291, Value.ref 292, Value.int 588 0, Value.int 155 0, Value.str (Str.ofString "/claim/cut.py") 589]) #[]) ::
(nat_lit 294, Obj.mk (Value.type "function") none (Data.func (FuncData.mk (Str.ofString "__init__") (Str.ofString "Buffers.__init__") (defArgs (inClass (topS 52) 0)) (.stmts (defBody (inClass (topS 52) 0))) (defScope (inClass (topS 52) 0)) 3 [] Value.none Value.none Value.none (Value.str (Str.ofString "sillwatch.surfaces.buffers") 556) none (Value.ref 293) Value.none 0)) #[]) ::
(nat_lit 295, Obj.mk (Value.type "tuple") none (Data.seq #[]) #[]) ::
(nat_lit 297, Obj.mk (Value.type "tuple") none (Data.seq #[Value.str (Str.ofString "self") 594, Value.str (Str.ofString "request") 595, Value.str (Str.ofString "other_pixels") 596, Value.str (Str.ofString "reply") 597]) #[]) ::
(nat_lit 298, Obj.mk (Value.type "tuple") none (Data.seq #[]) #[]) ::
(nat_lit 300, Obj.mk (Value.type "code") none (Data.fields #[Value.str (Str.ofString "serve") 591, Value.str (Str.ofString "Buffers.serve") 592, Value.str (Str.ofString "/claim/cut.py") 593, Value.int 159 0, Value.int 4 0, Value.int 0 0, Value.int 0 0, Value.int 3 0, Value.ref 295, Value.bool true, Value.int 181 0, Value.ref 296, Value.none, Value.ref 297, Value.ref 298, Value.ref 299, Value.int 598 0, Value.int 159 0, Value.str (Str.ofString "/claim/cut.py") 599]) #[]) ::
(nat_lit 301, Obj.mk (Value.type "function") none (Data.func (FuncData.mk (Str.ofString "serve") (Str.ofString "Buffers.serve") (defArgs (inClass (topS 52) 1)) (.stmts (defBody (inClass (topS 52) 1))) (defScope (inClass (topS 52) 1)) 3 [] Value.none Value.none Value.none (Value.str (Str.ofString "sillwatch.surfaces.buffers") 556) none (Value.ref 300) Value.none 0)) #[]) ::
(nat_lit 302, Obj.mk (Value.type "tuple") none (Data.seq #[]) #[]) ::
(nat_lit 305, Obj.mk (Value.type "code") none (Data.fields #[Value.str (Str.ofString "pixel_count") 601, Value.str (Str.ofString "Buffers.pixel_count") 602, Value.str (Str.ofString "/claim/cut.py") 603, Value.int 169 0, Value.int 1 0, Value.int 0 0, Value.int 0 0, Value.int 3 0, Value.ref 302, Value.bool true, Value.int 181 0, Value.ref 303, Value.none, Value.none, Value.none, Value.ref 304, Value.int 604 0, Value.int 169 0, Value.str (Str.ofString "/claim/cut.py") 605]) #[]) ::
(nat_lit 306, Obj.mk (Value.type "function") none (Data.func (FuncData.mk (Str.ofString "pixel_count") (Str.ofString "Buffers.pixel_count") (defArgs (inClass (topS 52) 2)) (.stmts (defBody (inClass (topS 52) 2))) (defScope (inClass (topS 52) 2)) 3 [] Value.none Value.none Value.none (Value.str (Str.ofString "sillwatch.surfaces.buffers") 556) none (Value.ref 305) Value.none 0)) #[]) ::
(nat_lit 307, Obj.mk (Value.type "tuple") none (Data.seq #[]) #[]) ::
(nat_lit 309, Obj.mk (Value.type "tuple") none (Data.seq #[Value.str (Str.ofString "self") 610, Value.str (Str.ofString "number") 611, Value.str (Str.ofString "picture") 612]) #[]) ::
(nat_lit 310, Obj.mk (Value.type "tuple") none (Data.seq #[]) #[]) ::
(nat_lit 312, Obj.mk (Value.type "code") none (Data.fields #[Value.str (Str.ofString "picture_of") 607, Value.str (Str.ofString "Buffers.picture_of") 608, Value.str (Str.ofString "/claim/cut.py") 609, Value.int 172 0, Value.int 2 0, Value.int 0 0, Value.int 0 0, Value.int 3 0, Value.ref 307, Value.bool true, Value.int 181 0, Value.ref 308, Value.none, Value.ref 309, Value.ref 310, Value.ref 311, Value.int 613 0, Value.int 172 0, Value.str (Str.ofString "/claim/cut.py") 614]) #[]) ::
(nat_lit 313, Obj.mk (Value.type "function") none (Data.func (FuncData.mk (Str.ofString "picture_of") (Str.ofString "Buffers.picture_of") (defArgs (inClass (topS 52) 3)) (.stmts (defBody (inClass (topS 52) 3))) (defScope (inClass (topS 52) 3)) 3 [] Value.none Value.none Value.none (Value.str (Str.ofString "sillwatch.surfaces.buffers") 556) none (Value.ref 312) Value.none 0)) #[]) ::
(nat_lit 314, Obj.mk (Value.type "tuple") none (Data.seq #[]) #[]) ::
(nat_lit 316, Obj.mk (Value.type "tuple") none (Data.seq #[Value.str (Str.ofString "self") 619, Value.str (Str.ofString "number") 620, Value.str (Str.ofString "region") 621]) #[]) ::
(nat_lit 317, Obj.mk (Value.type "tuple") none (Data.seq #[]) #[]) ::
(nat_lit 319, Obj.mk (Value.type "code") none (Data.fields #[Value.str (Str.ofString "region_of") 616, Value.str (Str.ofString "Buffers.region_of") 617, Value.str (Str.ofString "/claim/cut.py") 618, Value.int 178 0, Value.int 2 0, Value.int 0 0, Value.int 0 0, Value.int 3 0, Value.ref 314, Value.bool true, Value.int 181 0, Value.ref 315, Value.none, Value.ref 316, Value.ref 317, Value.ref 318, Value.int 622 0, Value.int 178 0, Value.str (Str.ofString "/claim/cut.py") 623]) #[]) ::
(nat_lit 320, Obj.mk (Value.type "function") none (Data.func (FuncData.mk (Str.ofString "region_of") (Str.ofString "Buffers.region_of") (defArgs (inClass (topS 52) 4)) (.stmts (defBody (inClass (topS 52) 4))) (defScope (inClass (topS 52) 4)) 3 [] Value.none Value.none Value.none (Value.str (Str.ofString "sillwatch.surfaces.buffers") 556) none (Value.ref 319) Value.none 0)) #[]) ::
(nat_lit 321, Obj.mk (Value.type "tuple") none (Data.seq #[]) #[]) ::
(nat_lit 323, Obj.mk (Value.type "tuple") none (Data.seq #[Value.str (Str.ofString "self") 628, Value.str (Str.ofString "request") 629, Value.str (Str.ofString "other_pixels") 630, Value.str (Str.ofString "number") 631, Value.str (Str.ofString "width") 632, Value.str (Str.ofString "height") 633, Value.str (Str.ofString "pixels") 634]) #[]) ::
(nat_lit 324, Obj.mk (Value.type "tuple") none (Data.seq #[]) #[]) ::
(nat_lit 326, Obj.mk (Value.type "code") none (Data.fields #[Value.str (Str.ofString "_make_buffer") 625, Value.str (Str.ofString "Buffers._make_buffer") 626, Value.str (Str.ofString "/claim/cut.py") 627, Value.int 182 0, Value.int 3 0, Value.int 0 0, Value.int 0 0, Value.int 3 0, Value.ref 321, Value.bool true, Value.int 181 0, Value.ref 322, Value.none, Value.ref 323, Value.ref 324, Value.ref 325, Value.int 635 0, Value.int 182 0, Value.str (Str.ofString "/claim/cut.py") 636]) #[]) ::
(nat_lit 327, Obj.mk (Value.type "function") none (Data.func (FuncData.mk (Str.ofString "_make_buffer") (Str.ofString "Buffers._make_buffer") (defArgs (inClass (topS 52) 5)) (.stmts (defBody (inClass (topS 52) 5))) (defScope (inClass (topS 52) 5)) 3 [] Value.none Value.none Value.none (Value.str (Str.ofString "sillwatch.surfaces.buffers") 556) none (Value.ref 326) Value.none 0)) #[]) ::
(nat_lit 328, Obj.mk (Value.type "tuple") none (Data.seq #[]) #[]) ::
(nat_lit 330, Obj.mk (Value.type "tuple") none (Data.seq #[Value.str (Str.ofString "self") 641, Value.str (Str.ofString "request") 642]) #[]) ::
(nat_lit 331, Obj.mk (Value.type "tuple") none (Data.seq #[]) #[]) ::
(nat_lit 333, Obj.mk (Value.type "code") none (Data.fields #[Value.str (Str.ofString "_serve_buffer") 638, Value.str (Str.ofString "Buffers._serve_buffer") 639, Value.str (Str.ofString "/claim/cut.py") 640, Value.int 191 0, Value.int 2 0, Value.int 0 0, Value.int 0 0, Value.int 3 0, Value.ref 328, Value.bool true, Value.int 181 0, Value.ref 329, Value.none, Value.ref 330, Value.ref 331, Value.ref 332, Value.int 643 0, Value.int 191 0, Value.str (Str.ofString "/claim/cut.py") 644]) #[]) ::
(nat_lit 334, Obj.mk (Value.type "function") none (Data.func (FuncData.mk (Str.ofString "_serve_buffer") (Str.ofString "Buffers._serve_buffer") (defArgs (inClass (topS 52) 6)) (.stmts (defBody (inClass (topS 52) 6))) (defScope (inClass (topS 52) 6)) 3 [] Value.none Value.none Value.none (Value.str (Str.ofString "sillwatch.surfaces.buffers") 556) none (Value.ref 333) Value.none 0)) #[]) ::
(nat_lit 335, Obj.mk (Value.type "tuple") none (Data.seq #[]) #[]) ::
(nat_lit 338, Obj.mk (Value.type "code") none (Data.fields #[Value.str (Str.ofString "_write") 646, Value.str (Str.ofString "Buffers._write") 647, Value.str (Str.ofString "/claim/cut.py") 648, Value.int 199 0, Value.int 2 0, Value.int 0 0, Value.int 0 0, Value.int 3 0, Value.ref 335, Value.bool true, Value.int 181 0, Value.ref 336, Value.none, Value.none, Value.none, Value.ref 337, Value.int 649 0, Value.int 199 0, Value.str (Str.ofString "/claim/cut.py") 650]) #[]) ::
(nat_lit 339, Obj.mk (Value.type "function") none (Data.func (FuncData.mk (Str.ofString "_write") (Str.ofString "Buffers._write") (defArgs (inClass (topS 52) 7)) (.stmts (defBody (inClass (topS 52) 7))) (defScope (inClass (topS 52) 7)) 3 [] Value.none Value.none Value.none (Value.str (Str.ofString "sillwatch.surfaces.buffers") 556) none (Value.ref 338) Value.none 0)) #[]) ::
(nat_lit 340, Obj.mk (Value.type "tuple") none (Data.seq #[]) #[]) ::
(nat_lit 342, Obj.mk (Value.type "tuple") none (Data.seq #[Value.str (Str.ofString "self") 655, Value.str (Str.ofString "request") 656, Value.str (Str.ofString "x") 657, Value.str (Str.ofString "y") 658, Value.str (Str.ofString "width") 659, Value.str (Str.ofString "height") 660, Value.str (Str.ofString "colour") 661, Value.str (Str.ofString "picture") 662, Value.str (Str.ofString "left") 663, Value.str (Str.ofString "right") 664, Value.str (Str.ofString "top") 665, Value.str (Str.ofString "bottom") 666, Value.str (Str.ofString "row") 667, Value.str (Str.ofString "begin") 668]) #[]) ::
(nat_lit 343, Obj.mk (Value.type "tuple") none (Data.seq #[]) #[]) ::
(nat_lit 345, Obj.mk (Value.type "code") none (Data.fields #[Value.str (Str.ofString "_fill") 652, Value.str (Str.ofString "Buffers._fill") 653, Value.str (Str.ofString "/claim/cut.py") 654, Value.int 207 0, Value.int 2 0, Value.int 0 0, Value.int 0 0, Value.int 3 0, Value.ref 340, Value.bool true, Value.int 181 0, Value.ref 341, Value.none, Value.ref 342, Value.ref 343, Value.ref 344, Value.int 669 0, Value.int 207 0, Value.str (Str.ofString "/claim/cut.py") 670]) #[]) ::
(nat_lit 346, Obj.mk (Value.type "function") none (Data.func (FuncData.mk (Str.ofString "_fill") (Str.ofString "Buffers._fill") (defArgs (inClass (topS 52) 8)) (.stmts (defBody (inClass (topS 52) 8))) (defScope (inClass (topS 52) 8)) 3 [] Value.none Value.none Value.none (Value.str (Str.ofString "sillwatch.surfaces.buffers") 556) none (Value.ref 345) Value.none 0)) #[]) ::
(nat_lit 347, Obj.mk (Value.type "tuple") none (Data.seq #[]) #[]) ::
(nat_lit 349, Obj.mk (Value.type "tuple") none (Data.seq #[Value.str (Str.ofString "self") 675, Value.str (Str.ofString "request") 676]) #[]) ::
(nat_lit 350, Obj.mk (Value.type "tuple") none (Data.seq #[]) #[]) ::
(nat_lit 352, Obj.mk (Value.type "code") none (Data.fields #[Value.str (Str.ofString "_make_region") 672, Value.str (Str.ofString "Buffers._make_region") 673, Value.str (Str.ofString "/claim/cut.py") 674, Value.int 218 0, Value.int 2 0, Value.int 0 0, Value.int 0 0, Value.int 3 0, Value.ref 347, Value.bool true, Value.int 181 0, Value.ref 348, Value.none, Value.ref 349, Value.ref 350, Value.ref 351, Value.int 677 0, Value.int 218 0, Value.str (Str.ofString "/claim/cut.py") 678]) #[]) ::
(nat_lit 353, Obj.mk (Value.type "function") none (Data.func (FuncData.mk (Str.ofString "_make_region") (Str.ofString "Buffers._make_region") (defArgs (inClass (topS 52) 9)) (.stmts (defBody (inClass (topS 52) 9))) (defScope (inClass (topS 52) 9)) 3 [] Value.none Value.none Value.none (Value.str (Str.ofString "sillwatch.surfaces.buffers") 556) none (Value.ref 352) Value.none 0)) #[]) ::
(nat_lit 354, Obj.mk (Value.type "tuple") none (Data.seq #[]) #[]) ::
(nat_lit 356, Obj.mk (Value.type "tuple") none (Data.seq #[Value.str (Str.ofString "self") 683, Value.str (Str.ofString "request") 684]) #[]) ::
(nat_lit 357, Obj.mk (Value.type "tuple") none (Data.seq #[]) #[]) ::
(nat_lit 359, Obj.mk (Value.type "code") none (Data.fields #[Value.str (Str.ofString "_serve_region") 680, Value.str (Str.ofString "Buffers._serve_region") 681, Value.str (Str.ofString "/claim/cut.py") 682, Value.int 223 0, Value.int 2 0, Value.int 0 0, Value.int 0 0, Value.int 3 0, Value.ref 354, Value.bool true, Value.int 181 0, Value.ref 355, Value.none, Value.ref 356, Value.ref 357, Value.ref 358, Value.int 685 0, Value.int 223 0, Value.str (Str.ofString "/claim/cut.py") 686]) #[]) ::
(nat_lit 360, Obj.mk (Value.type "function") none (Data.func (FuncData.mk (Str.ofString "_serve_region") (Str.ofString "Buffers._serve_region") (defArgs (inClass (topS 52) 10)) (.stmts (defBody (inClass (topS 52) 10))) (defScope (inClass (topS 52) 10)) 3 [] Value.none Value.none Value.none (Value.str (Str.ofString "sillwatch.surfaces.buffers") 556) none (Value.ref 359) Value.none 0)) #[]) ::
(nat_lit 361, Obj.mk (Value.type "tuple") none (Data.seq #[]) #[]) ::
(nat_lit 363, Obj.mk (Value.type "tuple") none (Data.seq #[Value.str (Str.ofString "self") 691, Value.str (Str.ofString "request") 692, Value.str (Str.ofString "x") 693, Value.str (Str.ofString "y") 694, Value.str (Str.ofString "width") 695, Value.str (Str.ofString "height") 696, Value.str (Str.ofString "rectangle") 697, Value.str (Str.ofString "before") 698, Value.str (Str.ofString "after") 699]) #[]) ::
(nat_lit 364, Obj.mk (Value.type "tuple") none (Data.seq #[]) #[]) ::
(nat_lit 366, Obj.mk (Value.type "code") none (Data.fields #[Value.str (Str.ofString "_changed_region") 688, Value.str (Str.ofString "Buffers._changed_region") 689, Value.str (Str.ofString "/claim/cut.py") 690, Value.int 229 0, Value.int 2 0, Value.int 0 0, Value.int 0 0, Value.int 3 0, Value.ref 361, Value.bool true, Value.int 181 0, Value.ref 362, Value.none, Value.ref 363, Value.ref 364, Value.ref 365, Value.int 700 0, Value.int 229 0, Value.str (Str.ofString "/claim/cut.py") 701]) #[]) ::
(nat_lit 367, Obj.mk (Value.type "function") none (Data.func (FuncData.mk (Str.ofString "_changed_region") (Str.ofString "Buffers._changed_region") (defArgs (inClass (topS 52) 11)) (.stmts (defBody (inClass (topS 52) 11))) (defScope (inClass (topS 52) 11)) 3 [] Value.none Value.none Value.none (Value.str (Str.ofString "sillwatch.surfaces.buffers") 556) none (Value.ref 366) Value.none 0)) #[]) ::
(nat_lit 368, Obj.mk (Value.type "tuple") none (Data.seq #[Value.str (Str.ofString "_pictures") 703, Value.str (Str.ofString "_regions") 704]) #[]) ::
(nat_lit 369, Obj.mk (Value.type "dict") none (Data.dict #[DictEntry.mk (PyData.keyHash PP (Str.ofString "__module__")) (Value.str (Str.ofString "__module__") 579) (Value.str (Str.ofString "sillwatch.surfaces.buffers") 556), DictEntry.mk (PyData.keyHash PP (Str.ofString "__firstlineno__")) (Value.str (Str.ofString "__firstlineno__") 583) (Value.int 153 582), DictEntry.mk (PyData.keyHash PP (Str.ofString "__init__")) (Value.str (Str.ofString "__init__") 590) (Value.ref 294), DictEntry.mk (PyData.keyHash PP (Str.ofString "serve")) (Value.str (Str.ofString "serve") 600) (Value.ref 301), DictEntry.mk (PyData.keyHash PP (Str.ofString "pixel_count")) (Value.str (Str.ofString "pixel_count") 606) (Value.ref 306), DictEntry.mk (PyData.keyHash PP (Str.ofString "picture_of")) (Value.str (Str.ofString "picture_of") 615) (Value.ref 313), DictEntry.mk (PyData.keyHash PP (Str.ofString "region_of")) (Value.str (Str.ofString "region_of") 624) (Value.ref 320), DictEntry.mk (PyData.keyHash PP (Str.ofString "_make_buffer")) (Value.str (Str.ofString "_make_buffer") 637) (Value.ref 327), DictEntry.mk (PyData.keyHash PP (Str.ofString "_serve_buffer")) (Value.str (Str.ofString "_serve_buffer") 645) (Value.ref 334), DictEntry.mk (PyData.keyHash PP (Str.ofString "_write")) (Value.str (Str.ofString "_write") 651) (Value.ref 339), DictEntry.mk (PyData.keyHash PP (Str.ofString "_fill")) (Value.str (Str.ofString "_fill") 671) (Value.ref 346), DictEntry.mk (PyData.keyHash PP (Str.ofString "_make_region")) (Value.str (Str.ofString "_make_region") 679) (Value.ref 353), DictEntry.mk (PyData.keyHash PP (Str.ofString "_serve_region")) (Value.str (Str.ofString "_serve_region") 687) (Value.ref 360), DictEntry.mk (PyData.keyHash PP (Str.ofString "_changed_region")) (Value.str (Str.ofString "_changed_region") 702) (Value.ref 367), DictEntry.mk (PyData.keyHash PP (Str.ofString "__static_attributes__")) (Value.str (Str.ofString "__static_attributes__") 705) (Value.ref 368), DictEntry.mk (PyData.keyHash PP (Str.ofString "__dict__")) (Value.str (Str.ofString "__dict__") 707) (Value.ref 371), DictEntry.mk (PyData.keyHash PP (Str.ofString "__weakref__")) (Value.str (Str.ofString "__weakref__") 709) (Value.ref 372), DictEntry.mk (PyData.keyHash PP (Str.ofString "__doc__")) (Value.str (Str.ofString "__doc__") 710) Value.none] 4) #[]) ::
(nat_lit 370, Obj.mk (Value.type "type") none (Data.cls (ClassData.mk (Str.ofString "Buffers") [Value.type "object"] [Value.ref 370, Value.type "object"] 369 (Str.ofString "Buffers") true [] [] false none false)) #[none, none, some (Value.str (Str.ofString "Buffers") 572), some (Value.str (Str.ofString "Buffers") 580), some (Value.builtin "object.__new__"), some (Value.bool true)]) ::
(nat_lit 371, Obj.mk (Value.type "getset_descriptor") none (Data.fields #[Value.str (Str.ofString "__dict__") 706, Value.ref 370, Value.builtin "function.__dict__", Value.builtin "function.__dict__#set"]) #[]) ::
(nat_lit 372, Obj.mk (Value.type "getset_descriptor") none (Data.fields #[Value.str (Str.ofString "__weakref__") 708, Value.ref 370, Value.builtin "ExceptionGroup.__weakref__", Value.none]) #[]) ::
(nat_lit 375, Obj.mk (Value.type "tuple") none (Data.seq #[]) #[]) ::
(nat_lit 377, Obj.mk (Value.type "tuple") none (Data.seq #[Value.str (Str.ofString "place") 716]) #[]) ::
(nat_lit 378, Obj.mk (Value.type "tuple") none (Data.seq #[]) #[]) ::
(nat_lit 380, Obj.mk (Value.type "code") none (Data.fields #[Value.str (Str.ofString "_is_near") 713, Value.str (Str.ofString "_is_near") 714, Value.str (Str.ofString "/claim/cut.py") 715, Value.int 239 0, Value.int 1 0, Value.int 0 0, Value.int 0 0, Value.int 3 0, Value.ref 375, Value.bool true, Value.int 181 0, Value.ref 376, Value.none, Value.ref 377, Value.ref 378, Value.ref 379, Value.int 717 0, Value.int 239 0, Value.str (Str.ofString "/claim/cut.py") 718]) #[]) ::
(nat_lit 381, Obj.mk (Value.type "function") none (Data.func (FuncData.mk (Str.ofString "_is_near") (Str.ofString "_is_near") (defArgs (topS 53)) (.stmts (defBody (topS 53))) (defScope (topS 53)) 3 [] Value.none Value.none Value.none (Value.str (Str.ofString "sillwatch.surfaces.buffers") 556) none (Value.ref 380) Value.none 0)) #[]) ::
(nat_lit 382, Obj.mk (Value.type "tuple") none (Data.seq #[]) #[]) ::
(nat_lit 384, Obj.mk (Value.type "tuple") none (Data.seq #[Value.str (Str.ofString "number") 733, Value.str (Str.ofString "opcode") 734, Value.str (Str.ofString "arguments") 735, Value.str (Str.ofString "body") 736, Value.str (Str.ofString "kind") 737, Value.str (Str.ofString "value") 738, Value.str (Str.ofString "size") 739]) #[]) ::
(nat_lit 385, Obj.mk (Value.type "tuple") none (Data.seq #[]) #[]) ::
(nat_lit 387, Obj.mk (Value.type "code") none (Data.fields #[Value.str (Str.ofString "encode_message") 730, Value.str (Str.ofString "encode_message") 731, Value.str (Str.ofString "/claim/cut.py") 732, Value.int 246 0, Value.int 3 0, Value.int 0 0, Value.int 0 0, Value.int 3 0, Value.ref 382, Value.bool true, Value.int 181 0, Value.ref 383, Value.none, Value.ref 384, Value.ref 385, Value.ref 386, Value.int 740 0, Value.int 246 0, Value.str (Str.ofString "/claim/cut.py") 741]) #[]) ::
(nat_lit 388, Obj.mk (Value.type "function") none (Data.func (FuncData.mk (Str.ofString "encode_message") (Str.ofString "encode_message") (defArgs (topS 59)) (.stmts (defBody (topS 59))) (defScope (topS 59)) 3 [] Value.none Value.none Value.none (Value.str (Str.ofString "sillwatch.octets.messages") 720) none (Value.ref 387) Value.none 0)) #[]) ::
(nat_lit 389, Obj.mk (Value.type "dict") none (Data.dict #[DictEntry.mk (PyData.keyHash PP (Str.ofString "display")) (Value.str (Str.ofString "display") 745) (Value.ref 394), DictEntry.mk (PyData.keyHash PP (Str.ofString "callback")) (Value.str (Str.ofString "callback") 752) (Value.ref 397), DictEntry.mk (PyData.keyHash PP (Str.ofString "registry")) (Value.str (Str.ofString "registry") 755) (Value.ref 402), DictEntry.mk (PyData.keyHash PP (Str.ofString "buffer")) (Value.str (Str.ofString "buffer") 761) (Value.ref 405), DictEntry.mk (PyData.keyHash PP (Str.ofString "output")) (Value.str (Str.ofString "output") 763) (Value.ref 408), DictEntry.mk (PyData.keyHash PP (Str.ofString "window")) (Value.str (Str.ofString "window") 769) (Value.ref 417), DictEntry.mk (PyData.keyHash PP (Str.ofString "popup")) (Value.str (Str.ofString "popup") 780) (Value.ref 422), DictEntry.mk (PyData.keyHash PP (Str.ofString "pointer")) (Value.str (Str.ofString "pointer") 787) (Value.ref 433), DictEntry.mk (PyData.keyHash PP (Str.ofString "keyboard")) (Value.str (Str.ofString "keyboard") 807) (Value.ref 444), DictEntry.mk (PyData.keyHash PP (Str.ofString "transfer")) (Value.str (Str.ofString "transfer") 823) (Value.ref 457), DictEntry.mk (PyData.keyHash PP (Str.ofString "offer")) (Value.str (Str.ofString "offer") 839) (Value.ref 462), DictEntry.mk (PyData.keyHash PP (Str.ofString "capture")) (Value.str (Str.ofString "capture") 847) (Value.ref 469), DictEntry.mk (PyData.keyHash PP (Str.ofString "fetch")) (Value.str (Str.ofString "fetch") 855) (Value.ref 476), DictEntry.mk (PyData.keyHash PP (Str.ofString "watch")) (Value.str (Str.ofString "watch") 862) (Value.ref 481)] 14) #[]) ::
(nat_lit 390, Obj.mk (Value.type "tuple") none (Data.seq #[Value.str (Str.ofString "uint") 747, Value.str (Str.ofString "uint") 748, Value.str (Str.ofString "text") 749]) #[]) ::
(nat_lit 391, Obj.mk (Value.type "tuple") none (Data.seq #[Value.str (Str.ofString "error") 746, Value.ref 390]) #[]) ::
(nat_lit 392, Obj.mk (Value.type "tuple") none (Data.seq #[Value.str (Str.ofString "uint") 751]) #[]) ::
(nat_lit 393, Obj.mk (Value.type "tuple") none (Data.seq #[Value.str (Str.ofString "removed") 750, Value.ref 392]) #[]) ::
(nat_lit 394, Obj.mk (Value.type "tuple") none (Data.seq #[Value.ref 391, Value.ref 393]) #[]) ::
(nat_lit 395, Obj.mk (Value.type "tuple") none (Data.seq #[Value.str (Str.ofString "uint") 754]) #[]) ::
(nat_lit 396, Obj.mk (Value.type "tuple") none (Data.seq #[Value.str (Str.ofString "done") 753, Value.ref 395]) #[]) ::
(nat_lit 397, Obj.mk (Value.type "tuple") none (Data.seq #[Value.ref 396]) #[]) ::
(nat_lit 398, Obj.mk (Value.type "tuple") none (Data.seq #[Value.str (Str.ofString "uint") 757, Value.str (Str.ofString "text") 758]) #[]) ::
(nat_lit 399, Obj.mk (Value.type "tuple") none (Data.seq #[Value.str (Str.ofString "there") 756, Value.ref 398]) #[]) ::
(nat_lit 400, Obj.mk (Value.type "tuple") none (Data.seq #[Value.str (Str.ofString "uint") 760]) #[]) ::
(nat_lit 401, Obj.mk (Value.type "tuple") none (Data.seq #[Value.str (Str.ofString "gone") 759, Value.ref 400]) #[]) ::
(nat_lit 402, Obj.mk (Value.type "tuple") none (Data.seq #[Value.ref 399, Value.ref 401]) #[]) ::
(nat_lit 403, Obj.mk (Value.type "tuple") none (Data.seq #[]) #[]) ::
(nat_lit 404, Obj.mk (Value.type "tuple") none (Data.seq #[Value.str (Str.ofString "release") 762, Value.ref 403]) #[]) ::
(nat_lit 405, Obj.mk (Value.type "tuple") none (Data.seq #[Value.ref 404]) #[]) ::
(nat_lit 406, Obj.mk (Value.type "tuple") none (Data.seq #[Value.str (Str.ofString "uint") 765, Value.str (Str.ofString "uint") 766, Value.str (Str.ofString "uint") 767, Value.str (Str.ofString "uint") 768]) #[]) ::
(nat_lit 407, Obj.mk (Value.type "tuple") none (Data.seq #[Value.str (Str.ofString "size") 764, Value.ref 406]) #[]) ::
(nat_lit 408, Obj.mk (Value.type "tuple") none (Data.seq #[Value.ref 407]) #[]) ::
(nat_lit 409, Obj.mk (Value.type "tuple") none (Data.seq #[Value.str (Str.ofString "uint") 771, Value.str (Str.ofString "uint") 772, Value.str (Str.ofString "uint") 773, Value.str (Str.ofString "uint") 774]) #[]) ::
(nat_lit 410, Obj.mk (Value.type "tuple") none (Data.seq #[Value.str (Str.ofString "configure") 770, Value.ref 409]) #[]) ::
(nat_lit 411, Obj.mk (Value.type "tuple") none (Data.seq #[]) #[]) ::
(nat_lit 412, Obj.mk (Value.type "tuple") none (Data.seq #[Value.str (Str.ofString "close") 775, Value.ref 411]) #[]) ::
(nat_lit 413, Obj.mk (Value.type "tuple") none (Data.seq #[Value.str (Str.ofString "uint") 777]) #[]) ::
(nat_lit 414, Obj.mk (Value.type "tuple") none (Data.seq #[Value.str (Str.ofString "output") 776, Value.ref 413]) #[]) ::
(nat_lit 415, Obj.mk (Value.type "tuple") none (Data.seq #[Value.str (Str.ofString "uint") 779]) #[]) ::
(nat_lit 416, Obj.mk (Value.type "tuple") none (Data.seq #[Value.str (Str.ofString "left") 778, Value.ref 415]) #[]) ::
(nat_lit 417, Obj.mk (Value.type "tuple") none (Data.seq #[Value.ref 410, Value.ref 412, Value.ref 414, Value.ref 416]) #[]) ::
(nat_lit 418, Obj.mk (Value.type "tuple") none (Data.seq #[Value.str (Str.ofString "int") 782, Value.str (Str.ofString "int") 783, Value.str (Str.ofString "uint") 784, Value.str (Str.ofString "uint") 785]) #[]) ::
(nat_lit 419, Obj.mk (Value.type "tuple") none (Data.seq #[Value.str (Str.ofString "placed") 781, Value.ref 418]) #[]) ::
(nat_lit 420, Obj.mk (Value.type "tuple") none (Data.seq #[]) #[]) ::
(nat_lit 421, Obj.mk (Value.type "tuple") none (Data.seq #[Value.str (Str.ofString "done") 786, Value.ref 420]) #[]) ::
(nat_lit 422, Obj.mk (Value.type "tuple") none (Data.seq #[Value.ref 419, Value.ref 421]) #[]) ::
(nat_lit 423, Obj.mk (Value.type "tuple") none (Data.seq #[Value.str (Str.ofString "object") 789, Value.str (Str.ofString "int") 790, Value.str (Str.ofString "int") 791]) #[]) ::
(nat_lit 424, Obj.mk (Value.type "tuple") none (Data.seq #[Value.str (Str.ofString "enter") 788, Value.ref 423]) #[]) ::
(nat_lit 425, Obj.mk (Value.type "tuple") none (Data.seq #[Value.str (Str.ofString "object") 793]) #[]) ::
(nat_lit 426, Obj.mk (Value.type "tuple") none (Data.seq #[Value.str (Str.ofString "leave") 792, Value.ref 425]) #[]) ::
(nat_lit 427, Obj.mk (Value.type "tuple") none (Data.seq #[Value.str (Str.ofString "int") 795, Value.str (Str.ofString "int") 796, Value.str (Str.ofString "uint") 797]) #[]) ::
(nat_lit 428, Obj.mk (Value.type "tuple") none (Data.seq #[Value.str (Str.ofString "motion") 794, Value.ref 427]) #[]) ::
(nat_lit 429, Obj.mk (Value.type "tuple") none (Data.seq #[Value.str (Str.ofString "uint") 799, Value.str (Str.ofString "uint") 800, Value.str (Str.ofString "uint") 801, Value.str (Str.ofString "uint") 802]) #[]) ::
(nat_lit 430, Obj.mk (Value.type "tuple") none (Data.seq #[Value.str (Str.ofString "button") 798, Value.ref 429]) #[]) ::
(nat_lit 431, Obj.mk (Value.type "tuple") none (Data.seq #[Value.str (Str.ofString "int") 804, Value.str (Str.ofString "int") 805, Value.str (Str.ofString "uint") 806]) #[]) ::
(nat_lit 432, Obj.mk (Value.type "tuple") none (Data.seq #[Value.str (Str.ofString "axis") 803, Value.ref 431]) #[]) ::
(nat_lit 433, Obj.mk (Value.type "tuple") none (Data.seq #[Value.ref 424, Value.ref 426, Value.ref 428, Value.ref 430, Value.ref 432]) #[]) ::
(nat_lit 434, Obj.mk (Value.type "tuple") none (Data.seq #[Value.str (Str.ofString "text") 809]) #[]) ::
(nat_lit 435, Obj.mk (Value.type "tuple") none (Data.seq #[Value.str (Str.ofString "keymap") 808, Value.ref 434]) #[]) ::
(nat_lit 436, Obj.mk (Value.type "tuple") none (Data.seq #[Value.str (Str.ofString "object") 811]) #[]) ::
(nat_lit 437, Obj.mk (Value.type "tuple") none (Data.seq #[Value.str (Str.ofString "enter") 810, Value.ref 436]) #[]) ::
(nat_lit 438, Obj.mk (Value.type "tuple") none (Data.seq #[Value.str (Str.ofString "object") 813]) #[]) ::
(nat_lit 439, Obj.mk (Value.type "tuple") none (Data.seq #[Value.str (Str.ofString "leave") 812, Value.ref 438]) #[]) ::
(nat_lit 440, Obj.mk (Value.type "tuple") none (Data.seq #[Value.str (Str.ofString "uint") 815, Value.str (Str.ofString "uint") 816, Value.str (Str.ofString "uint") 817, Value.str (Str.ofString "uint") 818]) #[]) ::
(nat_lit 441, Obj.mk (Value.type "tuple") none (Data.seq #[Value.str (Str.ofString "key") 814, Value.ref 440]) #[]) ::
(nat_lit 442, Obj.mk (Value.type "tuple") none (Data.seq #[Value.str (Str.ofString "text") 820, Value.str (Str.ofString "text") 821, Value.str (Str.ofString "uint") 822]) #[]) ::
(nat_lit 443, Obj.mk (Value.type "tuple") none (Data.seq #[Value.str (Str.ofString "symbol") 819, Value.ref 442]) #[]) ::
(nat_lit 444, Obj.mk (Value.type "tuple") none (Data.seq #[Value.ref 435, Value.ref 437, Value.ref 439, Value.ref 441, Value.ref 443]) #[]) ::
(nat_lit 445, Obj.mk (Value.type "tuple") none (Data.seq #[Value.str (Str.ofString "new") 825, Value.str (Str.ofString "uint") 826]) #[]) ::
(nat_lit 446, Obj.mk (Value.type "tuple") none (Data.seq #[Value.str (Str.ofString "offer") 824, Value.ref 445]) #[]) ::
(nat_lit 447, Obj.mk (Value.type "tuple") none (Data.seq #[Value.str (Str.ofString "object") 828, Value.str (Str.ofString "int") 829, Value.str (Str.ofString "int") 830]) #[]) ::
(nat_lit 448, Obj.mk (Value.type "tuple") none (Data.seq #[Value.str (Str.ofString "hover") 827, Value.ref 447]) #[]) ::
(nat_lit 449, Obj.mk (Value.type "tuple") none (Data.seq #[Value.str (Str.ofString "text") 832]) #[]) ::
(nat_lit 450, Obj.mk (Value.type "tuple") none (Data.seq #[Value.str (Str.ofString "hover_kind") 831, Value.ref 449]) #[]) ::
(nat_lit 451, Obj.mk (Value.type "tuple") none (Data.seq #[Value.str (Str.ofString "uint") 834, Value.str (Str.ofString "int") 835, Value.str (Str.ofString "int") 836]) #[]) ::
(nat_lit 452, Obj.mk (Value.type "tuple") none (Data.seq #[Value.str (Str.ofString "moved") 833, Value.ref 451]) #[]) ::
(nat_lit 453, Obj.mk (Value.type "tuple") none (Data.seq #[]) #[]) ::
(nat_lit 454, Obj.mk (Value.type "tuple") none (Data.seq #[Value.str (Str.ofString "away") 837, Value.ref 453]) #[]) ::
(nat_lit 455, Obj.mk (Value.type "tuple") none (Data.seq #[]) #[]) ::
(nat_lit 456, Obj.mk (Value.type "tuple") none (Data.seq #[Value.str (Str.ofString "ended") 838, Value.ref 455]) #[]) ::
(nat_lit 457, Obj.mk (Value.type "tuple") none (Data.seq #[Value.ref 446, Value.ref 448, Value.ref 450, Value.ref 452, Value.ref 454, Value.ref 456]) #[]) ::
(nat_lit 458, Obj.mk (Value.type "tuple") none (Data.seq #[Value.str (Str.ofString "text") 841, Value.str (Str.ofString "uint") 842]) #[]) ::
(nat_lit 459, Obj.mk (Value.type "tuple") none (Data.seq #[Value.str (Str.ofString "kind") 840, Value.ref 458]) #[]) ::
(nat_lit 460, Obj.mk (Value.type "tuple") none (Data.seq #[Value.str (Str.ofString "text") 844, Value.str (Str.ofString "uint") 845, Value.str (Str.ofString "octets") 846]) #[]) ::
(nat_lit 461, Obj.mk (Value.type "tuple") none (Data.seq #[Value.str (Str.ofString "part") 843, Value.ref 460]) #[]) ::
(nat_lit 462, Obj.mk (Value.type "tuple") none (Data.seq #[Value.ref 459, Value.ref 461]) #[]) ::
(nat_lit 463, Obj.mk (Value.type "tuple") none (Data.seq #[Value.str (Str.ofString "uint") 849, Value.str (Str.ofString "uint") 850]) #[]) ::
(nat_lit 464, Obj.mk (Value.type "tuple") none (Data.seq #[Value.str (Str.ofString "allowed") 848, Value.ref 463]) #[]) ::
(nat_lit 465, Obj.mk (Value.type "tuple") none (Data.seq #[]) #[]) ::
(nat_lit 466, Obj.mk (Value.type "tuple") none (Data.seq #[Value.str (Str.ofString "refused") 851, Value.ref 465]) #[]) ::
(nat_lit 467, Obj.mk (Value.type "tuple") none (Data.seq #[Value.str (Str.ofString "uint") 853, Value.str (Str.ofString "octets") 854]) #[]) ::
(nat_lit 468, Obj.mk (Value.type "tuple") none (Data.seq #[Value.str (Str.ofString "rows") 852, Value.ref 467]) #[]) ::
(nat_lit 469, Obj.mk (Value.type "tuple") none (Data.seq #[Value.ref 464, Value.ref 466, Value.ref 468]) #[]) ::
(nat_lit 470, Obj.mk (Value.type "tuple") none (Data.seq #[Value.str (Str.ofString "uint") 857]) #[]) ::
(nat_lit 471, Obj.mk (Value.type "tuple") none (Data.seq #[Value.str (Str.ofString "changed") 856, Value.ref 470]) #[]) ::
(nat_lit 472, Obj.mk (Value.type "tuple") none (Data.seq #[]) #[]) ::
(nat_lit 473, Obj.mk (Value.type "tuple") none (Data.seq #[Value.str (Str.ofString "gone") 858, Value.ref 472]) #[]) ::
(nat_lit 474, Obj.mk (Value.type "tuple") none (Data.seq #[Value.str (Str.ofString "uint") 860, Value.str (Str.ofString "octets") 861]) #[]) ::
(nat_lit 475, Obj.mk (Value.type "tuple") none (Data.seq #[Value.str (Str.ofString "part") 859, Value.ref 474]) #[]) ::
(nat_lit 476, Obj.mk (Value.type "tuple") none (Data.seq #[Value.ref 471, Value.ref 473, Value.ref 475]) #[]) ::
(nat_lit 477, Obj.mk (Value.type "tuple") none (Data.seq #[]) #[]) ::
(nat_lit 478, Obj.mk (Value.type "tuple") none (Data.seq #[Value.str (Str.ofString "there") 863, Value.ref 477]) #[]) ::
(nat_lit 479, Obj.mk (Value.type "tuple") none (Data.seq #[]) #[]) ::
(nat_lit 480, Obj.mk (Value.type "tuple") none (Data.seq #[Value.str (Str.ofString "gone") 864, Value.ref 479]) #[]) ::
(nat_lit 481, Obj.mk (Value.type "tuple") none (Data.seq #[Value.ref 478, Value.ref 480]) #[]) ::
(nat_lit 482, Obj.mk (Value.type "tuple") none (Data.seq #[]) #[]) ::
(nat_lit 484, Obj.mk (Value.type "tuple") none (Data.seq #[Value.str (Str.ofString "number") 883, Value.str (Str.ofString "interface") 884, Value.str (Str.ofString "name") 885, Value.str (Str.ofString "values") 886, Value.str (Str.ofString "rows") 887, Value.str (Str.ofString "opcode") 888, Value.str (Str.ofString "kinds") 889]) #[]) ::
(nat_lit 485, Obj.mk (Value.type "tuple") none (Data.seq #[]) #[]) ::
(nat_lit 487, Obj.mk (Value.type "code") none (Data.fields #[Value.str (Str.ofString "event_octets") 880, Value.str (Str.ofString "event_octets") 881, Value.str (Str.ofString "/claim/cut.py") 882, Value.int 262 0, Value.int 4 0, Value.int 0 0, Value.int 0 0, Value.int 3 0, Value.ref 482, Value.bool true, Value.int 181 0, Value.ref 483, Value.none, Value.ref 484, Value.ref 485, Value.ref 486, Value.int 890 0, Value.int 262 0, Value.str (Str.ofString "/claim/cut.py") 891]) #[]) ::
(nat_lit 488, Obj.mk (Value.type "function") none (Data.func (FuncData.mk (Str.ofString "event_octets") (Str.ofString "event_octets") (defArgs (topS 62)) (.stmts (defBody (topS 62))) (defScope (topS 62)) 3 [] Value.none Value.none Value.none (Value.str (Str.ofString "sillwatch.objects.tables") 743) none (Value.ref 487) Value.none 0)) #[]) ::
(nat_lit 489, Obj.mk (Value.type "tuple") none (Data.seq #[]) #[]) ::
(nat_lit 492, Obj.mk (Value.type "code") none (Data.fields #[Value.str (Str.ofString "_opcode_of") 893, Value.str (Str.ofString "_opcode_of") 894, Value.str (Str.ofString "/claim/cut.py") 895, Value.int 267 0, Value.int 2 0, Value.int 0 0, Value.int 0 0, Value.int 3 0, Value.ref 489, Value.bool true, Value.int 181 0, Value.ref 490, Value.none, Value.none, Value.none, Value.ref 491, Value.int 896 0, Value.int 267 0, Value.str (Str.ofString "/claim/cut.py") 897]) #[]) ::
(nat_lit 493, Obj.mk (Value.type "function") none (Data.func (FuncData.mk (Str.ofString "_opcode_of") (Str.ofString "_opcode_of") (defArgs (topS 63)) (.stmts (defBody (topS 63))) (defScope (topS 63)) 3 [] Value.none Value.none Value.none (Value.str (Str.ofString "sillwatch.objects.tables") 743) none (Value.ref 492) Value.none 0)) #[]) ::
(nat_lit 501, Obj.mk (Value.type "tuple") none (Data.seq #[]) #[]) ::
(nat_lit 503, Obj.mk (Value.type "tuple") none (Data.seq #[Value.str (Str.ofString "self") 916]) #[]) ::
(nat_lit 504, Obj.mk (Value.type "tuple") none (Data.seq #[]) #[]) ::
(nat_lit 506, Obj.mk (Value.type "code") none (Data.fields #[Value.str (Str.ofString "__init__") 913, Value.str (Str.ofString "Reply.__init__") 914, Value.str (Str.ofString "/claim/cut.py") 915, Value.int 272 0, Value.int 1 0, Value.int 0 0, Value.int 0 0, Value.int 3 0, Value.ref 501, Value.bool true, Value.int 181 0, Value.ref 502, Value.none, Value.ref 503, Value.ref 504, Value.ref 505, Value.int 917 0, Value.int 272 0, Value.str (Str.ofString "/claim/cut.py") 918]) #[]) ::
(nat_lit 507, Obj.mk (Value.type "function") none (Data.func (FuncData.mk (Str.ofString "__init__") (Str.ofString "Reply.__init__") (defArgs (inClass (topS 65) 0)) (.stmts (defBody (inClass (topS 65) 0))) (defScope (inClass (topS 65) 0)) 3 [] Value.none Value.none Value.none (Value.str (Str.ofString "sillwatch.objects.replies") 899) none (Value.ref 506) Value.none 0)) #[]) ::
(nat_lit 508, Obj.mk (Value.type "tuple") none (Data.seq #[]) #[]) ::
(nat_lit 510, Obj.mk (Value.type "tuple") none (Data.seq #[Value.str (Str.ofString "self") 923, Value.str (Str.ofString "number") 924, Value.str (Str.ofString "interface") 925, Value.str (Str.ofString "name") 926, Value.str (Str.ofString "values") 927]) #[]) ::
(nat_lit 511, Obj.mk (Value.type "tuple") none (Data.seq #[]) #[]) ::
(nat_lit 513, Obj.mk (Value.type "code") none (Data.fields #[Value.str (Str.ofString "tell") 920, Value.str (Str.ofString "Reply.tell") 921, Value.str (Str.ofString "/claim/cut.py") 922, Value.int 278 0, Value.int 5 0, Value.int 0 0, Value.int 0 0, Value.int 3 0, Value.ref 508, Value.bool true, Value.int 181 0, Value.ref 509, Value.none, Value.ref 510, Value.ref 511, Value.ref 512, Value.int 928 0, Value.int 278 0, Value.str (Str.ofString "/claim/cut.py") 929]) #[]) ::
(nat_lit 514, Obj.mk (Value.type "function") none (Data.func (FuncData.mk (Str.ofString "tell") (Str.ofString "Reply.tell") (defArgs (inClass (topS 65) 1)) (.stmts (defBody (inClass (topS 65) 1))) (defScope (inClass (topS 65) 1)) 3 [] Value.none Value.none Value.none (Value.str (Str.ofString "sillwatch.objects.replies") 899) none (Value.ref 513) Value.none 0)) #[]) ::
(nat_lit 515, Obj.mk (Value.type "tuple") none (Data.seq #[]) #[]) ::
(nat_lit 517, Obj.mk (Value.type "tuple") none (Data.seq #[Value.str (Str.ofString "self") 934, Value.str (Str.ofString "number") 935]) #[]) ::
(nat_lit 518, Obj.mk (Value.type "tuple") none (Data.seq #[]) #[]) ::
(nat_lit 520, Obj.mk (Value.type "code") none (Data.fields #[Value.str (Str.ofString "end") 931, Value.str (Str.ofString "Reply.end") 932, Value.str (Str.ofString "/claim/cut.py") 933, Value.int 281 0, Value.int 2 0, Value.int 0 0, Value.int 0 0, Value.int 3 0, Value.ref 515, Value.bool true, Value.int 181 0, Value.ref 516, Value.none, Value.ref 517, Value.ref 518, Value.ref 519, Value.int 936 0, Value.int 281 0, Value.str (Str.ofString "/claim/cut.py") 937]) #[]) ::
(nat_lit 521, Obj.mk (Value.type "function") none (Data.func (FuncData.mk (Str.ofString "end") (Str.ofString "Reply.end") (defArgs (inClass (topS 65) 2)) (.stmts (defBody (inClass (topS 65) 2))) (defScope (inClass (topS 65) 2)) 3 [] Value.none Value.none Value.none (Value.str (Str.ofString "sillwatch.objects.replies") 899) none (Value.ref 520) Value.none 0)) #[]) ::
(nat_lit 522, Obj.mk (Value.type "tuple") none (Data.seq #[]) #[]) ::
(nat_lit 524, Obj.mk (Value.type "tuple") none (Data.seq #[Value.str (Str.ofString "self") 942, Value.str (Str.ofString "deed") 943]) #[]) ::
(nat_lit 525, Obj.mk (Value.type "tuple") none (Data.seq #[]) #[]) ::
(nat_lit 527, Obj.mk (Value.type "code") none (Data.fields #[Value.str (Str.ofString "wish") 939, Value.str (Str.ofString "Reply.wish") 940, Value.str (Str.ofString "/claim/cut.py") 941, Value.int 284 0, Value.int 2 0, Value.int 0 0, Value.int 0 0, Value.int 3 0, Value.ref 522, Value.bool true, Value.int 181 0, Value.ref 523, Value.none, Value.ref 524, Value.ref 525, Value.ref 526, Value.int 944 0, Value.int 284 0, Value.str (Str.ofString "/claim/cut.py") 945]) #[]) ::
(nat_lit 528, Obj.mk (Value.type "function") none (Data.func (FuncData.mk (Str.ofString "wish") (Str.ofString "Reply.wish") (defArgs (inClass (topS 65) 3)) (.stmts (defBody (inClass (topS 65) 3))) (defScope (inClass (topS 65) 3)) 3 [] Value.none Value.none Value.none (Value.str (Str.ofString "sillwatch.objects.replies") 899) none (Value.ref 527) Value.none 0)) #[]) ::
(nat_lit 529, Obj.mk (Value.type "tuple") none (Data.seq #[Value.str (Str.ofString "applied") 947, Value.str (Str.ofString "ended") 948, Value.str (Str.ofString "told") 949, Value.str (Str.ofString "wishes") 950]) #[]) ::
(nat_lit 530, Obj.mk (Value.type "dict") none (Data.dict #[DictEntry.mk (PyData.keyHash PP (Str.ofString "__module__")) (Value.str (Str.ofString "__module__") 908) (Value.str (Str.ofString "sillwatch.objects.replies") 899), DictEntry.mk (PyData.keyHash PP (Str.ofString "__firstlineno__")) (Value.str (Str.ofString "__firstlineno__") 912) (Value.int 270 911), DictEntry.mk (PyData.keyHash PP (Str.ofString "__init__")) (Value.str (Str.ofString "__init__") 919) (Value.ref 507), DictEntry.mk (PyData.keyHash PP (Str.ofString "tell")) (Value.str (Str.ofString "tell") 930) (Value.ref 514), DictEntry.mk (PyData.keyHash PP (Str.ofString "end")) (Value.str (Str.ofString "end") 938) (Value.ref 521), DictEntry.mk (PyData.keyHash PP (Str.ofString "wish")) (Value.str (Str.ofString "wish") 946) (Value.ref 528), DictEntry.mk (PyData.keyHash PP (Str.ofString "__static_attributes__")) (Value.str (Str.ofString "__static_attributes__") 951) (Value.ref 529), DictEntry.mk (PyData.keyHash PP (Str.ofString "__dict__")) (Value.str (Str.ofString "__dict__") 953) (Value.ref 532), DictEntry.mk (PyData.keyHash PP (Str.ofString "__weakref__")) (Value.str (Str.ofString "__weakref__") 955) (Value.ref 533), DictEntry.mk (PyData.keyHash PP (Str.ofString "__doc__")) (Value.str (Str.ofString "__doc__") 956) Value.none] 4) #[]) ::
(nat_lit 531, Obj.mk (Value.type "type") none (Data.cls (ClassData.mk (Str.ofString "Reply") [Value.type "object"] [Value.ref 531, Value.type "object"] 530 (Str.ofString "Reply") true [] [] false none false)) #[none, none, some (Value.str (Str.ofString "Reply") 901), some (Value.str (Str.ofString "Reply") 909), some (Value.builtin "object.__new__"), some (Value.bool true)]) ::
(nat_lit 532, Obj.mk (Value.type "getset_descriptor") none (Data.fields #[Value.str (Str.ofString "__dict__") 952, Value.ref 531, Value.builtin "function.__dict__", Value.builtin "function.__dict__#set"]) #[]) ::
(nat_lit 533, Obj.mk (Value.type "getset_descriptor") none (Data.fields #[Value.str (Str.ofString "__weakref__") 954, Value.ref 531, Value.builtin "ExceptionGroup.__weakref__", Value.none]) #[]) ::
(nat_lit 543, Obj.mk (Value.type "tuple") none (Data.seq #[]) #[]) ::
(nat_lit 545, Obj.mk (Value.type "tuple") none (Data.seq #[Value.str (Str.ofString "self") 976, Value.str (Str.ofString "number") 977, Value.str (Str.ofString "interface") 978, Value.str (Str.ofString "name") 979, Value.str (Str.ofString "arguments") 980, Value.str (Str.ofString "ends") 981]) #[]) ::
(nat_lit 546, Obj.mk (Value.type "tuple") none (Data.seq #[]) #[]) ::
(nat_lit 548, Obj.mk (Value.type "code") none (Data.fields #[Value.str (Str.ofString "__init__") 973, Value.str (Str.ofString "Request.__init__") 974, Value.str (Str.ofString "/claim/cut.py") 975, Value.int 289 0, Value.int 6 0, Value.int 0 0, Value.int 0 0, Value.int 3 0, Value.ref 543, Value.bool true, Value.int 181 0, Value.ref 544, Value.none, Value.ref 545, Value.ref 546, Value.ref 547, Value.int 982 0, Value.int 289 0, Value.str (Str.ofString "/claim/cut.py") 983]) #[]) ::
(nat_lit 549, Obj.mk (Value.type "function") none (Data.func (FuncData.mk (Str.ofString "__init__") (Str.ofString "Request.__init__") (defArgs (inClass (topS 67) 0)) (.stmts (defBody (inClass (topS 67) 0))) (defScope (inClass (topS 67) 0)) 3 [] Value.none Value.none Value.none (Value.str (Str.ofString "sillwatch.objects.requests") 959) none (Value.ref 548) Value.none 0)) #[]) ::
(nat_lit 550, Obj.mk (Value.type "tuple") none (Data.seq #[Value.str (Str.ofString "arguments") 985, Value.str (Str.ofString "ends") 986, Value.str (Str.ofString "interface") 987, Value.str (Str.ofString "name") 988, Value.str (Str.ofString "number") 989]) #[]) ::
(nat_lit 551, Obj.mk (Value.type "dict") none (Data.dict #[DictEntry.mk (PyData.keyHash PP (Str.ofString "__module__")) (Value.str (Str.ofString "__module__") 968) (Value.str (Str.ofString "sillwatch.objects.requests") 959), DictEntry.mk (PyData.keyHash PP (Str.ofString "__firstlineno__")) (Value.str (Str.ofString "__firstlineno__") 972) (Value.int 287 971), DictEntry.mk (PyData.keyHash PP (Str.ofString "__init__")) (Value.str (Str.ofString "__init__") 984) (Value.ref 549), DictEntry.mk (PyData.keyHash PP (Str.ofString "__static_attributes__")) (Value.str (Str.ofString "__static_attributes__") 990) (Value.ref 550), DictEntry.mk (PyData.keyHash PP (Str.ofString "__dict__")) (Value.str (Str.ofString "__dict__") 992) (Value.ref 553), DictEntry.mk (PyData.keyHash PP (Str.ofString "__weakref__")) (Value.str (Str.ofString "__weakref__") 994) (Value.ref 554), DictEntry.mk (PyData.keyHash PP (Str.ofString "__doc__")) (Value.str (Str.ofString "__doc__") 995) Value.none] 4) #[]) ::
(nat_lit 552, Obj.mk (Value.type "type") none (Data.cls (ClassData.mk (Str.ofString "Request") [Value.type "object"] [Value.ref 552, Value.type "object"] 551 (Str.ofString "Request") true [] [] false none false)) #[none, none, some (Value.str (Str.ofString "Request") 961), some (Value.str (Str.ofString "Request") 969), some (Value.builtin "object.__new__"), some (Value.bool true)]) ::
(nat_lit 553, Obj.mk (Value.type "getset_descriptor") none (Data.fields #[Value.str (Str.ofString "__dict__") 991, Value.ref 552, Value.builtin "function.__dict__", Value.builtin "function.__dict__#set"]) #[]) ::
(nat_lit 554, Obj.mk (Value.type "getset_descriptor") none (Data.fields #[Value.str (Str.ofString "__weakref__") 993, Value.ref 552, Value.builtin "ExceptionGroup.__weakref__", Value.none]) #[]) ::
(nat_lit 557, Obj.mk (Value.type "tuple") none (Data.seq #[]) #[]) ::
(nat_lit 559, Obj.mk (Value.type "tuple") none (Data.seq #[Value.str (Str.ofString "script") 1003, Value.str (Str.ofString "k") 1004, Value.str (Str.ofString "cell") 1005]) #[]) ::
(nat_lit 560, Obj.mk (Value.type "tuple") none (Data.seq #[]) #[]) ::
(nat_lit 562, Obj.mk (Value.type "code") none (Data.fields #[Value.str (Str.ofString "_law_cell") 1000, Value.str (Str.ofString "_law_cell") 1001, Value.str (Str.ofString "/claim/cut.py") 1002, Value.int 296 0, Value.int 2 0, Value.int 0 0, Value.int 0 0, Value.int 3 0, Value.ref 557, Value.bool true, Value.int 181 0, Value.ref 558, Value.none, Value.ref 559, Value.ref 560, Value.ref 561, Value.int 1006 0, Value.int 296 0, Value.str (Str.ofString "/claim/cut.py") 1007]) #[]) ::
(nat_lit 563, Obj.mk (Value.type "function") none (Data.func (FuncData.mk (Str.ofString "_law_cell") (Str.ofString "_law_cell") (defArgs (topS 69)) (.stmts (defBody (topS 69))) (defScope (topS 69)) 3 [] Value.none Value.none Value.none (Value.str (Str.ofString "law_sillwatch_k29_buffers_and_regions_bounds") 998) none (Value.ref 562) Value.none 0)) #[]) ::
(nat_lit 564, Obj.mk (Value.type "tuple") none (Data.seq #[]) #[]) ::
(nat_lit 566, Obj.mk (Value.type "tuple") none (Data.seq #[Value.str (Str.ofString "script") 1012, Value.str (Str.ofString "k") 1013, Value.str (Str.ofString "cell") 1014, Value.str (Str.ofString "one") 1015, Value.str (Str.ofString "two") 1016]) #[]) ::
(nat_lit 567, Obj.mk (Value.type "tuple") none (Data.seq #[]) #[]) ::
(nat_lit 569, Obj.mk (Value.type "code") none (Data.fields #[Value.str (Str.ofString "_law_row") 1009, Value.str (Str.ofString "_law_row") 1010, Value.str (Str.ofString "/claim/cut.py") 1011, Value.int 303 0, Value.int 2 0, Value.int 0 0, Value.int 0 0, Value.int 3 0, Value.ref 564, Value.bool true, Value.int 181 0, Value.ref 565, Value.none, Value.ref 566, Value.ref 567, Value.ref 568, Value.int 1017 0, Value.int 303 0, Value.str (Str.ofString "/claim/cut.py") 1018]) #[]) ::
(nat_lit 570, Obj.mk (Value.type "function") none (Data.func (FuncData.mk (Str.ofString "_law_row") (Str.ofString "_law_row") (defArgs (topS 70)) (.stmts (defBody (topS 70))) (defScope (topS 70)) 3 [] Value.none Value.none Value.none (Value.str (Str.ofString "law_sillwatch_k29_buffers_and_regions_bounds") 998) none (Value.ref 569) Value.none 0)) #[]) ::
(nat_lit 571, Obj.mk (Value.type "tuple") none (Data.seq #[]) #[]) ::
(nat_lit 573, Obj.mk (Value.type "tuple") none (Data.seq #[Value.str (Str.ofString "buffers") 1023, Value.str (Str.ofString "number") 1024, Value.str (Str.ofString "interface") 1025, Value.str (Str.ofString "name") 1026, Value.str (Str.ofString "arguments") 1027, Value.str (Str.ofString "others") 1028, Value.str (Str.ofString "e") 1029]) #[]) ::
(nat_lit 574, Obj.mk (Value.type "tuple") none (Data.seq #[]) #[]) ::
(nat_lit 576, Obj.mk (Value.type "code") none (Data.fields #[Value.str (Str.ofString "_law_ask") 1020, Value.str (Str.ofString "_law_ask") 1021, Value.str (Str.ofString "/claim/cut.py") 1022, Value.int 310 0, Value.int 6 0, Value.int 0 0, Value.int 0 0, Value.int 3 0, Value.ref 571, Value.bool true, Value.int 181 0, Value.ref 572, Value.none, Value.ref 573, Value.ref 574, Value.ref 575, Value.int 1030 0, Value.int 310 0, Value.str (Str.ofString "/claim/cut.py") 1031]) #[]) ::
(nat_lit 577, Obj.mk (Value.type "function") none (Data.func (FuncData.mk (Str.ofString "_law_ask") (Str.ofString "_law_ask") (defArgs (topS 71)) (.stmts (defBody (topS 71))) (defScope (topS 71)) 3 [] Value.none Value.none Value.none (Value.str (Str.ofString "law_sillwatch_k29_buffers_and_regions_bounds") 998) none (Value.ref 576) Value.none 0)) #[]) ::
(nat_lit 578, Obj.mk (Value.type "tuple") none (Data.seq #[]) #[]) ::
(nat_lit 580, Obj.mk (Value.type "tuple") none (Data.seq #[Value.str (Str.ofString "script") 1036, Value.str (Str.ofString "buffers") 1037, Value.str (Str.ofString "count") 1038, Value.str (Str.ofString "pixels") 1039, Value.str (Str.ofString "k") 1040, Value.str (Str.ofString "row") 1041, Value.str (Str.ofString "width") 1042, Value.str (Str.ofString "height") 1043, Value.str (Str.ofString "others") 1044, Value.str (Str.ofString "told") 1045, Value.str (Str.ofString "due") 1046]) #[]) ::
(nat_lit 581, Obj.mk (Value.type "tuple") none (Data.seq #[]) #[]) ::
(nat_lit 583, Obj.mk (Value.type "code") none (Data.fields #[Value.str (Str.ofString "_law_buffers") 1033, Value.str (Str.ofString "_law_buffers") 1034, Value.str (Str.ofString "/claim/cut.py") 1035, Value.int 316 0, Value.int 1 0, Value.int 0 0, Value.int 0 0, Value.int 3 0, Value.ref 578, Value.bool true, Value.int 181 0, Value.ref 579, Value.none, Value.ref 580, Value.ref 581, Value.ref 582, Value.int 1047 0, Value.int 316 0, Value.str (Str.ofString "/claim/cut.py") 1048]) #[]) ::
(nat_lit 584, Obj.mk (Value.type "function") none (Data.func (FuncData.mk (Str.ofString "_law_buffers") (Str.ofString "_law_buffers") (defArgs (topS 72)) (.stmts (defBody (topS 72))) (defScope (topS 72)) 3 [] Value.none Value.none Value.none (Value.str (Str.ofString "law_sillwatch_k29_buffers_and_regions_bounds") 998) none (Value.ref 583) Value.none 0)) #[]) ::
(nat_lit 585, Obj.mk (Value.type "tuple") none (Data.seq #[]) #[]) ::
(nat_lit 587, Obj.mk (Value.type "tuple") none (Data.seq #[Value.str (Str.ofString "script") 1053, Value.str (Str.ofString "buffers") 1054, Value.str (Str.ofString "k") 1055, Value.str (Str.ofString "told") 1056, Value.str (Str.ofString "row") 1057, Value.str (Str.ofString "number") 1058, Value.str (Str.ofString "x") 1059, Value.str (Str.ofString "y") 1060, Value.str (Str.ofString "width") 1061, Value.str (Str.ofString "name") 1062, Value.str (Str.ofString "before") 1063, Value.str (Str.ofString "fits") 1064]) #[]) ::
(nat_lit 588, Obj.mk (Value.type "tuple") none (Data.seq #[]) #[]) ::
(nat_lit 590, Obj.mk (Value.type "code") none (Data.fields #[Value.str (Str.ofString "_law_regions") 1050, Value.str (Str.ofString "_law_regions") 1051, Value.str (Str.ofString "/claim/cut.py") 1052, Value.int 343 0, Value.int 1 0, Value.int 0 0, Value.int 0 0, Value.int 3 0, Value.ref 585, Value.bool true, Value.int 181 0, Value.ref 586, Value.none, Value.ref 587, Value.ref 588, Value.ref 589, Value.int 1065 0, Value.int 343 0, Value.str (Str.ofString "/claim/cut.py") 1066]) #[]) ::
(nat_lit 591, Obj.mk (Value.type "function") none (Data.func (FuncData.mk (Str.ofString "_law_regions") (Str.ofString "_law_regions") (defArgs (topS 73)) (.stmts (defBody (topS 73))) (defScope (topS 73)) 3 [] Value.none Value.none Value.none (Value.str (Str.ofString "law_sillwatch_k29_buffers_and_regions_bounds") 998) none (Value.ref 590) Value.none 0)) #[]) ::
(nat_lit 592, Obj.mk (Value.type "tuple") none (Data.seq #[]) #[]) ::
(nat_lit 594, Obj.mk (Value.type "tuple") none (Data.seq #[Value.str (Str.ofString "script") 1071]) #[]) ::
(nat_lit 595, Obj.mk (Value.type "tuple") none (Data.seq #[]) #[]) ::
(nat_lit 597, Obj.mk (Value.type "code") none (Data.fields #[Value.str (Str.ofString "law") 1068, Value.str (Str.ofString "law") 1069, Value.str (Str.ofString "/claim/cut.py") 1070, Value.int 368 0, Value.int 1 0, Value.int 0 0, Value.int 0 0, Value.int 3 0, Value.ref 592, Value.bool true, Value.int 181 0, Value.ref 593, Value.none, Value.ref 594, Value.ref 595, Value.ref 596, Value.int 1072 0, Value.int 368 0, Value.str (Str.ofString "/claim/cut.py") 1073]) #[]) ::
(nat_lit 598, Obj.mk (Value.type "function") none (Data.func (FuncData.mk (Str.ofString "law") (Str.ofString "law") (defArgs (topS 74)) (.stmts (defBody (topS 74))) (defScope (topS 74)) 3 [] Value.none Value.none Value.none (Value.str (Str.ofString "law_sillwatch_k29_buffers_and_regions_bounds") 998) none (Value.ref 597) Value.none 0)) #[]) :: []
def KA : List Addr := [2, 3, 15, 17, 18, 20, 21, 22, 29, 30, 31, 32, 35, 42, 43, 44, 47, 54, 55, 56, 59, 62, 67, 68, 70, 71, 73, 74, 75, 76, 77, 80, 82, 83, 85, 86, 87, 90, 91, 92, 95, 96, 97, 100, 101, 102, 104, 105, 107, 108, 109, 111, 112, 114, 115, 116, 118, 119, 121, 122, 123, 126, 127, 128, 130, 131, 133, 134, 135, 138, 139, 140, 142, 143, 145, 146, 147, 149, 150, 152, 153, 154, 156, 157, 159, 160, 161, 163, 164, 166, 167, 168, 171, 172, 173, 175, 176, 178, 179, 180, 182, 183, 185, 186, 187, 190, 191, 192, 194, 195, 197, 198, 199, 201, 202, 204, 205, 206, 209, 210, 211, 213, 214, 216, 217, 218, 220, 221, 223, 224, 225, 227, 228, 230, 231, 239, 241, 242, 244, 245, 246, 248, 249, 251, 252, 253, 255, 256, 258, 259, 260, 262, 263, 265, 266, 267, 268, 269, 270, 271, 274, 276, 277, 279, 280, 288, 290, 291, 293, 294, 295, 297, 298, 300, 301, 302, 305, 306, 307, 309, 310, 312, 313, 314, 316, 317, 319, 320, 321, 323, 324, 326, 327, 328, 330, 331, 333, 334, 335, 338, 339, 340, 342, 343, 345, 346, 347, 349, 350, 352, 353, 354, 356, 357, 359, 360, 361, 363, 364, 366, 367, 368, 369, 370, 371, 372, 375, 377, 378, 380, 381, 382, 384, 385, 387, 388, 389, 390, 391, 392, 393, 394, 395, 396, 397, 398, 399, 400, 401, 402, 403, 404, 405, 406, 407, 408, 409, 410, 411, 412, 413, 414, 415, 416, 417, 418, 419, 420, 421, 422, 423, 424, 425, 426, 427, 428, 429, 430, 431, 432, 433, 434, 435, 436, 437, 438, 439, 440, 441, 442, 443, 444, 445, 446, 447, 448, 449, 450, 451, 452, 453, 454, 455, 456, 457, 458, 459, 460, 461, 462, 463, 464, 465, 466, 467, 468, 469, 470, 471, 472, 473, 474, 475, 476, 477, 478, 479, 480, 481, 482, 484, 485, 487, 488, 489, 492, 493, 501, 503, 504, 506, 507, 508, 510, 511, 513, 514, 515, 517, 518, 520, 521, 522, 524, 525, 527, 528, 529, 530, 531, 532, 533, 543, 545, 546, 548, 549, 550, 551, 552, 553, 554, 557, 559, 560, 562, 563, 564, 566, 567, 569, 570, 571, 573, 574, 576, 577, 578, 580, 581, 583, 584, 585, 587, 588, 590, 591, 592, 594, 595, 597, 598]
abbrev RR : PySem.W.OpenRow := PySem.W.OpenLaw.row PySem.Challenge.rw_sillwatch_k29_buffers_and_regions_bounds
def qv : Program := PySem.W.view RR.prog [74]
def looseN : List Str := ([Str.ofString "_wall", Str.ofString "DisplayError", Str.ofString "BadMessage", Str.ofString "MessageTooLong", Str.ofString "Fault", Str.ofString "GREATEST_NUMBER", Str.ofString "LEAST_INT", Str.ofString "GREATEST_INT", Str.ofString "LONGEST_TEXT", Str.ofString "MOST_OCTETS", Str.ofString "_FIRST_CODE", Str.ofString "_LAST_CODE", Str.ofString "_PERCENT_CODE", Str.ofString "is_integer", Str.ofString "is_text", Str.ofString "number_octets", Str.ofString "number_at", Str.ofString "field_octets", Str.ofString "_is_code", Str.ofString "_is_of", Str.ofString "_are_octets", Str.ofString "_is_bound", Str.ofString "_text_octets", Str.ofString "_padded", Str.ofString "rectangle_region", Str.ofString "united", Str.ofString "without", Str.ofString "rectangles", Str.ofString "_either", Str.ofString "_first_alone", Str.ofString "_combined", Str.ofString "_combined_spans", Str.ofString "_spans_of", Str.ofString "_pieces", Str.ofString "_first_ending_behind", Str.ofString "_row_from", Str.ofString "_joined", Str.ofString "CLEAR", Str.ofString "Picture", Str.ofString "clear_picture"] : List Str) ++ ([Str.ofString "MOST_BUFFERS", Str.ofString "MOST_PIXELS", Str.ofString "LONGEST_SIDE", Str.ofString "MOST_REGIONS", Str.ofString "FARTHEST_PLACE", Str.ofString "LONGEST_STRETCH", Str.ofString "MOST_RECTANGLES", Str.ofString "Buffers", Str.ofString "_is_near", Str.ofString "HEADER_SIZE", Str.ofString "GREATEST_SIZE", Str.ofString "GREATEST_OPCODE", Str.ofString "MOST_ARGUMENTS", Str.ofString "encode_message", Str.ofString "_EVENTS", Str.ofString "event_octets", Str.ofString "_opcode_of", Str.ofString "Reply", Str.ofString "Request", Str.ofString "_law_cell", Str.ofString "_law_row", Str.ofString "_law_ask", Str.ofString "_law_buffers", Str.ofString "_law_regions"] : List Str)
theorem kae : ∀ P : Params, KA = (KF P).map (·.1) := fun _ => by kernel_rfl
def hkK : PySem.W.Hook := PySem.W.kHook KF KA kae
def obK (s : PySem.W.SharedT) : List (Option Obj) := KA.map (HandSHeadRun.getT s)
theorem obK_eq (s : PySem.W.SharedT) : obK s = hkK.obs s.abs := List.map_congr_left fun a _ => HandSHeadRun.getT_eq s a
theorem map3 {α β γ δ : Type} {o : Option α} {a : α → β} {b : α → γ} {c : α → δ} {x : β} {y : γ} {z : δ} (h1 : o.map (fun s => (a s, c s)) = some (x, z)) (h2 : o.map b = some y) : o.map (fun s => (a s, b s, c s)) = some (x, y, z) := by
  cases o with
  | none => cases h1
  | some s => cases h1; cases h2; rfl
abbrev LkP (w : World) : Prop := ∀ os : OsState, (HandSHeadRun.endF (HandSHeadRun.stepQ (HandSHeadRun.denQ HandSHeadRun.tabQ) RR.prog w) 9244 RR.prog w os).map (fun s => (HandSHeadRun.looksF RR.prog (PySem.W.boot_heap w.params) s.abs, obK s)) = some ((true, hkK.val w))
set_option maxHeartbeats 0 in
theorem falseLk (w : World) : LkP (w.withFollow "special-get-raises" false) := by intro os; kernel_rfl
set_option maxHeartbeats 0 in
theorem trueLk (w : World) : LkP (w.withFollow "special-get-raises" true) := by intro os; kernel_rfl
theorem allLk (w : World) : LkP w := PySem.W.byRow2 "special-get-raises" falseLk trueLk w
abbrev SaP (w : World) : Prop := ∀ os : OsState, (HandSHeadRun.endF (HandSHeadRun.stepQ (HandSHeadRun.denQ HandSHeadRun.tabQ) RR.prog w) 9244 RR.prog w os).map (fun s => HandSHeadRun.seenQ qv looseN (importedModules RR.prog.main.body) (fun s => PySem.W.xlAt qv [] s && PySem.W.recOk RR.toRowW.records s) s.abs) = some (PySem.W.openGood qv looseN)
set_option maxHeartbeats 0 in
theorem falseSa (w : World) : SaP (w.withFollow "special-get-raises" false) := by intro os; kernel_rfl
set_option maxHeartbeats 0 in
theorem trueSa (w : World) : SaP (w.withFollow "special-get-raises" true) := by intro os; kernel_rfl
theorem allSa (w : World) : SaP w := PySem.W.byRow2 "special-get-raises" falseSa trueSa w
theorem runK (w : World) : HandSHeadRun.RunEq RR qv hkK obK 9244 looseN w := fun os => map3 (allLk w os) (allSa w os)
end My
open PySem PySem.W PyProof.Rows
set_option maxRecDepth 100000 in
set_option maxHeartbeats 0 in
theorem PySem.Challenge.cw_sillwatch_k29_buffers_and_regions_bounds_holds : PySem.Challenge.rw_sillwatch_k29_buffers_and_regions_bounds.Holds := by
  w_on; o_law
  refine HandSHeadRun.head_any (r := PySem.W.OpenLaw.row PySem.Challenge.rw_sillwatch_k29_buffers_and_regions_bounds) (q := My.qv) (H := PySem.W.kHook My.KF My.KA My.kae) (ob := My.obK) (M := _) (loose := My.looseN) (kwd := []) My.obK_eq (by kernel_rfl) (fun s => by kernel_rfl) My.runK (by rfl) (by rfl) (by rfl) (by rfl) (by first | assumption | decide +kernel) (by decide +kernel) ⟨rfl, rfl, rfl, rfl, rfl, by decide +kernel⟩ ?hw ?hc
  (case hw => w_witness2)
  k_fill
  refine My.walk (l := PySem.Challenge.rw_sillwatch_k29_buffers_and_regions_bounds) rfl rfl (fun w h Y => PySem.W.kIn_of Y) ?F
  case F =>
    intro w mg fa h KX G hmg
    refine' My.all_mk (P := PySem.Challenge.rw_sillwatch_k29_buffers_and_regions_bounds.prog) ⟨by first | rfl | decide +kernel, by first | rfl | decide +kernel⟩ KX G hmg ?a1 ?l1 ?c1 ?k1 ?a2 ?l2 ?c2 ?k2 ?a3 ?l3 ?c3 ?k3 ?a4 ?l4 ?c4 ?k4 ?a5 ?l5 ?c5 ?k5 ?a6 ?l6 ?c6 ?k6 ?a7 ?l7 ?c7 ?k7 ?a8 ?l8 ?c8 ?k8 ?a9 ?l9 ?c9 ?k9 ?a10 ?l10 ?c10 ?k10 ?a11 ?l11 ?c11 ?k11 ?a12 ?l12 ?c12 ?k12 ?a13 ?l13 ?c13 ?k13 ?a14 ?l14 ?c14 ?k14 ?a15 ?l15 ?c15 ?k15 ?a16 ?l16 ?c16 ?k16 ?a17 ?l17 ?c17 ?k17 ?a18 ?l18 ?c18 ?k18 ?a19 ?l19 ?c19 ?k19 ?a20 ?l20 ?c20 ?k20 ?a21 ?l21 ?c21 ?k21 ?a22 ?l22 ?c22 ?k22 ?a23 ?i23 ?l23 ?c23 ?k23 ?lc23 ?ld23 ?rv23 ?lD23 ?ty23 ?a24 ?i24 ?l24 ?c24 ?k24 ?a25 ?i25 ?l25 ?c25 ?k25 ?a26 ?i26 ?l26 ?c26 ?k26 ?a27 ?i27 ?l27 ?c27 ?k27 ?a28 ?i28 ?l28 ?c28 ?k28 ?a29 ?i29 ?l29 ?c29 ?k29 ?a30 ?i30 ?l30 ?c30 ?k30 ?a31 ?i31 ?l31 ?c31 ?k31 ?a32 ?i32 ?l32 ?c32 ?k32 ?a33 ?i33 ?l33 ?c33 ?k33 ?a34 ?i34 ?l34 ?c34 ?k34 ?a35 ?i35 ?l35 ?c35 ?k35 ?a36 ?i36 ?l36 ?c36 ?k36 ?a37 ?i37 ?l37 ?c37 ?k37 ?a38 ?i38 ?l38 ?c38 ?k38 ?z_abs ?z_int ?z_len ?z_list ?z_max ?z_min ?z_range ?z_set ?z_sorted ?z_sum ?z_super ?z_tuple ?z_zip ?q_CLEAR ?q_MOST_BUFFERS ?q_MOST_PIXELS ?q_LONGEST_SIDE ?q_MOST_REGIONS ?q_FARTHEST_PLACE ?q_LONGEST_STRETCH ?q_MOST_RECTANGLES ?uPicture ?pgPicture ?hdPicture ?poPicture ?saPicture ?mkPicture ?kcPicture ?nPicture_width ?nPicture_height ?nPicture_pixels ?uBuffers ?pgBuffers ?hdBuffers ?poBuffers ?saBuffers ?mkBuffers ?kcBuffers ?nBuffers__pictures ?nBuffers__regions ?uReply ?pgReply ?hdReply ?poReply ?saReply ?mkReply ?kcReply ?nReply_told ?nReply_ended ?nReply_wishes ?nReply_applied ?uRequest ?pgRequest ?hdRequest ?poRequest ?saRequest ?mkRequest ?kcRequest ?nRequest_number ?nRequest_interface ?nRequest_name ?nRequest_arguments ?nRequest_ends ?uFault ?loFault ?rmFault ?keFault ?bxFault ?txFault ?ixFault ?sxFault ?saFault ?mrFault ?ksFault ?veFault ?tpFault ?gaFault ?gtFault ?hxFault ?fcFault ?moFault ?sgFault ?tkFault ?nFault_number ?nFault_code ?nFault_words
    (case uPicture => k_is)
    (case uBuffers => k_is)
    (case uReply => k_is)
    (case uRequest => k_is)
    (case uFault => k_is)
    (case a1 => k_is)
    (case l1 => k_is)
    (case c1 => k_is)
    (case k1 => k_is)
    (case a2 => k_is)
    (case l2 => k_is)
    (case c2 => k_is)
    (case k2 => k_is)
    (case a3 => k_is)
    (case l3 => k_is)
    (case c3 => k_is)
    (case k3 => k_is)
    (case a4 => k_is)
    (case l4 => k_is)
    (case c4 => k_is)
    (case k4 => k_is)
    (case a5 => k_is)
    (case l5 => k_is)
    (case c5 => k_is)
    (case k5 => k_is)
    (case a6 => k_is)
    (case l6 => k_is)
    (case c6 => k_is)
    (case k6 => k_is)
    (case a7 => k_is)
    (case l7 => k_is)
    (case c7 => k_is)
    (case k7 => k_is)
    (case a8 => k_is)
    (case l8 => k_is)
    (case c8 => k_is)
    (case k8 => k_is)
    (case a9 => k_is)
    (case l9 => k_is)
    (case c9 => k_is)
    (case k9 => k_is)
    (case a10 => k_is)
    (case l10 => k_is)
    (case c10 => k_is)
    (case k10 => k_is)
    (case a11 => k_is)
    (case l11 => k_is)
    (case c11 => k_is)
    (case k11 => k_is)
    (case a12 => k_is)
    (case l12 => k_is)
    (case c12 => k_is)
    (case k12 => k_is)
    (case a13 => k_is)
    (case l13 => k_is)
    (case c13 => k_is)
    (case k13 => k_is)
    (case a14 => k_is)
    (case l14 => k_is)
    (case c14 => k_is)
    (case k14 => k_is)
    (case a15 => k_is)
    (case l15 => k_is)
    (case c15 => k_is)
    (case k15 => k_is)
    (case a16 => k_is)
    (case l16 => k_is)
    (case c16 => k_is)
    (case k16 => k_is)
    (case a17 => k_is)
    (case l17 => k_is)
    (case c17 => k_is)
    (case k17 => k_is)
    (case a18 => k_is)
    (case l18 => k_is)
    (case c18 => k_is)
    (case k18 => k_is)
    (case a19 => k_is)
    (case l19 => k_is)
    (case c19 => k_is)
    (case k19 => k_is)
    (case a20 => k_is)
    (case l20 => k_is)
    (case c20 => k_is)
    (case k20 => k_is)
    (case a21 => k_is)
    (case l21 => k_is)
    (case c21 => k_is)
    (case k21 => k_is)
    (case a22 => k_is)
    (case l22 => k_is)
    (case c22 => k_is)
    (case k22 => k_is)
    (case a23 => k_is)
    (case i23 => k_is)
    (case l23 => k_is)
    (case c23 => k_is)
    (case k23 => k_is)
    (case lc23 => k_is)
    (case ld23 => k_is)
    (case rv23 => first | rfl | decide +kernel)
    (case lD23 => k_is)
    (case ty23 => k_is)
    (case a24 => k_is)
    (case i24 => k_is)
    (case l24 => k_is)
    (case c24 => k_is)
    (case k24 => k_is)
    (case a25 => k_is)
    (case i25 => k_is)
    (case l25 => k_is)
    (case c25 => k_is)
    (case k25 => k_is)
    (case a26 => k_is)
    (case i26 => k_is)
    (case l26 => k_is)
    (case c26 => k_is)
    (case k26 => k_is)
    (case a27 => k_is)
    (case i27 => k_is)
    (case l27 => k_is)
    (case c27 => k_is)
    (case k27 => k_is)
    (case a28 => k_is)
    (case i28 => k_is)
    (case l28 => k_is)
    (case c28 => k_is)
    (case k28 => k_is)
    (case a29 => k_is)
    (case i29 => k_is)
    (case l29 => k_is)
    (case c29 => k_is)
    (case k29 => k_is)
    (case a30 => k_is)
    (case i30 => k_is)
    (case l30 => k_is)
    (case c30 => k_is)
    (case k30 => k_is)
    (case a31 => k_is)
    (case i31 => k_is)
    (case l31 => k_is)
    (case c31 => k_is)
    (case k31 => k_is)
    (case a32 => k_is)
    (case i32 => k_is)
    (case l32 => k_is)
    (case c32 => k_is)
    (case k32 => k_is)
    (case a33 => k_is)
    (case i33 => k_is)
    (case l33 => k_is)
    (case c33 => k_is)
    (case k33 => k_is)
    (case a34 => k_is)
    (case i34 => k_is)
    (case l34 => k_is)
    (case c34 => k_is)
    (case k34 => k_is)
    (case a35 => k_is)
    (case i35 => k_is)
    (case l35 => k_is)
    (case c35 => k_is)
    (case k35 => k_is)
    (case a36 => k_is)
    (case i36 => k_is)
    (case l36 => k_is)
    (case c36 => k_is)
    (case k36 => k_is)
    (case a37 => k_is)
    (case i37 => k_is)
    (case l37 => k_is)
    (case c37 => k_is)
    (case k37 => k_is)
    (case a38 => k_is)
    (case i38 => k_is)
    (case l38 => k_is)
    (case c38 => k_is)
    (case k38 => k_is)
    (case z_abs => k_is)
    (case z_int => k_is)
    (case z_len => k_is)
    (case z_list => k_is)
    (case z_max => k_is)
    (case z_min => k_is)
    (case z_range => k_is)
    (case z_set => k_is)
    (case z_sorted => k_is)
    (case z_sum => k_is)
    (case z_super => k_is)
    (case z_tuple => k_is)
    (case z_zip => k_is)
    (case q_CLEAR => k_is)
    (case q_MOST_BUFFERS => k_is)
    (case q_MOST_PIXELS => k_is)
    (case q_LONGEST_SIDE => k_is)
    (case q_MOST_REGIONS => k_is)
    (case q_FARTHEST_PLACE => k_is)
    (case q_LONGEST_STRETCH => k_is)
    (case q_MOST_RECTANGLES => k_is)
    (case pgPicture => k_is)
    (case hdPicture => k_is)
    (case poPicture => k_is)
    (case saPicture => k_is)
    (case mkPicture => k_is)
    (case kcPicture => k_is)
    (case nPicture_width => k_is)
    (case nPicture_height => k_is)
    (case nPicture_pixels => k_is)
    (case pgBuffers => k_is)
    (case hdBuffers => k_is)
    (case poBuffers => k_is)
    (case saBuffers => k_is)
    (case mkBuffers => k_is)
    (case kcBuffers => k_is)
    (case nBuffers__pictures => k_is)
    (case nBuffers__regions => k_is)
    (case pgReply => k_is)
    (case hdReply => k_is)
    (case poReply => k_is)
    (case saReply => k_is)
    (case mkReply => k_is)
    (case kcReply => k_is)
    (case nReply_told => k_is)
    (case nReply_ended => k_is)
    (case nReply_wishes => k_is)
    (case nReply_applied => k_is)
    (case pgRequest => k_is)
    (case hdRequest => k_is)
    (case poRequest => k_is)
    (case saRequest => k_is)
    (case mkRequest => k_is)
    (case kcRequest => k_is)
    (case nRequest_number => k_is)
    (case nRequest_interface => k_is)
    (case nRequest_name => k_is)
    (case nRequest_arguments => k_is)
    (case nRequest_ends => k_is)
    (case loFault => k_is)
    (case rmFault => first | rfl | decide +kernel)
    (case keFault => k_is)
    (case bxFault => k_is)
    (case txFault => k_is)
    (case ixFault => k_is)
    (case sxFault => first | rfl | k_is)
    (case saFault => k_is)
    (case mrFault => k_is)
    (case ksFault => ks_is)
    (case veFault => k_is)
    (case tpFault => k_is)
    (case gaFault => k_is)
    (case gtFault => k_is)
    (case hxFault => k_is)
    (case fcFault => k_is)
    (case moFault => k_is)
    (case sgFault => k_is)
    (case tkFault => k_is)
    (case nFault_number => k_is)
    (case nFault_code => k_is)
    (case nFault_words => k_is)
