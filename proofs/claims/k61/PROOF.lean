import PyProof.Rows.All
import Wide.All
import OpenK.AllK
import Wide.FinOn
import HandS.ForMost
import HandS.Exc
import HandS.TryOnly
import HandS.ExcOwn
import HandS.WordsExc
import HandS.IsInst
import HandS.Wide
import HandS.Flow
import HandS.More
import HandS.Codes
import HandS.Walk
import HandS.TupLe
import HandS.WordsDict
import HandS.Conv
import HandS.TryMany
import HandS.ExcIs
import KE.KBits
import HandS.CallLocal
import HandS.Strs
import HandS.SetFor
import HandS.Set
import HandS.Property
import KE.GoesMore
import KE.KTurns
import KE.KDictZip
import HandS.Keys
import HandS.Remove
import HandS.NoneIn
import HandS.Deep
import KE.KExcSuper
import KE.RegKSuper
import KE.KExcIs
import HandS.ExcInit
import HandS.ExcField
import HandS.Star
import KE.KUnpackStar
import KE.KStateDown
import HandS.Head0
import HandS.Head1
import HandS.Head2
import PySem.Challenge.RW_sillwatch_k61_sources
set_option Elab.async false
set_option linter.all false
set_option maxRecDepth 100000
set_option maxHeartbeats 4000000
namespace My
open PySem L2
section
/-! ### a def whose first statement is super().__init__(e, ..), in an own exception (our own rule) -/
open PySem PySem.Spec PyProof.Rows
structure SupScope (N P : List Str) (sc : Scope) : Prop where
  kind : sc.kind = .function
  co : sc.isCoroutine = false
  gen : sc.isGenerator = false
  nd : N.Nodup
  pre : N.take P.length = P
  par : ∀ x ∈ P, sc.names.lookup x = some .local
  nocell : ∀ y ∈ sc.names, y.2 ≠ .cell
  free : ∀ y ∈ sc.names, y.2 = .free → y.1 = "__class__"
  cls : sc.names.lookup ("__class__" : Str) = some .free
  sup : sc.names.lookup ("super" : Str) = some .globalImplicit
abbrev envSup (qual : Str) (scope : Scope) (L f : Addr) (cd : Value) (cc : Addr) : Env := PySem.W.envX qual scope L f cd [("__class__", cc)]
def cxSup (CX : CXT) (P : Program) (w : World) (K : PySem.W.Frag) (mg : Str → Option Value) (base : Heap) (N : List Str) (qual : Str) (scope : Scope) (f : Addr) (cd : Value) (cc : Addr) (A : Around) (outer : List Env) (s : Shared) (H : Hp) (E : XK) : Cx where
  prog := P
  w := w
  K := K
  mg := mg
  base := base
  A := A.deeper (envSup qual scope s.heap.objs.size f cd cc)
  N := N
  s_0 := s
  H_0 := H
  env := envSup qual scope s.heap.objs.size f cd cc
  outer := outer
  stack := envSup qual scope s.heap.objs.size f cd cc :: outer
  ex := []
  calm := true
  fn := fun x => x != ("__class__" : Str)
  pn := []
  xe := fun e s' => wpAny (model P w) (A.deeper (envSup qual scope s.heap.objs.size f cd cc)) (leaving (envSup qual scope s.heap.objs.size f cd cc) e) (fun _ s'' => CX outer H s E e s'') (fun e' s'' => CX outer H s E e' s'') s'
theorem zip_rev_out {x : Str} : ∀ {ps : List Str} {us : List Value}, x ∉ ps → ((ps.zip us).reverse.lookup x) = none := by
  intro ps us h
  rw [List.lookup_eq_none_iff]
  intro p hp
  rw [List.mem_reverse] at hp
  have := (List.of_mem_zip (a := p.1) (b := p.2) hp).1
  simp only [beq_eq_false_iff_ne, bne_iff_ne, ne_eq]
  intro e
  rw [e] at h
  exact h this
theorem zip_rev_get {x : Str} {u : Value} : ∀ {ps : List Str} {us : List Value} {i : Nat}, ps.Nodup → ps[i]? = some x → us[i]? = some u → (ps.zip us).reverse.lookup x = some u
  | [], _, _, _, h, _ => by simp at h
  | _ :: _, [], _, _, _, h => by simp at h
  | p :: ps, v :: us, 0, nd, h1, h2 => by
    simp at h1 h2; subst h1; subst h2
    rw [List.zip_cons_cons, List.reverse_cons, List.lookup_append, zip_rev_out (List.nodup_cons.mp nd).1]
    simp [List.lookup]
  | p :: ps, v :: us, i + 1, nd, h1, h2 => by
    rw [List.zip_cons_cons, List.reverse_cons, List.lookup_append, zip_rev_get (i := i) (List.nodup_cons.mp nd).2 (by simpa using h1) (by simpa using h2)]
    rfl
theorem sup_cell {x : Str} {c cc : Addr} (h : List.lookup x [(("__class__" : Str), cc)] = some c) : x = "__class__" ∧ c = cc := by
  rw [List.lookup_cons] at h
  cases e : (x == ("__class__" : Str)) with
  | true =>
    rw [e] at h
    exact ⟨by simpa using e, by cases h; rfl⟩
  | false => rw [e] at h; cases h
theorem inv_sup {CX : CXT} {P : Program} {w : World} {K : PySem.W.Frag} {mg : Str → Option Value} {base : Heap} {N ps : List Str} {qual : Str} {scope : Scope} {f cc : Addr} {cd : Value} {A : Around} {outer : List Env} {s : Shared} {H : Hp} {E : XK} {us : List Value} {vs : List V} {h1 : Heap} {tk : Nat}
    {cl : Value} {cld : Option Addr} {cv : Option Value} {csl : Array (Option Value)} (S : SupScope N ps scope) (hd : A.handled = none) (e0 : Env0 P w K mg base A outer s H) (hl : vs.length = ps.length) (r : Vals vs us) (hcc : K.lookup cc = some ⟨cl, cld, .cell cv, csl⟩)
    (hns : h1.Ns s.heap.objs.size (fun x => (ps.zip us).reverse.lookup x)) (hk : ∀ b o, s.heap.get? b = some o → h1.get? b = some o) :
    Inv (cxSup CX P w K mg base N qual scope f cd cc A outer s H E) [] (L2.start N vs) H { s with heap := h1, toks := tk } := by
  have hpl : ps.length ≤ N.length := by have := congrArg List.length S.pre; rw [List.length_take] at this; omega
  have noA : ∀ b : Addr, b ∉ (cxSup CX P w K mg base N qual scope f cd cc A outer s H E).ex := fun b z => absurd (show b ∈ ([] : List Addr) from z) (by simp)
  have hcb : base.get? cc = some ⟨cl, cld, .cell cv, csl⟩ := e0.mod.kin _ _ hcc
  have hcs := (e0.bs _ _ hcb).1
  refine ⟨⟨e0.mod, S.kind, rfl, rfl, Nat.le_refl _, fun y z c a b => ?_, fun y hy => ?_, fun y c hf h => ?_, fun _ => hd, Around.frames_deeper e0.frames, .inr ⟨rfl, rfl⟩, fun b z => absurd z (noA b), e0.bs, e0.bsz, fun b _ _ => noA b, fun b z => absurd z (noA b), e0.funs, e0.frf⟩,
    rfl, e0.bare, Un.kept hk, ⟨_, hns, fun i y v a b c => ?_⟩, fun y c h => ?_, e0.hok.fresh (Nat.le_refl _), fun y c h => ?_, fun p hp => absurd (show p ∈ ([] : List (Addr × Obj)) from hp) (by simp), e0.hok.kept hk, ?_⟩
  · rw [(sup_cell a).1, (sup_cell b).1]
  · have hy : scope.names.lookup y = some .cell ∨ scope.names.lookup y = some .free := hy
    rcases hy with hy | hy
    · exact absurd rfl (S.nocell _ (PySem.mem_of_lookup hy))
    · have e := S.free _ (PySem.mem_of_lookup hy) rfl
      refine ⟨cc, ?_⟩
      show List.lookup y [(("__class__" : Str), cc)] = some cc
      rw [show y = "__class__" from e]
      exact List.lookup_cons_self
  · have := (sup_cell h).1
    subst this
    exact absurd hf (by show ¬ ((("__class__" : Str) != ("__class__" : Str)) = true); decide)
  · have hi : i < vs.length := by
      unfold L2.start at b
      by_cases hi : i < vs.length
      · exact hi
      · rw [List.getElem?_append_right (by simpa using hi)] at b
        rw [List.getElem?_replicate] at b
        split at b <;> cases b
    have ha : vs[i]? = some v := by
      unfold L2.start at b
      rw [List.getElem?_append_left (by simpa using hi), List.getElem?_map] at b
      cases e : vs[i]? with
      | none => rw [e] at b; cases b
      | some a => rw [e] at b; cases b; rfl
    obtain ⟨u, hu, rv⟩ := r.get ha
    have hp : ps[i]? = some y := by
      rw [← S.pre, List.getElem?_take_of_lt (by omega)]; exact a
    have ndP : ps.Nodup := by rw [← S.pre]; exact S.nd.sublist (List.take_sublist _ _)
    exact ⟨u, rv, .inl ⟨S.par y (List.mem_of_getElem? hp), zip_rev_get ndP hp hu⟩⟩
  · obtain ⟨_, rfl⟩ := sup_cell h
    exact ⟨cv, _, hk _ _ hcs, rfl⟩
  · obtain ⟨_, rfl⟩ := sup_cell h
    exact (e0.bs _ _ hcb).2
  · unfold L2.start
    show _ = N.length
    rw [List.length_append, List.length_map, List.length_replicate]
    omega
/-- ValueError's __init__ called through the wrapper that super() gave -/
theorem sup_call {X : Cx} {pins : List (Addr × Obj)} {σ : L2.St} {H : Hp} {s : Shared} {a C u : Addr} {us : List Value} {Q : Value → Shared → Prop} {E : Value → Shared → Prop} {A : Around} (T : OexC X.K C) (I : Inv X pins σ H s) (e : H a = some (exo a C none))
    (hu : s.heap.get? u = some (PySem.W.kxs_mw "ValueError.__init__" a)) (hl : us.length ≤ sizeLine) (h : ∀ s', Inv X pins σ H s' → Q .none s') :
    wpAny (model X.prog X.w) A (call (.ref u) us) Q E s := by
  obtain ⟨nm, q, N, bs, bm, sn, sub, ab, col, dd, k0, k1, k2, k3, k5, hC, hbm⟩ := T.cls
  obtain ⟨t1, ho⟩ := exo_at I.hok e
  have hCs := I.kIn _ _ hC
  obtain ⟨hp, g, d, t, os⟩ := s
  refine wpAny_call (codeAny_of_tree ?_)
  show wpAny _ A.in1 (callAny (.ref u) ⟨us, []⟩) _ _ _
  simp only [callAny]
  refine wpAny_bind (wpAny_load hu ?_)
  simp only [PySem.W.kxs_mw, show (Value.type "method-wrapper" == Value.type "method" || Value.type "method-wrapper" == Value.type "builtin_function_or_method" || Value.type "method-wrapper" == Value.type "method-wrapper") = true by decide, if_true]
  refine PySem.W.KFB.if_so (by decide) ?_
  refine wpAny_bind (PySem.W.check_bound_init F.excBase_ValueError.toExcCallFacts hCs ho rfl ?_)
  refine wpAny_bind (wpAny_pure (wpAny_pure ?_))
  refine ⟨PySem.plainId_quiet F.excBase_ValueError.init.plain _, codeAny_builtin F.excBase_ValueError.initEntry ?_⟩
  refine PySem.W.exc_init_tree (cls := .ref C) (t0 := t1) (dv := none) (c2 := .none) (c3 := .none) (b4 := .bool false) ho hl (fun h' k hx _ => ?_)
  have J := I.write (t' := t) (x := a) (e := a) (o := exo a C none) (by rw [e]; exact True.intro) (.inl rfl) k ⟨_, hx⟩ (exo_ok hx)
  have eu : upd H a (exo a C none) = H := by
    funext b
    by_cases hb : b = a
    · rw [hb, upd_same, e]
    · rw [upd_ne hb]
  rw [eu] at J
  exact h _ J
/-- what the written part says of an own exception's class C whose __init__ D has -/
structure SupC (K : PySem.W.Frag) (C D : Addr) : Prop where
  ox : OexC K C
  up : PySem.W.mroIn K C (.ref D) = some true
  get : PySem.W.ks_superIn K C D "__init__" = some (some (.builtin "ValueError.__init__"))
  ve : PySem.W.subIn K (.ref C) (.type "ValueError") = some true
  tp : PySem.W.nsIn K PySem.cStatics "thirdparty.any" = some none
theorem fn_sup {CX : CXT} {P : Program} {w : World} {K : PySem.W.Frag} {mg : Str → Option Value} {base : Heap} {k : Nat} {f cc cda D : Addr} {name qual : Str} {params : Arguments} {e : Expr} {es : List Expr} {p0 p1 p2 p3 p4 : Pos} {rest : List Stmt} {scope : Scope} {dV kV doc pm ct oc cl ccl : Value} {an od cld cdd : Option Addr}
    {osl csl ccs : Array (Option Value)} {N ps : List Str} {sp : Sp} {ar : Arg} {fvs : Array Value} {file : Str} {tf : Tok} {cdD : ClassData}
    (lk : K.lookup f = some ⟨oc, od, .func (PySem.W.fnX name qual params (.Expr (.Call (.Attribute (.Call (.Name "super" p0) [] [] p1) "__init__" p2) (e :: es) [] p3) p4 :: rest) scope [("__class__", cc)] dV kV doc pm an (.ref cda) ct), osl⟩)
    (hcd : PySem.W.codeIn K (.ref cda) qual = true) (S : SupScope N ps scope) (len : ∀ vs H Q E, sp vs H Q E → vs.length = ps.length)
    (hpar : (params.posonlyargs ++ params.args).head? = some ar) (har : ps[0]? = some ar.arg)
    (hcode : K.lookup cda = some ⟨ccl, cdd, .fields fvs, ccs⟩) (hvs : fvs[2]? = some (.str file tf)) (hfile : ((P.main.file : Str) == file) = true)
    (hcc : K.lookup cc = some ⟨cl, cld, .cell (some (.ref D)), csl⟩) (hD : PySem.W.clsIn K D = some cdD) (hsuper : mg "super" = none) (htop : (P.main.scope.names.lookup ("super" : Str)).isSome = false)
    (pl : Addr → Sem Bool) (hev : ∀ L : Addr, eval (.Call (.Attribute (.Call (.Name "super" p0) [] [] p1) "__init__" p2) (e :: es) [] p3) (envSup qual scope L f (.ref cda) cc) = (do
      let ov ← attributeBase (.Call (.Name "super" p0) [] [] p1) "__init__" (envSup qual scope L f (.ref cda) cc) (eval (.Call (.Name "super" p0) [] [] p1) (envSup qual scope L f (.ref cda) cc))
      standAt p2.atName
      let (fx, first) ← holding [ov] (getMethod ov "__init__" (pl L))
      callWith p3 fx first (backTo p3 (starEach (e :: es) (envSup qual scope L f (.ref cda) cc))) []))
    (he : ∀ X : Cx, starEach (e :: es) X.env = (false, eval e X.env) :: starEach es X.env) (hpl : ∀ X : Cx, (backTo p3 (starEach es X.env)).any (·.1) = false)
    (hbody : ∀ (A : Around) (outer : List Env) (s : Shared) (H : Hp) (vs : List V) (Q : VK) (E : XK), Room k (A.deeper (envSup qual scope s.heap.objs.size f (.ref cda) cc)) → sp vs H Q E →
      ∃ (ta : TA) (t : TS) (a C : Addr) (ws : List V), PA (cxSup CX P w K mg base N qual scope f (.ref cda) cc A outer s H E) (e :: es) ta ∧ PSs (cxSup CX P w K mg base N qual scope f (.ref cda) cc A outer s H E) rest t ∧ vs = .ref a :: ws ∧ H a = some (exo a C none) ∧ SupC K C D ∧
        ta (L2.start N vs) H fun us H1 => us.length ≤ 1000 ∧ H1 a = some (exo a C none) ∧ t { nx := fun _ H' => Q .non H', rt := Q } (L2.start N vs) H1) :
    FnOk P w K mg base CX (k + 1) f (PySem.W.fnX name qual params (.Expr (.Call (.Attribute (.Call (.Name "super" p0) [] [] p1) "__init__" p2) (e :: es) [] p3) p4 :: rest) scope [("__class__", cc)] dV kV doc pm an (.ref cda) ct) ps sp := by
  refine ⟨len, fun A outer s H args us vs Q E hr e0 hb r hsp => ?_⟩
  have hl := len _ _ _ _ hsp
  have KX : K.In s.heap := e0.mod.kin.keeps fun b o e => (e0.bs b o e).1
  have lim : s.heap.NoLimit := e0.mod.nolimit.keeps fun b o e => (e0.bs b o e).1
  refine PySem.ks_codeAny_call_defAt (fd := PySem.W.fnX name qual params (.Expr (.Call (.Attribute (.Call (.Name "super" p0) [] [] p1) "__init__" p2) (e :: es) [] p3) p4 :: rest) scope [("__class__", cc)] dV kV doc pm an (.ref cda) ct) (binds := ps.zip us)
    hr.depth (KX _ _ lk) rfl lim (PySem.W.codeRec_of KX hcd) rfl hb S.nocell (fun ⟨n, v⟩ hy => S.par n (List.of_mem_zip hy).1) (fun h₀ hns hk => ?_) S.co S.gen S.kind
  obtain ⟨ta, t, a, C, ws, hPA, hPS, rfl, ea, T, hq⟩ := hbody A outer s H vs Q E (hr.deeper _) hsp
  have I : Inv (cxSup CX P w K mg base N qual scope f (.ref cda) cc A outer s H E) [] (L2.start N (.ref a :: ws)) H { s with heap := h₀, toks := s.toks + (ps.zip us).length } := inv_sup S hr.hd e0 hl r hcc hns hk
  have ndP : ps.Nodup := by rw [← S.pre]; exact S.nd.sublist (List.take_sublist _ _)
  have hus : ∃ ur, us = .ref a :: ur := by
    cases r with
    | cons h _ => obtain rfl := (show _ = Value.ref a from h); exact ⟨_, rfl⟩
  obtain ⟨ur, rfl⟩ := hus
  have hself : (ps.zip (.ref a :: ur)).reverse.lookup ar.arg = some (.ref a) := zip_rev_get (i := 0) ndP har rfl
  obtain ⟨t1, ho⟩ := exo_at I.hok ea
  have K0 : K.In h₀ := I.kIn
  obtain ⟨oD, hD1, hD2⟩ : ∃ oD, h₀.get? D = some oD ∧ oD.data = .cls cdD := by
    unfold PySem.W.clsIn at hD
    split at hD
    · rename_i c d cd' sl ho
      cases hD
      exact ⟨_, K0 _ _ ho, rfl⟩
    · cases hD
  show PySem.wpAt (model P w) (A.deeper (envSup qual scope s.heap.objs.size f (.ref cda) cc)) (.func (.Expr (.Call (.Attribute (.Call (.Name "super" p0) [] [] p1) "__init__" p2) (e :: es) [] p3) p4 :: rest) (envSup qual scope s.heap.objs.size f (.ref cda) cc)) (execs (.Expr (.Call (.Attribute (.Call (.Name "super" p0) [] [] p1) "__init__" p2) (e :: es) [] p3) p4 :: rest) (envSup qual scope s.heap.objs.size f (.ref cda) cc)) _ _ _
  refine PySem.ks_wpAt_execs_cons (PySem.ks_wpAt_Expr_any (PySem.ks_wpAt_MethodCall ?_ (hev _)) I.quiet)
  refine PySem.ks_wpAt_super_base (f := f) (cc := cda) (ar := ar) (vs := fvs) (file := file) (tf := tf) (env := envSup qual scope s.heap.objs.size f (.ref cda) cc) S.sup S.cls (by decide) rfl (K0 _ _ lk) rfl hpar rfl (K0 _ _ hcode) rfl hvs hfile htop ?_
  obtain ⟨mb, hb1, hb2⟩ := I.mod.blt
  refine PySem.W.ks_loadName_global S.kind S.sup (Calls.loadGlobal_builtin (I.mod.glob.keeps I.bk) hsuper (hb1.keeps I.bk) ((hb2 _ (by decide)).trans (by first | rfl | kernel_rfl | decide +kernel)) ⟨rfl, ?_⟩)
  refine wpAny_loadName_free S.kind S.cls (c := cc) rfl ⟨_, K0 _ _ hcc, rfl⟩ ?_
  refine wpAny_loadName_local S.kind (S.par _ (List.mem_of_getElem? har)) hns hself ?_
  refine PySem.ks_wpAny_isType_cls hD1 hD2 ⟨rfl, ?_⟩
  refine PySem.ks_wpAny_call_super hD1 hD2 ho rfl (fun c z => by cases z) (PySem.W.looks_mroIn K0 T.up) (fun h' eso k => ?_)
  have I' := I.kept (t' := s.toks + (ps.zip (Value.ref a :: ur)).length) k
  have K' : K.In h' := I'.kIn
  have ho' := k _ _ ho
  obtain ⟨nm, q, N', bs, bm, sn, sub, ab, col, dd, k0, k1, k2, k3, k5, hC, hbm⟩ := T.ox.cls
  have hcl : PySem.W.clsIn K C = some { name := nm, bases := bs, mro := .ref C :: bm, ns := N', qualname := q, hasDict := true, slotNames := sn, subclasses := sub, abstract := ab, collection := col, hasDel := false } := by unfold PySem.W.clsIn; rw [hC] <;> rfl
  have hget := T.get
  unfold PySem.W.ks_superIn at hget
  rw [hcl, Option.bind_some] at hget
  have haC : a ≠ C := fun z => by
    have := (e0.bs _ _ (e0.mod.kin _ _ hC)).2
    rw [← z, ea] at this; cases this
  have IA : PySem.W.InstAt h' a { cls := .ref C, dict := none, data := .fields #[.ref t1, .none, .none, .none, .bool false, .none] } C none := ⟨ho', rfl, rfl, trivial⟩
  refine PySem.W.kxs_getMethod PySem.W.kxs_ValueError eso (PySem.W.looks_opaque K' T.tp) ((PySem.W.looks_clsIn K' hcl).andThen .now) rfl K' hget (IA.type.andThen (PySem.W.looks_subIn K' T.ve)) haC (by decide) ?_
  have I2 := I'.kept (t' := s.toks + (ps.zip (Value.ref a :: ur)).length + 1) (h' := h'.push (PySem.W.kxs_mw "ValueError.__init__" a)) (fun b o e => Heap.get?_push_of_some _ e)
  have I3 : Inv (cxSup CX P w K mg base N qual scope f (.ref cda) cc A outer s H E) [(h'.objs.size, PySem.W.kxs_mw "ValueError.__init__" a)] (L2.start N (.ref a :: ws)) H { s with heap := h'.push (PySem.W.kxs_mw "ValueError.__init__" a), toks := s.toks + (ps.zip (Value.ref a :: ur)).length + 1 } :=
    I2.pins_of fun p hp => by
      rw [List.mem_singleton.mp hp]
      exact ⟨Heap.get?_push_at rfl rfl, I'.hok.fresh (Nat.le_refl _), Nat.ne_of_gt I'.lt, I'.nofs (Nat.le_refl _), fun v z => by cases z⟩
  have hX := he (cxSup CX P w K mg base N qual scope f (.ref cda) cc A outer s H E)
  have hpl2 := hpl (cxSup CX P w K mg base N qual scope f (.ref cda) cc A outer s H E)
  have hrun := hPA.run p3 _ _ _ _ _ I3 hq
  show wpAny _ _ (callWith p3 (Value.ref h'.objs.size) [] (backTo p3 (starEach (e :: es) (cxSup CX P w K mg base N qual scope f (.ref cda) cc A outer s H E).env)) []) _ _ _
  rw [hX] at hrun ⊢
  refine PySem.W.kxs_callWith (i := "ValueError.__init__") (x := a) (by show (false || (backTo p3 (starEach es _)).any (·.1)) = false; rw [hpl2]; rfl) (Calls.evalArgs_plain (wpAny_mono hrun (fun ws' s1 hh => ?_) fun _ _ z => z))
  obtain ⟨vs1, H1, I4, r1, hl1, e1, ht⟩ := hh
  refine ⟨(I4.pin _ (List.mem_append_right _ (List.mem_singleton.mpr rfl))).1, ?_⟩
  refine sup_call T.ox I4 e1 (I4.pin _ (List.mem_append_right _ (List.mem_singleton.mpr rfl))).1 (by rw [List.nil_append, ← Paired.length r1, sizeLine_eq]; omega) (fun s2 J => ?_)
  refine wpAt_of_wpAny ?_
  refine wpAny_mono (hPS.run _ s2 _ H1 _ J ht) (fun fl s' hs => ?_) fun e s' hs => hs
  have fin : ∀ {σ' : L2.St} {H' : Hp} {v : V} {u : Value}, Inv (cxSup CX P w K mg base N qual scope f (.ref cda) cc A outer s H E) [(h'.objs.size, PySem.W.kxs_mw "ValueError.__init__" a)] σ' H' s' → RelV v u → Q v H' → CE outer P w H s Q u s' :=
    fun {σ' H' v u} J rv q => ⟨v, H', J.os, J.bare, J.base, J.hok, rv, q⟩
  cases fl with
  | ret u =>
    obtain ⟨v, σ', H', J, rv, q⟩ := hs
    exact fin J rv q
  | next =>
    obtain ⟨σ', H', J, q⟩ := hs
    exact fin (v := V.non) (u := Value.none) J rfl q
  | brk =>
    obtain ⟨_, _, _, q⟩ := hs
    exact False.elim q
  | cont =>
    obtain ⟨_, _, _, q⟩ := hs
    exact False.elim q
/-- what the program says of its own file, and of the name super -/
structure Prg (P : Program) : Prop where
  file : ((P.main.file : Str) == ("/claim/cut.py" : Str)) = true
  top : (P.main.scope.names.lookup ("super" : Str)).isSome = false
/-- such a def of the text as it stands behind the top -/
structure FunSup (K : PySem.W.Frag) (x qual : Str) (st : Stmt) (f : Addr) (fd : FuncData) (D : Addr) : Prop where
  ex : ∃ (oc : Value) (od : Option Addr) (kV doc pm : Value) (an : Option Addr) (cda : Addr) (ct : Value) (osl : Array (Option Value)) (cc : Addr) (cl ccl : Value) (cld cdd : Option Addr) (csl ccs : Array (Option Value)) (fvs : Array Value) (tf : Tok) (cdD : ClassData),
    fd = PySem.W.fnX x qual (defArgs st) (defBody st) (defScope st) [("__class__", cc)] .none kV doc pm an (.ref cda) ct ∧ K.lookup f = some ⟨oc, od, .func fd, osl⟩ ∧ PySem.W.codeIn K (.ref cda) qual = true ∧ K.lookup cda = some ⟨ccl, cdd, .fields fvs, ccs⟩ ∧
    fvs[2]? = some (.str "/claim/cut.py" tf) ∧ K.lookup cc = some ⟨cl, cld, .cell (some (.ref D)), csl⟩ ∧ PySem.W.clsIn K D = some cdD
theorem FunSup.ok {CX : CXT} {P : Program} {w : World} {K : PySem.W.Frag} {mg : Str → Option Value} {base : Heap} {x qual : Str} {st : Stmt} {f D : Addr} {fd : FuncData} {N ps : List Str} {k : Nat} {sp : Sp} {ar : Arg} {e : Expr} {es : List Expr} {p0 p1 p2 p3 p4 : Pos} {rest : List Stmt}
    (F : FunSup K x qual st f fd D) (hP : Prg P) (S : SupScope N ps (defScope st)) (len : ∀ vs H Q E, sp vs H Q E → vs.length = ps.length)
    (hst : defBody st = .Expr (.Call (.Attribute (.Call (.Name "super" p0) [] [] p1) "__init__" p2) (e :: es) [] p3) p4 :: rest) (hpar : ((defArgs st).posonlyargs ++ (defArgs st).args).head? = some ar) (har : ps[0]? = some ar.arg) (hsuper : mg "super" = none)
    {pl : Addr → Addr → Addr → Sem Bool} (hev : ∀ cc cda L : Addr, eval (.Call (.Attribute (.Call (.Name "super" p0) [] [] p1) "__init__" p2) (e :: es) [] p3) (envSup qual (defScope st) L f (.ref cda) cc) = (do
      let ov ← attributeBase (.Call (.Name "super" p0) [] [] p1) "__init__" (envSup qual (defScope st) L f (.ref cda) cc) (eval (.Call (.Name "super" p0) [] [] p1) (envSup qual (defScope st) L f (.ref cda) cc))
      standAt p2.atName
      let (fx, first) ← holding [ov] (getMethod ov "__init__" (pl cc cda L))
      callWith p3 fx first (backTo p3 (starEach (e :: es) (envSup qual (defScope st) L f (.ref cda) cc))) []))
    (he : ∀ X : Cx, starEach (e :: es) X.env = (false, eval e X.env) :: starEach es X.env) (hpl : ∀ X : Cx, (backTo p3 (starEach es X.env)).any (·.1) = false)
    (hbody : ∀ (cc cda : Addr) (A : Around) (outer : List Env) (s : Shared) (H : Hp) (vs : List V) (Q : VK) (E : XK), Room k (A.deeper (envSup qual (defScope st) s.heap.objs.size f (.ref cda) cc)) → sp vs H Q E →
      ∃ (ta : TA) (t : TS) (a C : Addr) (ws : List V), PA (cxSup CX P w K mg base N qual (defScope st) f (.ref cda) cc A outer s H E) (e :: es) ta ∧ PSs (cxSup CX P w K mg base N qual (defScope st) f (.ref cda) cc A outer s H E) rest t ∧ vs = .ref a :: ws ∧ H a = some (exo a C none) ∧ SupC K C D ∧
        ta (L2.start N vs) H fun us H1 => us.length ≤ 1000 ∧ H1 a = some (exo a C none) ∧ t { nx := fun _ H' => Q .non H', rt := Q } (L2.start N vs) H1) :
    FnOk P w K mg base CX (k + 1) f fd ps sp := by
  obtain ⟨oc, od, kV, doc, pm, an, cda, ct, osl, cc, cl, ccl, cld, cdd, csl, ccs, fvs, tf, cdD, rfl, lk, hcd, hcode, hvs, hcc, hD⟩ := F.ex
  rw [hst] at lk ⊢
  exact fn_sup lk hcd S len hpar har hcode hvs hP.file hcc hD hsuper hP.top (pl cc cda) (hev cc cda) he hpl (fun A outer s H vs Q E => hbody cc cda A outer s H vs Q E)
end
section
/-! ### an own exception that was made with its own __init__, as a value (our own rules) -/
open PySem PySem.Spec PyProof.Rows
/-- its object and its dict -/
structure ExV (H : Hp) (a C dx : Addr) (fs : List (Str × V)) : Prop where
  ob : H a = some (exo a C (some dx))
  di : H dx = some (exd dx fs)
theorem ExV.to {H H' : Hp} {a C dx : Addr} {fs : List (Str × V)} (h : ExV H a C dx fs) (s : Same H H') : ExV H' a C dx fs := ⟨s _ _ h.ob, s _ _ h.di⟩
theorem exv_inst {X : Cx} {pins : List (Addr × Obj)} {σ : L2.St} {H : Hp} {s : Shared} {a C dx : Addr} {fs : List (Str × V)} (I : Inv X pins σ H s) (h : ExV H a C dx fs) :
    ∃ (ox od : Obj) (mA : Str → Option Value), PySem.W.InstAt s.heap a ox C (some od) ∧ (∀ f, RelO (fs.lookup f) (mA f)) ∧ ∀ n, PySem.W.lookIn n od = some (mA n) := by
  obtain ⟨t1, ho⟩ := exo_at I.hok h.ob
  obtain ⟨mA, hns, hr⟩ := exd_at I.hok h.di
  obtain ⟨od, hod, hl⟩ := lookIn_ns hns
  exact ⟨_, od, mA, ⟨ho, rfl, rfl, hod⟩, hr, hl⟩
/-- isinstance(x, c) of such an exception -/
def rIsExo (K : PySem.W.Frag) : List V → Hp → VK → Prop := fun xs H Q => ∃ (a C dx : Addr) (fs : List (Str × V)) (c : V) (cv : Value) (b : Bool), xs = [.ref a, c] ∧ ExV H a C dx fs ∧ ExcC K C ∧ (∀ u, RelV c u → u = cv) ∧ PySem.W.kitOne K (.ref C) cv = some b ∧ Q (.bl b) H
theorem call_isExo {X : Cx} : CallR X (.builtin "isinstance") (rIsExo X.K) := by
  intro pins s σ H xs us Q I r h
  obtain ⟨a, C, dx, fs, c, cv, b, rfl, ev, T, hcv, e, q⟩ := h
  cases r with
  | cons rx rr =>
    cases rr with
    | cons rt rr =>
      cases rr
      cases rx
      have ec := hcv _ rt
      subst ec
      obtain ⟨ox, od, mA, J, _, _⟩ := exv_inst I ev
      have hcl : (PySem.W.clsIn X.K C).isSome = true := by
        have := T.hd
        unfold PySem.W.hasDictIn at this
        cases z : PySem.W.clsIn X.K C with
        | none => rw [z] at this; cases this
        | some cd => rfl
      exact PySem.W.kia_one (PySem.W.kitx_exc hcl T.hg T.hk T.hs T.ha T.hn T.ht T.hm) I.kIn J e (fun z => nomatch z) fun tk => ⟨.bl b, H, I.kept (t' := tk) fun _ _ z => z, rfl, q⟩
/-- e.f of such an exception -/
def tExf (K : PySem.W.Frag) (n : Str) (te : TE) : TE := fun σ H Q => te σ H fun x H1 => ∃ (a C dx : Addr) (fs : List (Str × V)) (v : V), x = .ref a ∧ ExV H1 a C dx fs ∧ XfC K C ∧ PySem.W.findIn K (.ref C) n = some none ∧ fs.lookup n = some v ∧ Q v H1
theorem pe_exf {X : Cx} {e : Expr} {te : TE} {pos : Pos} {n : Str} (he : PE X e te) (hb : attributeBase e n X.env (eval e X.env) = eval e X.env := by rfl) : PE X (.Attribute e n pos) (tExf X.K n te) := by
  refine ⟨fun pins s σ H Q I h => ?_⟩
  refine attr_of hb (thn (he.run pins s σ H _ I h) fun u s1 hh => ?_)
  obtain ⟨x, H1, I1, rx, a, C, dx, fs, v, ex, ev, T, hno, l, q⟩ := hh
  subst ex
  obtain rfl : u = Value.ref a := rx
  obtain ⟨ox, od, mA, J, hr, hl⟩ := exv_inst I1 ev
  obtain ⟨u, hu, ru⟩ := RelO.some_of (v := v) (o := mA n) (by rw [← l]; exact hr n)
  exact HandSPX.exc_get I1.kIn J T.ga T.gg T.exC (PySem.W.findObj_own T.hdC hno rfl (by rw [hl, hu])) (handed_of ru) ⟨v, H1, I1.tok _, ru, q⟩
/-- C(e, ..) as a value, C's own __init__ keeping sp -/
def tMkV (C : Addr) (sp : Sp) (dvs : List V) (ta : TA) : TE := fun σ H Q => ta σ H fun vs H1 => vs.length ≤ 1000 ∧ ∀ a, H1 a = none → sp (.ref a :: (vs ++ dvs)) (upd H1 a (exo a C none)) (fun v H2 => v = .non ∧ Q (.ref a) H2) (fun _ _ _ => False)
theorem pe_mkv {X : Cx} {e : Expr} {es : List Expr} {ta : TA} {p pos : Pos} {CX : CXT} {x : Str} {C fI : Addr} {k : Nat} {fd : FuncData} {ps : List Str} {sp : Sp} {ds : List Value} {dvs : List V} (T : OexC X.K C) (iC : PySem.W.findIn X.K (.ref C) "__init__" = some (some (.ref fI))) (tI : PySem.W.typeIn X.K (.ref fI) = some (.type "function"))
    (F1 : FnOk X.prog X.w X.K X.mg X.base CX k fI fd ps sp) (hr : Room (k + 1) X.A) (hb : Binds X.K fd ps ds) (hd : Vals dvs ds) (hx : Passes CX X (fun _ _ _ => False)) (hg : Gl X x) (hm : X.mg x = some (.ref C)) (ha : PA X (e :: es) ta)
    (hdb : (x == ("__debug__" : Str)) = false := by decide) (he : starEach (e :: es) X.env = (false, eval e X.env) :: starEach es X.env := by rfl) (hpl : (backTo pos (starEach es X.env)).any (·.1) = false := by rfl) :
    PE X (.Call (.Name x p) (e :: es) [] pos) (tMkV C sp dvs ta) := by
  refine ⟨fun pins s σ H Q I h => ?_⟩
  obtain ⟨nm, q, N, bs, bm, sn, sub, ab, col, dd, k0, k1, k2, k3, k5, hC, hbm⟩ := T.cls
  refine wpAny_Call_Name_kw (ld_glob I hg hm ?_ hdb)
  refine PySem.W.callWith_K (h₀ := X.base) I.ok.mod.kin T.kC (thn (ha.run pos pins s σ H _ I h) fun us s1 ⟨vs, H1, I1, r1, hz, q1⟩ => ⟨I1.kIn, ?_⟩) he hpl
  show wpAny _ _ (call (.ref C) us) _ _ _
  obtain ⟨hp, g, dr, tk, os⟩ := s1
  have hsz : hp.objs.size ≤ hp.objs.size + 1 := Nat.le_succ _
  have hn : H1 (hp.objs.size + 1) = none := I1.hok.fresh hsz
  have hq := q1 (hp.objs.size + 1) hn
  have kk : ∀ b o, hp.get? b = some o → ((hp.push (PySem.W.kdv_tup us)).push (PySem.HandSPX.excO C hp.objs.size)).get? b = some o := fun b o e => Heap.get?_push_of_some _ (Heap.get?_push_of_some _ e)
  have hget : ((hp.push (PySem.W.kdv_tup us)).push (PySem.HandSPX.excO C hp.objs.size)).get? (hp.objs.size + 1) = some (PySem.HandSPX.excO C hp.objs.size) := by heap_get
  have I2 : Inv X pins σ (upd H1 (hp.objs.size + 1) (exo (hp.objs.size + 1) C none)) ⟨(hp.push (PySem.W.kdv_tup us)).push (PySem.HandSPX.excO C hp.objs.size), g, dr, tk, os⟩ :=
    I1.laid (t' := tk) (a := hp.objs.size + 1) (o := exo (hp.objs.size + 1) C none) (h' := (hp.push (PySem.W.kdv_tup us)).push (PySem.HandSPX.excO C hp.objs.size)) kk hsz (exo_ok hget)
  have r2 : Vals (V.ref (hp.objs.size + 1) :: (vs ++ dvs)) (Value.ref (hp.objs.size + 1) :: (us ++ ds)) := .cons rfl (r1.append hd)
  have hl : (Value.ref (hp.objs.size + 1) :: us ++ ds).length = ps.length := by
    have e := r2.length
    rw [F1.len _ _ _ _ hq] at e
    exact e.symm
  have hus : us.length ≤ sizeLine := by
    rw [← Paired.length r1, sizeLine_eq]
    omega
  refine wpAny_call (PySem.HandSPX.call_own F.excBase_ValueError (fun Y => PySem.HandSPX.refsVE_contains Y bm hbm) (I1.kIn _ _ hC) (PySem.W.looks_findIn I1.kIn iC) (fun self => PySem.W.bind_fn I1.kIn self tI) hus
    (codeAny_mono (F1.run _ X.stack _ _ ⟨Value.ref (hp.objs.size + 1) :: us, []⟩ (Value.ref (hp.objs.size + 1) :: (us ++ ds)) _ _ (fun _ _ _ => False) (hr.make C us []) (I2.env0.make C us []) (hb _ (Value.ref (hp.objs.size + 1) :: us) I2.kIn hl) r2 hq) fun r s' hq' => ?_))
  cases r with
  | error er => exact hx pins σ _ _ er s' I2 hq'
  | ok fl =>
    cases fl with
    | ret u =>
      obtain ⟨v, H2, J, rv, ev, q2⟩ := I2.after hq'
      subst ev
      exact ⟨rv, V.ref (hp.objs.size + 1), H2, J, rfl, q2⟩
    | next => exact False.elim hq'
    | brk => exact False.elim hq'
    | cont => exact False.elim hq'
end
def topS (i : Nat) : Stmt := PySem.Challenge.pw_sillwatch_k61_sources.main.body.getD i (.Pass ⟨0, 0, 0, 0⟩)
abbrev s__check_new : Stmt := topS 20
abbrev s_is_integer : Stmt := topS 44
abbrev s_is_text : Stmt := topS 45
abbrev s_number_octets : Stmt := topS 46
abbrev s_field_octets : Stmt := topS 47
abbrev s__is_code : Stmt := topS 48
abbrev s__is_of : Stmt := topS 49
abbrev s__are_octets : Stmt := topS 50
abbrev s__is_bound : Stmt := topS 51
abbrev s__text_octets : Stmt := topS 52
abbrev s__padded : Stmt := topS 53
abbrev s_encode_message : Stmt := topS 59
abbrev s_event_octets : Stmt := topS 62
abbrev s__opcode_of : Stmt := topS 63
abbrev s__law_cell : Stmt := topS 69
abbrev s__law_row : Stmt := topS 70
abbrev s__law_serve : Stmt := topS 71
abbrev s__law_kind : Stmt := topS 72
abbrev s__law_octets : Stmt := topS 73
abbrev s__law_total : Stmt := topS 74
abbrev s__law_write : Stmt := topS 75
abbrev s__law_goods : Stmt := topS 76
abbrev s__law_give : Stmt := topS 77
abbrev s_law : Stmt := topS 78
abbrev s_Fault___init__ : Stmt := inClass (topS 5) 0
abbrev s_Captures___init__ : Stmt := inClass (topS 11) 0
abbrev s_Captures_make : Stmt := inClass (topS 11) 1
abbrev s_Captures_read : Stmt := inClass (topS 11) 3
abbrev s_Captures_forget : Stmt := inClass (topS 11) 4
abbrev s_Fetch___init__ : Stmt := inClass (topS 17) 0
abbrev s_Watch___init__ : Stmt := inClass (topS 18) 0
abbrev s_Fetches___init__ : Stmt := inClass (topS 19) 0
abbrev s_Fetches_make_fetch : Stmt := inClass (topS 19) 1
abbrev s_Fetches_make_watch : Stmt := inClass (topS 19) 2
abbrev s_Fetches_read : Stmt := inClass (topS 19) 6
abbrev s_Fetches_forget : Stmt := inClass (topS 19) 7
abbrev s_Offers___init__ : Stmt := inClass (topS 23) 0
abbrev s_Offers_forget : Stmt := inClass (topS 23) 3
abbrev s_Offers_read : Stmt := inClass (topS 23) 5
abbrev s_Source___init__ : Stmt := inClass (topS 29) 0
abbrev s_Sources___init__ : Stmt := inClass (topS 30) 0
abbrev s_Sources_make : Stmt := inClass (topS 30) 1
abbrev s_Sources_write : Stmt := inClass (topS 30) 2
abbrev s_Sources_is_used : Stmt := inClass (topS 30) 3
abbrev s_Sources_use_up : Stmt := inClass (topS 30) 4
abbrev s_Sources_forget : Stmt := inClass (topS 30) 5
abbrev s_Sources__fresh : Stmt := inClass (topS 30) 6
abbrev s_Holdings___init__ : Stmt := inClass (topS 34) 0
abbrev s_Holdings_serve : Stmt := inClass (topS 34) 1
abbrev s_Holdings_ended : Stmt := inClass (topS 34) 3
abbrev s_Holdings__serve_transfer : Stmt := inClass (topS 34) 14
abbrev s_Holdings__give : Stmt := inClass (topS 34) 15
abbrev s_Holdings__send : Stmt := inClass (topS 34) 16
abbrev s_Holdings__unsend : Stmt := inClass (topS 34) 17
abbrev s_Reply___init__ : Stmt := inClass (topS 65) 0
abbrev s_Reply_tell : Stmt := inClass (topS 65) 1
abbrev s_Reply_wish : Stmt := inClass (topS 65) 3
abbrev s_Request___init__ : Stmt := inClass (topS 67) 0
structure Adr where
  f_check_new : Addr
  d_check_new : FuncData
  fis_integer : Addr
  dis_integer : FuncData
  fis_text : Addr
  dis_text : FuncData
  fnumber_octets : Addr
  dnumber_octets : FuncData
  ffield_octets : Addr
  dfield_octets : FuncData
  f_is_code : Addr
  d_is_code : FuncData
  f_is_of : Addr
  d_is_of : FuncData
  f_are_octets : Addr
  d_are_octets : FuncData
  f_is_bound : Addr
  d_is_bound : FuncData
  f_text_octets : Addr
  d_text_octets : FuncData
  f_padded : Addr
  d_padded : FuncData
  fencode_message : Addr
  dencode_message : FuncData
  fevent_octets : Addr
  devent_octets : FuncData
  f_opcode_of : Addr
  d_opcode_of : FuncData
  f_law_cell : Addr
  d_law_cell : FuncData
  f_law_row : Addr
  d_law_row : FuncData
  f_law_serve : Addr
  d_law_serve : FuncData
  f_law_kind : Addr
  d_law_kind : FuncData
  f_law_octets : Addr
  d_law_octets : FuncData
  f_law_total : Addr
  d_law_total : FuncData
  f_law_write : Addr
  d_law_write : FuncData
  f_law_goods : Addr
  d_law_goods : FuncData
  f_law_give : Addr
  d_law_give : FuncData
  flaw : Addr
  dlaw : FuncData
  fFault___init__ : Addr
  dFault___init__ : FuncData
  fCaptures___init__ : Addr
  dCaptures___init__ : FuncData
  fCaptures_make : Addr
  dCaptures_make : FuncData
  fCaptures_read : Addr
  dCaptures_read : FuncData
  fCaptures_forget : Addr
  dCaptures_forget : FuncData
  fFetch___init__ : Addr
  dFetch___init__ : FuncData
  fWatch___init__ : Addr
  dWatch___init__ : FuncData
  fFetches___init__ : Addr
  dFetches___init__ : FuncData
  fFetches_make_fetch : Addr
  dFetches_make_fetch : FuncData
  fFetches_make_watch : Addr
  dFetches_make_watch : FuncData
  fFetches_read : Addr
  dFetches_read : FuncData
  fFetches_forget : Addr
  dFetches_forget : FuncData
  fOffers___init__ : Addr
  dOffers___init__ : FuncData
  fOffers_forget : Addr
  dOffers_forget : FuncData
  fOffers_read : Addr
  dOffers_read : FuncData
  fSource___init__ : Addr
  dSource___init__ : FuncData
  fSources___init__ : Addr
  dSources___init__ : FuncData
  fSources_make : Addr
  dSources_make : FuncData
  fSources_write : Addr
  dSources_write : FuncData
  fSources_is_used : Addr
  dSources_is_used : FuncData
  fSources_use_up : Addr
  dSources_use_up : FuncData
  fSources_forget : Addr
  dSources_forget : FuncData
  fSources__fresh : Addr
  dSources__fresh : FuncData
  fHoldings___init__ : Addr
  dHoldings___init__ : FuncData
  fHoldings_serve : Addr
  dHoldings_serve : FuncData
  fHoldings_ended : Addr
  dHoldings_ended : FuncData
  fHoldings__serve_transfer : Addr
  dHoldings__serve_transfer : FuncData
  fHoldings__give : Addr
  dHoldings__give : FuncData
  fHoldings__send : Addr
  dHoldings__send : FuncData
  fHoldings__unsend : Addr
  dHoldings__unsend : FuncData
  fReply___init__ : Addr
  dReply___init__ : FuncData
  fReply_tell : Addr
  dReply_tell : FuncData
  fReply_wish : Addr
  dReply_wish : FuncData
  fRequest___init__ : Addr
  dRequest___init__ : FuncData
  tLONGEST_SIDE : Tok
  tMOST_PIXELS : Tok
  tMOST_CAPTURES : Tok
  tMOST_READ_captures : Tok
  tLONGEST_TEXT_fetches : Tok
  tMOST_FETCHES : Tok
  tMOST_WATCHES : Tok
  tMOST_READ_fetches : Tok
  tMOST_READ_offers : Tok
  tMOST_SOURCES : Tok
  tMOST_KINDS : Tok
  tMOST_OCTETS_sources : Tok
  tLONGEST_TEXT_sources : Tok
  tMOST_SENT_OCTETS : Tok
  tMOST_SENT_NAMES : Tok
  tGREATEST_NUMBER : Tok
  tLEAST_INT : Tok
  tGREATEST_INT : Tok
  tLONGEST_TEXT_fields : Tok
  tMOST_OCTETS_fields : Tok
  t_FIRST_CODE : Tok
  t_LAST_CODE : Tok
  t_PERCENT_CODE : Tok
  tHEADER_SIZE : Tok
  tGREATEST_SIZE : Tok
  tGREATEST_OPCODE : Tok
  tMOST_ARGUMENTS : Tok
  a_EVENTS : Addr
  CCaptures : Addr
  CFetch : Addr
  CWatch : Addr
  CFetches : Addr
  COffers : Addr
  CSource : Addr
  CSources : Addr
  CHoldings : Addr
  CReply : Addr
  CRequest : Addr
  CBadMessage : Addr
  CMessageTooLong : Addr
  CFault : Addr
structure Txt0 (P : Program) (K : PySem.W.Frag) (mg : Str → Option Value) (A : Adr) : Prop where
  prg : Prg P
  F_check_new : Fun K "_check_new" "_check_new" s__check_new A.f_check_new A.d_check_new
  b_check_new : Binds K A.d_check_new ["request", "present", "most"] []
  g_check_new : mg "_check_new" = some (.ref A.f_check_new)
  k_check_new : PySem.W.keepIn K (.ref A.f_check_new) = true
  Fis_integer : Fun K "is_integer" "is_integer" s_is_integer A.fis_integer A.dis_integer
  bis_integer : Binds K A.dis_integer ["value", "least", "greatest"] []
  gis_integer : mg "is_integer" = some (.ref A.fis_integer)
  kis_integer : PySem.W.keepIn K (.ref A.fis_integer) = true
  Fis_text : Fun K "is_text" "is_text" s_is_text A.fis_text A.dis_text
  bis_text : Binds K A.dis_text ["value"] []
  gis_text : mg "is_text" = some (.ref A.fis_text)
  kis_text : PySem.W.keepIn K (.ref A.fis_text) = true
  Fnumber_octets : Fun K "number_octets" "number_octets" s_number_octets A.fnumber_octets A.dnumber_octets
  bnumber_octets : Binds K A.dnumber_octets ["number", "count"] []
  gnumber_octets : mg "number_octets" = some (.ref A.fnumber_octets)
  knumber_octets : PySem.W.keepIn K (.ref A.fnumber_octets) = true
  Ffield_octets : Fun K "field_octets" "field_octets" s_field_octets A.ffield_octets A.dfield_octets
  bfield_octets : Binds K A.dfield_octets ["kind", "value"] []
  gfield_octets : mg "field_octets" = some (.ref A.ffield_octets)
  kfield_octets : PySem.W.keepIn K (.ref A.ffield_octets) = true
  F_is_code : Fun K "_is_code" "_is_code" s__is_code A.f_is_code A.d_is_code
  b_is_code : Binds K A.d_is_code ["code"] []
  g_is_code : mg "_is_code" = some (.ref A.f_is_code)
  k_is_code : PySem.W.keepIn K (.ref A.f_is_code) = true
  F_is_of : Fun K "_is_of" "_is_of" s__is_of A.f_is_of A.d_is_of
  b_is_of : Binds K A.d_is_of ["kind", "value"] []
  g_is_of : mg "_is_of" = some (.ref A.f_is_of)
  k_is_of : PySem.W.keepIn K (.ref A.f_is_of) = true
  F_are_octets : Fun K "_are_octets" "_are_octets" s__are_octets A.f_are_octets A.d_are_octets
  b_are_octets : Binds K A.d_are_octets ["value"] []
  g_are_octets : mg "_are_octets" = some (.ref A.f_are_octets)
  k_are_octets : PySem.W.keepIn K (.ref A.f_are_octets) = true
  F_is_bound : Fun K "_is_bound" "_is_bound" s__is_bound A.f_is_bound A.d_is_bound
  b_is_bound : Binds K A.d_is_bound ["value"] []
  g_is_bound : mg "_is_bound" = some (.ref A.f_is_bound)
  k_is_bound : PySem.W.keepIn K (.ref A.f_is_bound) = true
  F_text_octets : Fun K "_text_octets" "_text_octets" s__text_octets A.f_text_octets A.d_text_octets
  b_text_octets : Binds K A.d_text_octets ["text"] []
  g_text_octets : mg "_text_octets" = some (.ref A.f_text_octets)
  k_text_octets : PySem.W.keepIn K (.ref A.f_text_octets) = true
  F_padded : Fun K "_padded" "_padded" s__padded A.f_padded A.d_padded
  b_padded : Binds K A.d_padded ["octets"] []
  g_padded : mg "_padded" = some (.ref A.f_padded)
  k_padded : PySem.W.keepIn K (.ref A.f_padded) = true
  Fencode_message : Fun K "encode_message" "encode_message" s_encode_message A.fencode_message A.dencode_message
  bencode_message : Binds K A.dencode_message ["number", "opcode", "arguments"] []
  gencode_message : mg "encode_message" = some (.ref A.fencode_message)
  kencode_message : PySem.W.keepIn K (.ref A.fencode_message) = true
  Fevent_octets : Fun K "event_octets" "event_octets" s_event_octets A.fevent_octets A.devent_octets
  bevent_octets : Binds K A.devent_octets ["number", "interface", "name", "values"] []
  gevent_octets : mg "event_octets" = some (.ref A.fevent_octets)
  kevent_octets : PySem.W.keepIn K (.ref A.fevent_octets) = true
  F_opcode_of : Fun K "_opcode_of" "_opcode_of" s__opcode_of A.f_opcode_of A.d_opcode_of
  b_opcode_of : Binds K A.d_opcode_of ["rows", "name"] []
  g_opcode_of : mg "_opcode_of" = some (.ref A.f_opcode_of)
  k_opcode_of : PySem.W.keepIn K (.ref A.f_opcode_of) = true
  F_law_cell : Fun K "_law_cell" "_law_cell" s__law_cell A.f_law_cell A.d_law_cell
  b_law_cell : Binds K A.d_law_cell ["script", "k"] []
  g_law_cell : mg "_law_cell" = some (.ref A.f_law_cell)
  k_law_cell : PySem.W.keepIn K (.ref A.f_law_cell) = true
  F_law_row : Fun K "_law_row" "_law_row" s__law_row A.f_law_row A.d_law_row
  b_law_row : Binds K A.d_law_row ["script", "k"] []
  g_law_row : mg "_law_row" = some (.ref A.f_law_row)
  k_law_row : PySem.W.keepIn K (.ref A.f_law_row) = true
  F_law_serve : Fun K "_law_serve" "_law_serve" s__law_serve A.f_law_serve A.d_law_serve
  b_law_serve : Binds K A.d_law_serve ["holdings", "row", "grant", "gripped", "dragging"] []
  g_law_serve : mg "_law_serve" = some (.ref A.f_law_serve)
  k_law_serve : PySem.W.keepIn K (.ref A.f_law_serve) = true
  F_law_kind : Fun K "_law_kind" "_law_kind" s__law_kind A.f_law_kind A.d_law_kind
  b_law_kind : Binds K A.d_law_kind ["row"] []
  g_law_kind : mg "_law_kind" = some (.ref A.f_law_kind)
  k_law_kind : PySem.W.keepIn K (.ref A.f_law_kind) = true
  F_law_octets : Fun K "_law_octets" "_law_octets" s__law_octets A.f_law_octets A.d_law_octets
  b_law_octets : Binds K A.d_law_octets ["row"] []
  g_law_octets : mg "_law_octets" = some (.ref A.f_law_octets)
  k_law_octets : PySem.W.keepIn K (.ref A.f_law_octets) = true
  F_law_total : Fun K "_law_total" "_law_total" s__law_total A.f_law_total A.d_law_total
  b_law_total : Binds K A.d_law_total ["model"] []
  g_law_total : mg "_law_total" = some (.ref A.f_law_total)
  k_law_total : PySem.W.keepIn K (.ref A.f_law_total) = true
  F_law_write : Fun K "_law_write" "_law_write" s__law_write A.f_law_write A.d_law_write
  b_law_write : Binds K A.d_law_write ["model", "number", "kind", "octets"] []
  g_law_write : mg "_law_write" = some (.ref A.f_law_write)
  k_law_write : PySem.W.keepIn K (.ref A.f_law_write) = true
  F_law_goods : Fun K "_law_goods" "_law_goods" s__law_goods A.f_law_goods A.d_law_goods
  b_law_goods : Binds K A.d_law_goods ["model", "number"] []
  g_law_goods : mg "_law_goods" = some (.ref A.f_law_goods)
  k_law_goods : PySem.W.keepIn K (.ref A.f_law_goods) = true
  F_law_give : Fun K "_law_give" "_law_give" s__law_give A.f_law_give A.d_law_give
  b_law_give : Binds K A.d_law_give ["holdings", "model", "number"] []
  g_law_give : mg "_law_give" = some (.ref A.f_law_give)
  k_law_give : PySem.W.keepIn K (.ref A.f_law_give) = true
  Flaw : Fun K "law" "law" s_law A.flaw A.dlaw
  blaw : Binds K A.dlaw ["script"] []
  glaw : mg "law" = some (.ref A.flaw)
  klaw : PySem.W.keepIn K (.ref A.flaw) = true
  FFault___init__ : FunSup K "__init__" "Fault.__init__" s_Fault___init__ A.fFault___init__ A.dFault___init__ A.CFault
  bFault___init__ : Binds K A.dFault___init__ ["self", "number", "code", "words"] []
  MFault : PySem.W.findIn K (.ref A.CFault) "__init__" = some (some (.ref A.fFault___init__))
  TFault : PySem.W.typeIn K (.ref A.fFault___init__) = some (.type "function")
  FCaptures___init__ : Fun K "__init__" "Captures.__init__" s_Captures___init__ A.fCaptures___init__ A.dCaptures___init__
  bCaptures___init__ : Binds K A.dCaptures___init__ ["self"] []
  MCaptures : Mk K A.CCaptures A.fCaptures___init__
  FCaptures_make : Fun K "make" "Captures.make" s_Captures_make A.fCaptures_make A.dCaptures_make
  bCaptures_make : Binds K A.dCaptures_make ["self", "request"] []
  mCaptures_make : Meth K A.CCaptures "make" A.fCaptures_make
  FCaptures_read : Fun K "read" "Captures.read" s_Captures_read A.fCaptures_read A.dCaptures_read
  bCaptures_read : Binds K A.dCaptures_read ["self", "request", "reply"] []
  mCaptures_read : Meth K A.CCaptures "read" A.fCaptures_read
  FCaptures_forget : Fun K "forget" "Captures.forget" s_Captures_forget A.fCaptures_forget A.dCaptures_forget
  bCaptures_forget : Binds K A.dCaptures_forget ["self", "number"] []
  mCaptures_forget : Meth K A.CCaptures "forget" A.fCaptures_forget
  FFetch___init__ : Fun K "__init__" "Fetch.__init__" s_Fetch___init__ A.fFetch___init__ A.dFetch___init__
  bFetch___init__ : Binds K A.dFetch___init__ ["self", "name"] []
  MFetch : Mk K A.CFetch A.fFetch___init__
  FWatch___init__ : Fun K "__init__" "Watch.__init__" s_Watch___init__ A.fWatch___init__ A.dWatch___init__
  bWatch___init__ : Binds K A.dWatch___init__ ["self", "label"] []
  MWatch : Mk K A.CWatch A.fWatch___init__
  FFetches___init__ : Fun K "__init__" "Fetches.__init__" s_Fetches___init__ A.fFetches___init__ A.dFetches___init__
  bFetches___init__ : Binds K A.dFetches___init__ ["self"] []
  MFetches : Mk K A.CFetches A.fFetches___init__
  FFetches_make_fetch : Fun K "make_fetch" "Fetches.make_fetch" s_Fetches_make_fetch A.fFetches_make_fetch A.dFetches_make_fetch
  bFetches_make_fetch : Binds K A.dFetches_make_fetch ["self", "request"] []
  mFetches_make_fetch : Meth K A.CFetches "make_fetch" A.fFetches_make_fetch
  FFetches_make_watch : Fun K "make_watch" "Fetches.make_watch" s_Fetches_make_watch A.fFetches_make_watch A.dFetches_make_watch
  bFetches_make_watch : Binds K A.dFetches_make_watch ["self", "request"] []
  mFetches_make_watch : Meth K A.CFetches "make_watch" A.fFetches_make_watch
  FFetches_read : Fun K "read" "Fetches.read" s_Fetches_read A.fFetches_read A.dFetches_read
  bFetches_read : Binds K A.dFetches_read ["self", "request", "reply"] []
  mFetches_read : Meth K A.CFetches "read" A.fFetches_read
  FFetches_forget : Fun K "forget" "Fetches.forget" s_Fetches_forget A.fFetches_forget A.dFetches_forget
  bFetches_forget : Binds K A.dFetches_forget ["self", "number"] []
  mFetches_forget : Meth K A.CFetches "forget" A.fFetches_forget
  FOffers___init__ : Fun K "__init__" "Offers.__init__" s_Offers___init__ A.fOffers___init__ A.dOffers___init__
  bOffers___init__ : Binds K A.dOffers___init__ ["self"] []
  MOffers : Mk K A.COffers A.fOffers___init__
  FOffers_forget : Fun K "forget" "Offers.forget" s_Offers_forget A.fOffers_forget A.dOffers_forget
  bOffers_forget : Binds K A.dOffers_forget ["self", "number"] []
  mOffers_forget : Meth K A.COffers "forget" A.fOffers_forget
  FOffers_read : Fun K "read" "Offers.read" s_Offers_read A.fOffers_read A.dOffers_read
  bOffers_read : Binds K A.dOffers_read ["self", "request", "reply"] []
  mOffers_read : Meth K A.COffers "read" A.fOffers_read
  FSource___init__ : Fun K "__init__" "Source.__init__" s_Source___init__ A.fSource___init__ A.dSource___init__
  bSource___init__ : Binds K A.dSource___init__ ["self"] []
  MSource : Mk K A.CSource A.fSource___init__
  FSources___init__ : Fun K "__init__" "Sources.__init__" s_Sources___init__ A.fSources___init__ A.dSources___init__
  bSources___init__ : Binds K A.dSources___init__ ["self"] []
  MSources : Mk K A.CSources A.fSources___init__
  FSources_make : Fun K "make" "Sources.make" s_Sources_make A.fSources_make A.dSources_make
  bSources_make : Binds K A.dSources_make ["self", "request"] []
  mSources_make : Meth K A.CSources "make" A.fSources_make
  FSources_write : Fun K "write" "Sources.write" s_Sources_write A.fSources_write A.dSources_write
  bSources_write : Binds K A.dSources_write ["self", "request"] []
  mSources_write : Meth K A.CSources "write" A.fSources_write
  FSources_is_used : Fun K "is_used" "Sources.is_used" s_Sources_is_used A.fSources_is_used A.dSources_is_used
  bSources_is_used : Binds K A.dSources_is_used ["self", "number"] []
  mSources_is_used : Meth K A.CSources "is_used" A.fSources_is_used
  FSources_use_up : Fun K "use_up" "Sources.use_up" s_Sources_use_up A.fSources_use_up A.dSources_use_up
  bSources_use_up : Binds K A.dSources_use_up ["self", "number"] []
  mSources_use_up : Meth K A.CSources "use_up" A.fSources_use_up
  FSources_forget : Fun K "forget" "Sources.forget" s_Sources_forget A.fSources_forget A.dSources_forget
  bSources_forget : Binds K A.dSources_forget ["self", "number"] []
  mSources_forget : Meth K A.CSources "forget" A.fSources_forget
  FSources__fresh : Fun K "_fresh" "Sources._fresh" s_Sources__fresh A.fSources__fresh A.dSources__fresh
  bSources__fresh : Binds K A.dSources__fresh ["self"] []
  mSources__fresh : Meth K A.CSources "_fresh" A.fSources__fresh
  FHoldings___init__ : Fun K "__init__" "Holdings.__init__" s_Holdings___init__ A.fHoldings___init__ A.dHoldings___init__
  bHoldings___init__ : Binds K A.dHoldings___init__ ["self"] []
  MHoldings : Mk K A.CHoldings A.fHoldings___init__
  FHoldings_serve : Fun K "serve" "Holdings.serve" s_Holdings_serve A.fHoldings_serve A.dHoldings_serve
  bHoldings_serve : Binds K A.dHoldings_serve ["self", "request", "grant", "gripped", "dragging", "reply"] []
  mHoldings_serve : Meth K A.CHoldings "serve" A.fHoldings_serve
  FHoldings_ended : Fun K "ended" "Holdings.ended" s_Holdings_ended A.fHoldings_ended A.dHoldings_ended
  bHoldings_ended : Binds K A.dHoldings_ended ["self", "number"] []
  mHoldings_ended : Meth K A.CHoldings "ended" A.fHoldings_ended
  FHoldings__serve_transfer : Fun K "_serve_transfer" "Holdings._serve_transfer" s_Holdings__serve_transfer A.fHoldings__serve_transfer A.dHoldings__serve_transfer
  bHoldings__serve_transfer : Binds K A.dHoldings__serve_transfer ["self", "request", "grant", "may_drag", "reply"] []
  mHoldings__serve_transfer : Meth K A.CHoldings "_serve_transfer" A.fHoldings__serve_transfer
  FHoldings__give : Fun K "_give" "Holdings._give" s_Holdings__give A.fHoldings__give A.dHoldings__give
  bHoldings__give : Binds K A.dHoldings__give ["self", "request", "grant", "reply"] []
  mHoldings__give : Meth K A.CHoldings "_give" A.fHoldings__give
  FHoldings__send : Fun K "_send" "Holdings._send" s_Holdings__send A.fHoldings__send A.dHoldings__send
  bHoldings__send : Binds K A.dHoldings__send ["self", "request", "reply"] []
  mHoldings__send : Meth K A.CHoldings "_send" A.fHoldings__send
  FHoldings__unsend : Fun K "_unsend" "Holdings._unsend" s_Holdings__unsend A.fHoldings__unsend A.dHoldings__unsend
  bHoldings__unsend : Binds K A.dHoldings__unsend ["self", "request", "reply"] []
  mHoldings__unsend : Meth K A.CHoldings "_unsend" A.fHoldings__unsend
  FReply___init__ : Fun K "__init__" "Reply.__init__" s_Reply___init__ A.fReply___init__ A.dReply___init__
  bReply___init__ : Binds K A.dReply___init__ ["self"] []
  MReply : Mk K A.CReply A.fReply___init__
  FReply_tell : Fun K "tell" "Reply.tell" s_Reply_tell A.fReply_tell A.dReply_tell
  bReply_tell : Binds K A.dReply_tell ["self", "number", "interface", "name", "values"] []
  mReply_tell : Meth K A.CReply "tell" A.fReply_tell
  FReply_wish : Fun K "wish" "Reply.wish" s_Reply_wish A.fReply_wish A.dReply_wish
  bReply_wish : Binds K A.dReply_wish ["self", "deed"] []
  mReply_wish : Meth K A.CReply "wish" A.fReply_wish
  FRequest___init__ : Fun K "__init__" "Request.__init__" s_Request___init__ A.fRequest___init__ A.dRequest___init__
  bRequest___init__ : Binds K A.dRequest___init__ ["self", "number", "interface", "name", "arguments", "ends"] []
  MRequest : Mk K A.CRequest A.fRequest___init__
  all : mg "all" = none
  bool : mg "bool" = none
  int : mg "int" = none
  isinstance : mg "isinstance" = none
  len : mg "len" = none
  list : mg "list" = none
  max : mg "max" = none
  min : mg "min" = none
  ord : mg "ord" = none
  range : mg "range" = none
  str : mg "str" = none
  sum : mg "sum" = none
  super : mg "super" = none
  tuple : mg "tuple" = none
  zip : mg "zip" = none
  gLONGEST_SIDE : mg "LONGEST_SIDE" = some (.int (256) A.tLONGEST_SIDE)
  gMOST_PIXELS : mg "MOST_PIXELS" = some (.int (4096) A.tMOST_PIXELS)
  gMOST_CAPTURES : mg "MOST_CAPTURES" = some (.int (2) A.tMOST_CAPTURES)
  gMOST_READ_captures : mg "MOST_READ_captures" = some (.int (1024) A.tMOST_READ_captures)
  gLONGEST_TEXT_fetches : mg "LONGEST_TEXT_fetches" = some (.int (128) A.tLONGEST_TEXT_fetches)
  gMOST_FETCHES : mg "MOST_FETCHES" = some (.int (4) A.tMOST_FETCHES)
  gMOST_WATCHES : mg "MOST_WATCHES" = some (.int (8) A.tMOST_WATCHES)
  gMOST_READ_fetches : mg "MOST_READ_fetches" = some (.int (1024) A.tMOST_READ_fetches)
  gMOST_READ_offers : mg "MOST_READ_offers" = some (.int (1024) A.tMOST_READ_offers)
  gMOST_SOURCES : mg "MOST_SOURCES" = some (.int (8) A.tMOST_SOURCES)
  gMOST_KINDS : mg "MOST_KINDS" = some (.int (16) A.tMOST_KINDS)
  gMOST_OCTETS_sources : mg "MOST_OCTETS_sources" = some (.int (32768) A.tMOST_OCTETS_sources)
  gLONGEST_TEXT_sources : mg "LONGEST_TEXT_sources" = some (.int (128) A.tLONGEST_TEXT_sources)
  gMOST_SENT_OCTETS : mg "MOST_SENT_OCTETS" = some (.int (8192) A.tMOST_SENT_OCTETS)
  gMOST_SENT_NAMES : mg "MOST_SENT_NAMES" = some (.int (4) A.tMOST_SENT_NAMES)
  gGREATEST_NUMBER : mg "GREATEST_NUMBER" = some (.int (4294967295) A.tGREATEST_NUMBER)
  gLEAST_INT : mg "LEAST_INT" = some (.int (-2147483648) A.tLEAST_INT)
  gGREATEST_INT : mg "GREATEST_INT" = some (.int (2147483647) A.tGREATEST_INT)
  gLONGEST_TEXT_fields : mg "LONGEST_TEXT_fields" = some (.int (1000) A.tLONGEST_TEXT_fields)
  gMOST_OCTETS_fields : mg "MOST_OCTETS_fields" = some (.int (16384) A.tMOST_OCTETS_fields)
  g_FIRST_CODE : mg "_FIRST_CODE" = some (.int (32) A.t_FIRST_CODE)
  g_LAST_CODE : mg "_LAST_CODE" = some (.int (126) A.t_LAST_CODE)
  g_PERCENT_CODE : mg "_PERCENT_CODE" = some (.int (37) A.t_PERCENT_CODE)
  gHEADER_SIZE : mg "HEADER_SIZE" = some (.int (8) A.tHEADER_SIZE)
  gGREATEST_SIZE : mg "GREATEST_SIZE" = some (.int (20480) A.tGREATEST_SIZE)
  gGREATEST_OPCODE : mg "GREATEST_OPCODE" = some (.int (65535) A.tGREATEST_OPCODE)
  gMOST_ARGUMENTS : mg "MOST_ARGUMENTS" = some (.int (20) A.tMOST_ARGUMENTS)
  g_EVENTS : mg "_EVENTS" = some (.ref A.a_EVENTS)
  clCaptures : Cls K A.CCaptures
  gCaptures : mg "Captures" = some (.ref A.CCaptures)
  nCaptures__pictures : NoAttr K A.CCaptures "_pictures"
  clFetch : Cls K A.CFetch
  gFetch : mg "Fetch" = some (.ref A.CFetch)
  nFetch_name : NoAttr K A.CFetch "name"
  nFetch_octets : NoAttr K A.CFetch "octets"
  clWatch : Cls K A.CWatch
  gWatch : mg "Watch" = some (.ref A.CWatch)
  nWatch_label : NoAttr K A.CWatch "label"
  nWatch_told : NoAttr K A.CWatch "told"
  clFetches : Cls K A.CFetches
  gFetches : mg "Fetches" = some (.ref A.CFetches)
  nFetches__fetches : NoAttr K A.CFetches "_fetches"
  nFetches__watches : NoAttr K A.CFetches "_watches"
  clOffers : Cls K A.COffers
  gOffers : mg "Offers" = some (.ref A.COffers)
  nOffers__transfers : NoAttr K A.COffers "_transfers"
  nOffers__kept : NoAttr K A.COffers "_kept"
  nOffers__is_hovered : NoAttr K A.COffers "_is_hovered"
  clSource : Cls K A.CSource
  gSource : mg "Source" = some (.ref A.CSource)
  nSource_pieces : NoAttr K A.CSource "pieces"
  nSource_is_used : NoAttr K A.CSource "is_used"
  clSources : Cls K A.CSources
  gSources : mg "Sources" = some (.ref A.CSources)
  nSources__sources : NoAttr K A.CSources "_sources"
  clHoldings : Cls K A.CHoldings
  gHoldings : mg "Holdings" = some (.ref A.CHoldings)
  nHoldings__sources : NoAttr K A.CHoldings "_sources"
  nHoldings__offers : NoAttr K A.CHoldings "_offers"
  nHoldings__captures : NoAttr K A.CHoldings "_captures"
  nHoldings__fetches : NoAttr K A.CHoldings "_fetches"
  nHoldings__sent_names : NoAttr K A.CHoldings "_sent_names"
  clReply : Cls K A.CReply
  gReply : mg "Reply" = some (.ref A.CReply)
  nReply_told : NoAttr K A.CReply "told"
  nReply_ended : NoAttr K A.CReply "ended"
  nReply_wishes : NoAttr K A.CReply "wishes"
  nReply_applied : NoAttr K A.CReply "applied"
  clRequest : Cls K A.CRequest
  gRequest : mg "Request" = some (.ref A.CRequest)
  nRequest_number : NoAttr K A.CRequest "number"
  nRequest_interface : NoAttr K A.CRequest "interface"
  nRequest_name : NoAttr K A.CRequest "name"
  nRequest_arguments : NoAttr K A.CRequest "arguments"
  nRequest_ends : NoAttr K A.CRequest "ends"
  gBadMessage : mg "BadMessage" = some (.ref A.CBadMessage)
  xBadMessage : PySem.W.excIn K A.CBadMessage [.type "ValueError", .type "Exception", .type "BaseException", .type "object"] "ValueError.__new__" = true
  kBadMessage : PySem.W.keepIn K (.ref A.CBadMessage) = true
  bxBadMessage : PySem.W.subIn K (.ref A.CBadMessage) (.type "BaseException") = some true
  txBadMessage : PySem.W.typeIn K (.ref A.CBadMessage) = some (.type "type")
  exBadMessage : PySem.W.exmOne K (.ref A.CBadMessage) (.ref A.CBadMessage) = some true
  gMessageTooLong : mg "MessageTooLong" = some (.ref A.CMessageTooLong)
  xMessageTooLong : PySem.W.excIn K A.CMessageTooLong [.type "ValueError", .type "Exception", .type "BaseException", .type "object"] "ValueError.__new__" = true
  kMessageTooLong : PySem.W.keepIn K (.ref A.CMessageTooLong) = true
  bxMessageTooLong : PySem.W.subIn K (.ref A.CMessageTooLong) (.type "BaseException") = some true
  txMessageTooLong : PySem.W.typeIn K (.ref A.CMessageTooLong) = some (.type "type")
  exMessageTooLong : PySem.W.exmOne K (.ref A.CMessageTooLong) (.ref A.CMessageTooLong) = some true
  gFault : mg "Fault" = some (.ref A.CFault)
  oFault : OexC K A.CFault
  vFault : SupC K A.CFault A.CFault
  xfFault : XfC K A.CFault
  iXFault : ExcC K A.CFault
  kFault : PySem.W.keepIn K (.ref A.CFault) = true
  nFault_number : PySem.W.findIn K (.ref A.CFault) "number" = some none
  nFault_code : PySem.W.findIn K (.ref A.CFault) "code" = some none
  nFault_words : PySem.W.findIn K (.ref A.CFault) "words" = some none
  bxFault : PySem.W.subIn K (.ref A.CFault) (.type "BaseException") = some true
  txFault : PySem.W.typeIn K (.ref A.CFault) = some (.type "type")
  exFault : PySem.W.exmOne K (.ref A.CFault) (.ref A.CFault) = some true
section
variable {P : Program} {w : World} {K : PySem.W.Frag} {mg : Str → Option Value} {base : Heap} {A : Adr}
/-! ### common: tests, errors, small words -/
theorem exm_self {K : PySem.W.Frag} {S : Addr} (h1 : PySem.W.subIn K (.ref S) (.type "BaseException") = some true) (h2 : PySem.W.isClsIn K S = true) (h3 : PySem.W.typeIn K (.ref S) = some (.type "type")) (h4 : PySem.W.subIn K (.ref S) (.ref S) = some true) :
    PySem.W.exmOne K (.ref S) (.ref S) = some true := by
  have g1 : (PySem.W.subIn K (.ref S) (.type "BaseException") == some true) = true := by rw [h1]; rfl
  have g0 : (PySem.W.clsIn K S).isSome = true := h2
  have g2 : ((PySem.W.clsIn K S).isSome && PySem.W.typeIn K (.ref S) == some (.type "type")) = true := by rw [g0, h3]; rfl
  show (if (PySem.W.subIn K (.ref S) (.type "BaseException") == some true) = true then (if ((PySem.W.clsIn K S).isSome && PySem.W.typeIn K (.ref S) == some (.type "type")) = true then PySem.W.subIn K (.ref S) (.ref S) else none) else none) = some true
  rw [if_pos g1, if_pos g2]
  exact h4
theorem exm_cross {K : PySem.W.Frag} {S R : Addr} {b : Bool} (h1 : PySem.W.subIn K (.ref S) (.type "BaseException") = some true) (h2 : PySem.W.isClsIn K S = true) (h3 : PySem.W.typeIn K (.ref S) = some (.type "type")) (h4 : PySem.W.subIn K (.ref R) (.ref S) = some b) :
    PySem.W.exmOne K (.ref R) (.ref S) = some b := by
  have g1 : (PySem.W.subIn K (.ref S) (.type "BaseException") == some true) = true := by rw [h1]; rfl
  have g0 : (PySem.W.clsIn K S).isSome = true := h2
  have g2 : ((PySem.W.clsIn K S).isSome && PySem.W.typeIn K (.ref S) == some (.type "type")) = true := by rw [g0, h3]; rfl
  show (if (PySem.W.subIn K (.ref S) (.type "BaseException") == some true) = true then (if ((PySem.W.clsIn K S).isSome && PySem.W.typeIn K (.ref S) == some (.type "type")) = true then PySem.W.subIn K (.ref R) (.ref S) else none) else none) = some b
  rw [if_pos g1, if_pos g2]
  exact h4
/-- the law's own promise -/
def sp_law (K : PySem.W.Frag) : Sp := fun vs H Q _ => ∃ (a : Addr) (ns : List Int), vs = [.ref a] ∧ SqL K H a (ns.map V.int) ∧ ns.length ≤ 63 ∧ ∀ H', Q (.bl true) H'
theorem iteP {p A B : Prop} [Decidable p] (h1 : p → A) (h2 : ¬ p → B) : if decide p = true then A else B := by
  by_cases h : p
  · rw [decide_eq_true h]; exact iteT (h1 h)
  · rw [decide_eq_false h]; exact iteF (h2 h)
theorem iteN {p A B : Prop} [Decidable p] (h1 : ¬ p → A) (h2 : p → B) : if (!decide p) = true then A else B := by
  by_cases h : p
  · rw [decide_eq_true h]; exact iteF (h2 h)
  · rw [decide_eq_false h]; exact iteT (h1 h)
theorem iteEq {i j : Int} {A B : Prop} (h1 : i = j → A) (h2 : i ≠ j → B) : if decide (V.int i = V.int j) = true then A else B :=
  iteP (fun h => h1 (V.int.inj h)) (fun h => h2 fun e => h (congrArg V.int e))
theorem iteNe {i j : Int} {A B : Prop} (h1 : i ≠ j → A) (h2 : i = j → B) : if (!decide (V.int i = V.int j)) = true then A else B :=
  iteN (fun h => h1 fun e => h (congrArg V.int e)) (fun h => h2 (V.int.inj h))
theorem if_t {b : Bool} {A B : Prop} (e : b = true) (h : A) : if b = true then A else B := by rw [if_pos e]; exact h
theorem if_f {b : Bool} {A B : Prop} (e : b = false) (h : B) : if b = true then A else B := by rw [e]; exact iteF h
theorem if_b {b : Bool} {A B : Prop} (h1 : b = true → A) (h2 : b = false → B) : if b = true then A else B := by
  cases b with
  | true => exact iteT (h1 rfl)
  | false => exact iteF (h2 rfl)
theorem same_upd {H : Hp} {p : Addr} {o : HO} (h : H p = none) : Same H (upd H p o) := fun b x e => by
  rw [upd_ne (ne_of_none e h)]
  exact e
theorem len_line {n : Nat} (h : n ≤ 100000) : n ≤ sizeLine := Nat.le_trans h (by decide)
theorem lt_line {n : Nat} (h : n < 100000) : n < sizeLine := Nat.lt_of_lt_of_le h (by decide)
local macro_rules | `(tactic| walk_at "rd") => `(tactic| repeat (first
  | refine ⟨_, rfl, ?_⟩
  | refine ⟨_, _, rfl, rfl, ?_⟩
  | refine ⟨rfl, ?_⟩
  | refine Or.inl ⟨_, rfl, ?_⟩
  | refine ⟨(by show (0 : Int) < _; decide), ?_⟩
  | refine ⟨(⟨by decide, by decide⟩ : CDiv _ _), ?_⟩
  | refine ⟨(Or.inl ⟨by decide, by decide⟩ : CMul _ _), ?_⟩
  | refine ⟨(Or.inr ⟨by decide, by decide⟩ : CMul _ _), ?_⟩))
/-! ### data that are compared -/
def Sh (n : Nat) (d : PyData) : Prop := d.canLay0 = true ∧ d.depth ≤ n
theorem Sh.mono {n m : Nat} {d : PyData} (h : Sh n d) (l : n ≤ m) : Sh m d := ⟨h.1, Nat.le_trans h.2 l⟩
theorem sh_all : ∀ {n : Nat} {ds : List PyData}, (∀ d ∈ ds, Sh n d) → PyData.canLayAll0 ds = true ∧ PyData.depthAll ds ≤ n
  | n, [], _ => ⟨by simp [PyData.canLayAll0], by simp [PyData.depthAll]⟩
  | n, d :: ds, h => by
    have h1 := h d List.mem_cons_self
    have h2 := sh_all fun e he => h e (List.mem_cons_of_mem _ he)
    refine ⟨?_, ?_⟩
    · simp only [PyData.canLayAll0, Bool.and_eq_true]; exact ⟨h1.1, h2.1⟩
    · simp only [PyData.depthAll]; exact Nat.max_le.mpr ⟨h1.2, h2.2⟩
theorem sh_list {n : Nat} {ds : List PyData} (h : ∀ d ∈ ds, Sh n d) : Sh (n + 1) (.list ds) := by
  have q := sh_all h
  exact ⟨by simp only [PyData.canLay0]; exact q.1, by simp only [PyData.depth]; exact Nat.succ_le_succ q.2⟩
theorem sh_tuple {n : Nat} {ds : List PyData} (h : ∀ d ∈ ds, Sh n d) : Sh (n + 1) (.tuple ds) := by
  have q := sh_all h
  exact ⟨by simp only [PyData.canLay0]; exact q.1, by simp only [PyData.depth]; exact Nat.succ_le_succ q.2⟩
theorem sh_int (i : Int) : Sh 0 (.int i) := ⟨by simp [PyData.canLay0], by simp [PyData.depth]⟩
theorem sh_bool (i : Bool) : Sh 0 (.bool i) := ⟨by simp [PyData.canLay0], by simp [PyData.depth]⟩
theorem sh_none : Sh 0 .none := ⟨by simp [PyData.canLay0], by simp [PyData.depth]⟩
theorem sh_str {s : Str} (h : PyData.strOk s = true) : Sh 0 (.str s) := ⟨by simp only [PyData.canLay0]; exact h, by simp [PyData.depth]⟩
theorem Sh.shaped {n : Nat} {d : PyData} (h : Sh n d) (l : n ≤ 64 := by decide) : SeqAt.shaped d = true := by
  show (d.canLay0 && decide (d.depth ≤ 64)) = true
  rw [h.1, decide_eq_true (Nat.le_trans h.2 l)]
  rfl
theorem Sh.self {n : Nat} {d : PyData} (h : Sh n d) : PyData.eqv d d = true := SeqAt.eqv_refl d h.1
def pInts (xs : List Int) : PyData := .list (xs.map PyData.int)
theorem sh_ints (xs : List Int) : Sh 1 (pInts xs) := sh_list fun d hd => by
  obtain ⟨i, _, rfl⟩ := List.mem_map.mp hd
  exact sh_int i
theorem dpall_ints {K : PySem.W.Frag} {H : Hp} : ∀ xs : List Int, DpAll K H (xs.map V.int) (xs.map PyData.int)
  | [] => .nil
  | x :: r => .cons (.int x) (dpall_ints r)
theorem dp_ints {K : PySem.W.Frag} {H : Hp} {p : Addr} {xs : List Int} (h : SqL K H p (xs.map V.int)) : Dp K H (.ref p) (pInts xs) := .lst h (dpall_ints xs)
/-! ### views: what is new, what stands -/
structure Ext (V H V' H' : Hp) : Prop where
  vv : Same V V'
  vh : Same V' H'
  hh : Same H H'
  nw : ∀ a, V' a ≠ none → V a ≠ none ∨ H a = none
theorem Ext.refl {V H : Hp} (h : Same V H) : Ext V H V H := ⟨Same.refl V, h, Same.refl H, fun _ h => Or.inl h⟩
theorem Ext.trans {V H V1 H1 V2 H2 : Hp} (a : Ext V H V1 H1) (b : Ext V1 H1 V2 H2) : Ext V H V2 H2 :=
  ⟨a.vv.trans b.vv, b.vh, a.hh.trans b.hh, fun x h => by
    rcases b.nw x h with q | q
    · exact a.nw x q
    · exact Or.inr (a.hh.free q)⟩
theorem none_of_same {V H : Hp} {p : Addr} (s : Same V H) (h : H p = none) : V p = none := s.free h
theorem Ext.new {V H : Hp} {p : Addr} {o : HO} (s : Same V H) (h : H p = none) : Ext V H (upd V p o) (upd H p o) :=
  ⟨same_upd (s.free h), fun b u e => by
    by_cases hb : b = p
    · subst hb; rw [upd_same] at e ⊢; exact e
    · rw [upd_ne hb] at e ⊢; exact s b u e, same_upd h, fun a e => by
    by_cases ha : a = p
    · subst ha; exact Or.inr h
    · rw [upd_ne ha] at e; exact Or.inl e⟩
/-- a new object that the view does not take in -/
theorem Ext.skip {V H : Hp} {p : Addr} {o : HO} (s : Same V H) (h : H p = none) : Ext V H V (upd H p o) :=
  ⟨Same.refl V, s.trans (same_upd h), same_upd h, fun _ e => Or.inl e⟩
theorem Ext.keepOut {V H V' H' : Hp} (x : Ext V H V' H') {D : Addr} (h : V D = none) (hd : H D ≠ none) : V' D = none := by
  cases e : V' D with
  | none => rfl
  | some o =>
    rcases x.nw D (by rw [e]; exact fun z => by cases z) with q | q
    · exact absurd h q
    · exact absurd q hd
/-- an object outside of the view changes -/
theorem Ext.poke {V H V' H' : Hp} (x : Ext V H V' H') {D : Addr} {o : HO} (hd : H D = none) (h : V' D = none) : Ext V H V' (upd H' D o) :=
  ⟨x.vv, fun b u e => by
    have hb : b ≠ D := fun z => by rw [z, h] at e; cases e
    rw [upd_ne hb]; exact x.vh b u e, fun b u e => by
    have hb : b ≠ D := ne_of_none e hd
    rw [upd_ne hb]; exact x.hh b u e, x.nw⟩
/-- the object at D, done, is taken in -/
theorem Ext.take {V H V' H' : Hp} (x : Ext V H V' H') {D : Addr} {o : HO} (hd : H D = none) (h : V' D = none) (e : H' D = some o) : Ext V H (upd V' D o) H' :=
  ⟨x.vv.trans (same_upd h), fun b u q => by
    by_cases hb : b = D
    · subst hb; rw [upd_same] at q; rw [e]; exact q
    · rw [upd_ne hb] at q; exact x.vh b u q, x.hh, fun a q => by
    by_cases ha : a = D
    · subst ha; exact Or.inr hd
    · rw [upd_ne ha] at q; exact x.nw a q⟩
theorem _root_.L2.Same.sqt {K : PySem.W.Frag} {H H' : Hp} {a : Addr} {xs : List V} (e : Same H H') (h : SqT K H a xs) : SqT K H' a xs := by
  rcases h with (h | ⟨o, h⟩) | h
  · exact .inl (.inl (e _ _ h))
  · exact .inl (.inr ⟨o, e _ _ h⟩)
  · exact .inr h
mutual
theorem dp_same {K : PySem.W.Frag} {H H' : Hp} (s : Same H H') : ∀ (d : PyData) (v : V), Dp K H v d → Dp K H' v d
  | .none, _, h => by cases h; exact .non
  | .bool b, _, h => by cases h; exact .bl b
  | .int i, _, h => by cases h; exact .int i
  | .str x, _, h => by cases h; exact .str x
  | .list ds, _, h => by
    cases h with
    | lst q r => exact .lst (s.seq q) (dpall_same s ds _ r)
  | .tuple ds, _, h => by
    cases h with
    | tup q r => exact .tup (s.sqt q) (dpall_same s ds _ r)
  | .dict _, _, h => by cases h
theorem dpall_same {K : PySem.W.Frag} {H H' : Hp} (s : Same H H') : ∀ (ds : List PyData) (vs : List V), DpAll K H vs ds → DpAll K H' vs ds
  | [], _, h => by cases h; exact .nil
  | d :: ds, _, h => by
    cases h with
    | cons q r => exact .cons (dp_same s d _ q) (dpall_same s ds _ r)
end
theorem _root_.L2.Dp.to {K : PySem.W.Frag} {H H' : Hp} {v : V} {d : PyData} (h : Dp K H v d) (s : Same H H') : Dp K H' v d := dp_same s d v h
theorem _root_.L2.DpAll.to {K : PySem.W.Frag} {H H' : Hp} {v : List V} {d : List PyData} (h : DpAll K H v d) (s : Same H H') : DpAll K H' v d := dpall_same s d v h
theorem dpall_len {K : PySem.W.Frag} {H : Hp} : ∀ {vs : List V} {ds : List PyData}, DpAll K H vs ds → vs.length = ds.length
  | _, [], h => by cases h; rfl
  | _, d :: ds, h => by
    cases h with
    | cons q r => exact congrArg (· + 1) (dpall_len r)
theorem dpall_get {K : PySem.W.Frag} {H : Hp} : ∀ {vs : List V} {ds : List PyData} {i : Nat} {v : V}, DpAll K H vs ds → vs[i]? = some v → ∃ d, ds[i]? = some d ∧ Dp K H v d
  | _, [], i, v, h, e => by cases h; cases e
  | _, d :: ds, i, v, h, e => by
    cases h with
    | cons q r =>
      match i, e with
      | 0, e => cases e; exact ⟨d, rfl, q⟩
      | i + 1, e => exact dpall_get (i := i) r e
theorem dpall_get' {K : PySem.W.Frag} {H : Hp} : ∀ {vs : List V} {ds : List PyData} {i : Nat} {d : PyData}, DpAll K H vs ds → ds[i]? = some d → ∃ v, vs[i]? = some v ∧ Dp K H v d
  | _, [], i, d, h, e => by cases e
  | _, d :: ds, i, d', h, e => by
    cases h with
    | cons q r =>
      match i, e with
      | 0, e => cases e; exact ⟨_, rfl, q⟩
      | i + 1, e => exact dpall_get' (i := i) r e
theorem dpall_app {K : PySem.W.Frag} {H : Hp} : ∀ {vs ws : List V} {ds es : List PyData}, DpAll K H vs ds → DpAll K H ws es → DpAll K H (vs ++ ws) (ds ++ es)
  | _, _, [], _, h, g => by cases h; exact g
  | _, _, d :: ds, _, h, g => by
    cases h with
    | cons q r => exact .cons q (dpall_app r g)
theorem dp_list {K : PySem.W.Frag} {H : Hp} {v : V} {ds : List PyData} (h : Dp K H v (.list ds)) : ∃ a xs, v = .ref a ∧ SqL K H a xs ∧ DpAll K H xs ds := by
  cases h with
  | lst q r => exact ⟨_, _, rfl, q, r⟩
theorem dp_tuple {K : PySem.W.Frag} {H : Hp} {v : V} {ds : List PyData} (h : Dp K H v (.tuple ds)) : ∃ a xs, v = .ref a ∧ SqT K H a xs ∧ DpAll K H xs ds := by
  cases h with
  | tup q r => exact ⟨_, _, rfl, q, r⟩
theorem dp_int {K : PySem.W.Frag} {H : Hp} {v : V} {i : Int} (h : Dp K H v (.int i)) : v = .int i := by cases h; rfl
theorem dp_str {K : PySem.W.Frag} {H : Hp} {v : V} {i : Str} (h : Dp K H v (.str i)) : v = .str i := by cases h; rfl
theorem dp_bool {K : PySem.W.Frag} {H : Hp} {v : V} {i : Bool} (h : Dp K H v (.bool i)) : v = .bl i := by cases h; rfl
/-! ### comprehensions over any walk -/
def fm {α : Type} (f : Nat → Option α) (n : Nat) : List α := (List.range n).filterMap f
theorem fm_succ {α : Type} (f : Nat → Option α) (n : Nat) : fm f (n + 1) = fm f n ++ (f n).toList := by
  unfold fm
  rw [List.range_succ, List.filterMap_append]
  congr 1
theorem fm_len {α : Type} (f : Nat → Option α) (n : Nat) : (fm f n).length ≤ n := by
  have h := List.length_filterMap_le f (List.range n)
  rw [List.length_range] at h
  exact h
structure LcInv (K : PySem.W.Frag) (V0 H0 : Hp) (D : Addr) (acc : List PyData) (H : Hp) : Prop where
  ex : ∃ V xs, Ext V0 H0 V H ∧ V D = none ∧ H D = some (.lst xs) ∧ DpAll K V xs acc
theorem LcInv.start {K : PySem.W.Frag} {V0 H0 : Hp} {D : Addr} (s : Same V0 H0) (hD : H0 D = none) : LcInv K V0 H0 D [] (upd H0 D (.lst [])) :=
  ⟨V0, [], Ext.skip s hD, s.free hD, upd_same, .nil⟩
theorem LcInv.done {K : PySem.W.Frag} {V0 H0 H : Hp} {D : Addr} {acc : List PyData} (hD : H0 D = none) (i : LcInv K V0 H0 D acc H) : ∃ U xs, Ext V0 H0 U H ∧ U D = some (.lst xs) ∧ DpAll K U xs acc ∧ Dp K U (.ref D) (.list acc) := by
  obtain ⟨V, xs, x, hv, hd, dp⟩ := i.ex
  exact ⟨_, xs, x.take hD hv hd, upd_same, dp.to (same_upd hv), .lst (SqL.of upd_same) (dp.to (same_upd hv))⟩
/-- one more item -/
theorem LcInv.push {K : PySem.W.Frag} {V0 H0 U H U' H' : Hp} {D : Addr} {acc : List PyData} {xs : List V} {y : V} {d : PyData} (hD : H0 D = none) (x : Ext V0 H0 U H) (hv : U D = none) (hd : H D = some (.lst xs)) (dp : DpAll K U xs acc)
    (x2 : Ext U H U' H') (e : Dp K U' y d) (hl : acc.length < 100000) :
    ∃ acc', H' D = some (.lst acc') ∧ acc'.length < sizeLine ∧ LcInv K V0 H0 D (acc ++ [d]) (upd H' D (.lst (acc' ++ [y]))) := by
  have hv' : U' D = none := x2.keepOut hv (by rw [hd]; exact fun z => by cases z)
  refine ⟨xs, x2.hh _ _ hd, lt_line (by rw [dpall_len dp]; exact hl), U', xs ++ [y], (x.trans x2).poke hD hv', hv', upd_same, dpall_app (dp.to x2.vv) (.cons e .nil)⟩
/-- a comprehension's reading over a walk that leaves the heap as it is: at turn i the item x, then f i: the data of what is put in, or none -/
theorem lc_dp0 {J : It} {n : Nat} {G : Hp → Prop} {Y : Nat → Hp → V → Hp → Prop} (wk : Walk J n G Y) {K : PySem.W.Frag} {V0 H0 : Hp} {D : Addr} {g : TG} {tt : TT} {te : TE} {vs : List Nat} {σ : St} {Qd : Hp → Prop} (f : Nat → Option PyData) (σ0 : St) (hσ : wipe σ vs = σ0) (s0 : Same V0 H0) (hD : H0 D = none) (hn : n < 100000)
    (hG : ∀ H, Same H0 H → G H) (hY : ∀ i H x H', Y i H x H' → H' = H)
    (hs : ∀ i x V H, i < n → Ext V0 H0 V H → Y i H x H → ∀ (Qy : VK) (Qn : Hp → Prop), (∀ d y V' H', f i = some d → Ext V H V' H' → Dp K V' y d → Qy y H') → (f i = none → ∀ V' H', Ext V H V' H' → Qn H') →
      g x σ0 H fun σ2 H2 => wipe σ2 vs = σ0 ∧ tt σ2 H2 fun b H3 => if b = true then te σ2 H3 Qy else Qn H3)
    (hd : ∀ (U H : Hp) (xs : List V), Ext V0 H0 U H → U D = none → H D = some (.lst xs) → DpAll K U xs (fm f n) → Qd H) :
    ∃ W : Nat → Nat → Hp → Prop, (∃ m, W 0 m (upd H0 D (.lst []))) ∧ ∀ i m H, W i m H →
      (J.stop i H ∧ Qd H) ∨ (J.go i H ∧ ∃ Nx : Hp → Prop, (∀ H', Nx H' → ∃ m', m' < m ∧ W (i + 1) m' H') ∧ ∀ x H', J.yld i H x H' → g x (wipe σ vs) H' fun σ2 H2 => wipe σ2 vs = wipe σ vs ∧ tt σ2 H2 fun b H3 =>
        if b = true then te σ2 H3 fun y H4 => ∃ acc, H4 D = some (.lst acc) ∧ acc.length < sizeLine ∧ Nx (upd H4 D (.lst (acc ++ [y]))) else Nx H3) := by
  subst hσ
  refine lc_it wk (fun i H => LcInv K V0 H0 D (fm f i) H) (LcInv.start s0 hD) (fun i H _ p => ?_) (fun i x H H' hi p y => ?_) (fun H p => ?_)
  · obtain ⟨V, xs, x, _⟩ := p.ex
    exact hG H x.hh
  · obtain ⟨V, xs, x0, hv, hdd, dp⟩ := p.ex
    obtain rfl := hY i H x H' y
    refine hs i x V H' hi x0 y _ _ (fun d y' V' H4 e x2 dy => ?_) (fun e V' H4 x2 => ?_)
    · have hl : (fm f i).length < 100000 := Nat.lt_of_le_of_lt (fm_len f i) (Nat.lt_trans hi hn)
      obtain ⟨acc', a1, a2, a3⟩ := LcInv.push hD x0 hv hdd dp x2 dy hl
      refine ⟨acc', a1, a2, ?_⟩
      rw [fm_succ, e]
      exact a3
    · have hv' : V' D = none := x2.keepOut hv (by rw [hdd]; exact fun z => by cases z)
      rw [fm_succ, e]
      show LcInv K V0 H0 D (fm f i ++ []) H4
      rw [List.append_nil]
      exact ⟨V', xs, x0.trans x2, hv', x2.hh _ _ hdd, dp.to x2.vv⟩
  · obtain ⟨U, xs, x, hv, hdd, dp⟩ := p.ex
    exact hd U H xs x hv hdd dp
/-- a comprehension's reading over a walk that leaves the heap as it is: at turn i the item x, then f i: the data of what is put in, or none -/
theorem lc_dp {J : It} {n : Nat} {G : Hp → Prop} {Y : Nat → Hp → V → Hp → Prop} (wk : Walk J n G Y) {K : PySem.W.Frag} {V0 H0 : Hp} {D : Addr} {g : TG} {tt : TT} {te : TE} {vs : List Nat} {σ : St} {Qd : Hp → Prop} (f : Nat → Option PyData) (σ0 : St) (hσ : wipe σ vs = σ0) (s0 : Same V0 H0) (hD : H0 D = none) (hn : n < 100000)
    (hG : ∀ H, Same H0 H → G H) (hY : ∀ i H x H', Y i H x H' → H' = H)
    (hs : ∀ i x V H, i < n → Ext V0 H0 V H → Y i H x H → ∀ (Qy : VK) (Qn : Hp → Prop), (∀ d y V' H', f i = some d → Ext V H V' H' → Dp K V' y d → Qy y H') → (f i = none → ∀ V' H', Ext V H V' H' → Qn H') →
      g x σ0 H fun σ2 H2 => wipe σ2 vs = σ0 ∧ tt σ2 H2 fun b H3 => if b = true then te σ2 H3 Qy else Qn H3)
    (hd : ∀ (U H : Hp) (xs : List V), Ext V0 H0 U H → U D = some (.lst xs) → DpAll K U xs (fm f n) → Dp K U (.ref D) (.list (fm f n)) → Qd H) :
    ∃ W : Nat → Nat → Hp → Prop, (∃ m, W 0 m (upd H0 D (.lst []))) ∧ ∀ i m H, W i m H →
      (J.stop i H ∧ Qd H) ∨ (J.go i H ∧ ∃ Nx : Hp → Prop, (∀ H', Nx H' → ∃ m', m' < m ∧ W (i + 1) m' H') ∧ ∀ x H', J.yld i H x H' → g x (wipe σ vs) H' fun σ2 H2 => wipe σ2 vs = wipe σ vs ∧ tt σ2 H2 fun b H3 =>
        if b = true then te σ2 H3 fun y H4 => ∃ acc, H4 D = some (.lst acc) ∧ acc.length < sizeLine ∧ Nx (upd H4 D (.lst (acc ++ [y]))) else Nx H3) := by
  refine lc_dp0 wk f σ0 hσ s0 hD hn hG hY hs fun U H xs x hv hdd dp => ?_
  exact hd _ H xs (x.take hD hv hdd) upd_same (dp.to (same_upd hv)) (.lst (SqL.of upd_same) (dp.to (same_upd hv)))
theorem fm_map {α β : Type} (f : α → β) : ∀ (xs : List α), fm (fun i => (xs[i]?).map f) xs.length = xs.map f := by
  intro xs
  have h : ∀ n, n ≤ xs.length → fm (fun i => (xs[i]?).map f) n = (xs.take n).map f := by
    intro n
    induction n with
    | zero => intro _; rfl
    | succ n ih =>
      intro hn
      rw [fm_succ, ih (by omega), List.getElem?_eq_getElem (by omega), List.take_succ_eq_append_getElem (by omega), List.map_append]
      rfl
  rw [h _ (Nat.le_refl _), List.take_length]

theorem lc2_outer {J : It} {n : Nat} {G : Hp → Prop} {Y : Nat → Hp → V → Hp → Prop} (wk : Walk J n G Y) {K : PySem.W.Frag} {V0 H0 : Hp} {D : Addr} {g : TG} {vs : List Nat} {σ : St} {body : St → Hp → (Hp → Prop) → Prop} {Qd : Hp → Prop} (F : Nat → List PyData) (σ0 : St) (hσ : wipe σ vs = σ0) (s0 : Same V0 H0) (hD : H0 D = none) (hF : F 0 = [])
    (hG : ∀ H, Same H0 H → G H) (hY : ∀ i H x H', Y i H x H' → H' = H)
    (hs : ∀ i x H, i < n → LcInv K V0 H0 D (F i) H → Y i H x H → ∀ Nx : Hp → Prop, (∀ H', LcInv K V0 H0 D (F (i + 1)) H' → Nx H') → g x σ0 H fun σ2 H2 => wipe σ2 vs = σ0 ∧ body σ2 H2 Nx)
    (hd : ∀ (U H : Hp) (xs : List V), Ext V0 H0 U H → U D = some (.lst xs) → DpAll K U xs (F n) → Dp K U (.ref D) (.list (F n)) → Qd H) :
    ∃ W : Nat → Nat → Hp → Prop, (∃ m, W 0 m (upd H0 D (.lst []))) ∧ ∀ i m H, W i m H →
      (J.stop i H ∧ Qd H) ∨ (J.go i H ∧ ∃ Nx : Hp → Prop, (∀ H', Nx H' → ∃ m', m' < m ∧ W (i + 1) m' H') ∧ ∀ x H', J.yld i H x H' → g x (wipe σ vs) H' fun σ2 H2 => wipe σ2 vs = wipe σ vs ∧ body σ2 H2 Nx) := by
  subst hσ
  refine ⟨fun i m H => m = n - i ∧ i ≤ n ∧ LcInv K V0 H0 D (F i) H, ⟨n, by simp, Nat.zero_le _, by rw [hF]; exact LcInv.start s0 hD⟩, ?_⟩
  rintro i m H ⟨rfl, hi, p⟩
  have sH : Same H0 H := by obtain ⟨_, _, x, _⟩ := p.ex; exact x.hh
  by_cases hlt : i < n
  · refine .inr ⟨wk.goes i H hlt (hG H sH), fun H' => LcInv K V0 H0 D (F (i + 1)) H', fun H' p' => ⟨n - (i + 1), by omega, rfl, hlt, p'⟩, fun x H' y => ?_⟩
    have y' := wk.yields i H x H' hlt (hG H sH) y
    obtain rfl := hY i H x H' y'
    exact hs i x H' hlt p y' _ fun _ h => h
  · have e : i = n := by omega
    subst e
    obtain ⟨U, xs, x, e1, e2, e3⟩ := p.done hD
    exact .inl ⟨wk.stops H (hG H sH), hd U H xs x e1 e2 e3⟩
theorem lc2_inner {J : It} {n : Nat} {G : Hp → Prop} {Y : Nat → Hp → V → Hp → Prop} (wk : Walk J n G Y) {K : PySem.W.Frag} {V0 H0 H4 : Hp} {D : Addr} {acc0 : List PyData} {g : TG} {tt : TT} {te : TE} {vs : List Nat} {σ : St} {Nx : Hp → Prop} (f : Nat → Option PyData) (σ0 : St) (hσ : wipe σ vs = σ0) (hD : H0 D = none)
    (inv : LcInv K V0 H0 D acc0 H4) (hn : acc0.length + n < 100000) (hG : ∀ H, Same H0 H → G H) (hY : ∀ i H x H', Y i H x H' → H' = H)
    (hs : ∀ i x V H, i < n → Ext V0 H0 V H → Y i H x H → ∀ (Qy : VK) (Qn : Hp → Prop), (∀ d y V' H', f i = some d → Ext V H V' H' → Dp K V' y d → Qy y H') → (f i = none → ∀ V' H', Ext V H V' H' → Qn H') →
      g x σ0 H fun σ2 H2 => wipe σ2 vs = σ0 ∧ tt σ2 H2 fun b H3 => if b = true then te σ2 H3 Qy else Qn H3)
    (hd : ∀ H, LcInv K V0 H0 D (acc0 ++ fm f n) H → Nx H) :
    ∃ W : Nat → Nat → Hp → Prop, (∃ m, W 0 m H4) ∧ ∀ i m H, W i m H →
      (J.stop i H ∧ Nx H) ∨ (J.go i H ∧ ∃ Nx1 : Hp → Prop, (∀ H', Nx1 H' → ∃ m', m' < m ∧ W (i + 1) m' H') ∧ ∀ x H', J.yld i H x H' → g x (wipe σ vs) H' fun σ2 H2 => wipe σ2 vs = wipe σ vs ∧ tt σ2 H2 fun b H3 =>
        if b = true then te σ2 H3 fun y H4 => ∃ acc, H4 D = some (.lst acc) ∧ acc.length < sizeLine ∧ Nx1 (upd H4 D (.lst (acc ++ [y]))) else Nx1 H3) := by
  subst hσ
  refine ⟨fun i m H => m = n - i ∧ i ≤ n ∧ LcInv K V0 H0 D (acc0 ++ fm f i) H, ⟨n, by simp, Nat.zero_le _, by rw [show fm f 0 = [] from rfl, List.append_nil]; exact inv⟩, ?_⟩
  rintro i m H ⟨rfl, hi, p⟩
  have sH : Same H0 H := by obtain ⟨_, _, x, _⟩ := p.ex; exact x.hh
  by_cases hlt : i < n
  · refine .inr ⟨wk.goes i H hlt (hG H sH), fun H' => LcInv K V0 H0 D (acc0 ++ fm f (i + 1)) H', fun H' p' => ⟨n - (i + 1), by omega, rfl, hlt, p'⟩, fun x H' y => ?_⟩
    have y' := wk.yields i H x H' hlt (hG H sH) y
    obtain rfl := hY i H x H' y'
    obtain ⟨V, xs, x0, hv, hdd, dp⟩ := p.ex
    refine hs i x V H' hlt x0 y' _ _ (fun d y' V' H4 e x2 dy => ?_) (fun e V' H4 x2 => ?_)
    · have hl : (acc0 ++ fm f i).length < 100000 := by have := fm_len f i; rw [List.length_append]; omega
      obtain ⟨acc', a1, a2, a3⟩ := LcInv.push hD x0 hv hdd dp x2 dy hl
      refine ⟨acc', a1, a2, ?_⟩
      rw [fm_succ, e, ← List.append_assoc]
      exact a3
    · have hv' : V' D = none := x2.keepOut hv (by rw [hdd]; exact fun z => by cases z)
      rw [fm_succ, e]
      show LcInv K V0 H0 D (acc0 ++ (fm f i ++ [])) H4
      rw [List.append_nil]
      exact ⟨V', xs, x0.trans x2, hv', x2.hh _ _ hdd, dp.to x2.vv⟩
  · have e : i = n := by omega
    subst e
    exact .inl ⟨wk.stops H (hG H sH), hd H p⟩
theorem fm_some {α : Type} (f : Nat → α) (n : Nat) : fm (fun i => some (f i)) n = (List.range n).map f := by
  induction n with
  | zero => rfl
  | succ n ih => rw [fm_succ, ih, List.range_succ, List.map_append]; rfl
theorem fl_take' {α : Type} {β : Type} (f : α → List β) : ∀ (xs : List α) (i : Nat) (x : α), xs[i]? = some x → (xs.take (i + 1)).flatMap f = (xs.take i).flatMap f ++ f x := by
  intro xs i x h
  obtain ⟨hi, e⟩ := List.getElem?_eq_some_iff.mp h
  rw [List.take_succ_eq_append_getElem hi, List.flatMap_append, e]
  show _ ++ (f x ++ []) = _
  rw [List.append_nil]
theorem fl_le' {α : Type} {β : Type} (f : α → List β) (xs : List α) (i : Nat) : ((xs.take i).flatMap f).length ≤ (xs.flatMap f).length := by
  have : xs.flatMap f = (xs.take i).flatMap f ++ (xs.drop i).flatMap f := by rw [← List.flatMap_append, List.take_append_drop]
  rw [this, List.length_append]; omega
/-! ### lists of ints, texts -/
theorem tyL {K : PySem.W.Frag} {H : Hp} {a : Addr} {xs : List V} (h : SqL K H a xs) : TyX K H (.ref a) (.type "list") := by
  rcases h with (h | ⟨o, h⟩) | ⟨o, its, n, h, c, _⟩
  · exact .base (.lst h)
  · exact .base (.frz h)
  · exact .kList h c
theorem tyT {K : PySem.W.Frag} {H : Hp} {a : Addr} {xs : List V} (h : SqT K H a xs) : TyX K H (.ref a) (.type "tuple") := by
  rcases h with (h | ⟨o, h⟩) | ⟨o, its, n, h, c, _⟩
  · exact .base (.tup h)
  · exact .fTuple h
  · exact .kTuple h c
theorem dp_intsV {K : PySem.W.Frag} {H : Hp} : ∀ {xs : List V} {is : List Int}, DpAll K H xs (is.map PyData.int) → xs = is.map V.int
  | _, [], r => by cases r; rfl
  | _, i :: is, r => by
    cases r with
    | cons r1 r2 => cases r1; rw [dp_intsV r2]; rfl
theorem dp_intsL {K : PySem.W.Frag} {H : Hp} {a : Addr} {is : List Int} (h : Dp K H (.ref a) (.list (is.map PyData.int))) : SqL K H a (is.map V.int) := by
  obtain ⟨a', xs, e, q, r⟩ := dp_list h
  cases e
  rw [← dp_intsV r]; exact q
theorem dp_strsV {K : PySem.W.Frag} {H : Hp} : ∀ {xs : List V} {is : List Str}, DpAll K H xs (is.map PyData.str) → xs = is.map V.str
  | _, [], r => by cases r; rfl
  | _, i :: is, r => by
    cases r with
    | cons r1 r2 => cases r1; rw [dp_strsV r2]; rfl
theorem dp_boolsV {K : PySem.W.Frag} {H : Hp} : ∀ {xs : List V} {is : List Bool}, DpAll K H xs (is.map PyData.bool) → xs = is.map V.bl
  | _, [], r => by cases r; rfl
  | _, i :: is, r => by
    cases r with
    | cons r1 r2 => cases r1; rw [dp_boolsV r2]; rfl
theorem dp_boolsL {K : PySem.W.Frag} {H : Hp} {a : Addr} {is : List Bool} (h : Dp K H (.ref a) (.list (is.map PyData.bool))) : SqL K H a (is.map V.bl) := by
  obtain ⟨a', xs, e, q, r⟩ := dp_list h
  cases e
  rw [← dp_boolsV r]; exact q
theorem size_eq (z : Str) : z.cps.size = z.cps.toList.length := by simp
theorem cps_at (z : Str) (i : Nat) : z.cps[i]? = z.cps.toList[i]? := by simp
theorem fm_list {α β : Type} (f : α → β) (xs : List α) (n : Nat) (h : n = xs.length) (g : Nat → Option β) (hg : ∀ i x, xs[i]? = some x → g i = some (f x)) : fm g n = xs.map f := by
  subst h
  rw [← fm_map f xs]
  unfold fm
  have : ∀ l : List Nat, (∀ i ∈ l, i < xs.length) → l.filterMap g = l.filterMap fun i => (xs[i]?).map f := by
    intro l
    induction l with
    | nil => intro _; rfl
    | cons i l ih =>
      intro hl
      have hi' := hl i List.mem_cons_self
      rw [List.filterMap_cons, List.filterMap_cons, hg i _ (List.getElem?_eq_getElem hi'), List.getElem?_eq_getElem hi', ih fun j hj => hl j (List.mem_cons_of_mem _ hj)]
      rfl
  exact this _ fun i hi => List.mem_range.mp hi
theorem rep_flat {α : Type} (v : α) : ∀ n : Nat, (List.replicate n [v]).flatten = List.replicate n v
  | 0 => rfl
  | n + 1 => by rw [List.replicate_succ, List.replicate_succ, List.flatten_cons, rep_flat v n]; rfl
/-- a list's object that is tracked, at p, new -/
structure NewL (H H' : Hp) (p : Addr) (xs : List V) : Prop where
  new : H p = none
  same : Same H H'
  at_ : H' p = some (.lst xs)
theorem NewL.ext {U H H' : Hp} {p : Addr} {xs : List V} (n : NewL H H' p xs) (s : Same U H) : Ext U H (upd U p (.lst xs)) H' :=
  ⟨same_upd (s.free n.new), fun b u e => by
    by_cases hb : b = p
    · subst hb; rw [upd_same] at e; rw [n.at_]; exact e
    · rw [upd_ne hb] at e; exact n.same _ _ (s b u e), n.same, fun a e => by
    by_cases ha : a = p
    · subst ha; exact Or.inr n.new
    · rw [upd_ne ha] at e; exact Or.inl e⟩
theorem str_app (x y : Str) : (x ++ y).cps.toList = x.cps.toList ++ y.cps.toList := Array.toList_append
theorem str_len_app (x y : Str) : (x ++ y).length = x.length + y.length := by
  show (x ++ y).cps.size = x.cps.size + y.cps.size
  rw [size_eq, str_app, List.length_append, ← size_eq, ← size_eq]
/-! ### _law_cell, _law_row -/
def lawCell (ns : List Int) (k : Nat) : Int :=
  let c := if 0 < ns.length then ns.getD (k % ns.length) 0 else 0
  if c < 0 then 1 - 2 * c else c
theorem lawCell_nn (ns : List Int) (k : Nat) : 0 ≤ lawCell ns k := by
  unfold lawCell
  simp only
  split <;> omega
def lawOne (c : Int) (k : Nat) : Int := (c * 48271 + (k : Int) * 69621 + 12345) % 2147483647
def lawTwo (o : Int) (k : Nat) : Int := (o * o + 16807 * (k : Int) + 7) % 2147483629
def lawRow (ns : List Int) (k : Nat) : Int :=
  if k < ns.length ∧ 1000000000 ≤ lawCell ns k then lawCell ns k
  else (lawTwo (lawOne (lawCell ns k) k) k * lawTwo (lawOne (lawCell ns k) k) k + lawOne (lawCell ns k) k) % 4294967291 + 4294967296 * (lawOne (lawCell ns k) k + 1)
theorem lawOne_b (c : Int) (k : Nat) : 0 ≤ lawOne c k ∧ lawOne c k < 2147483647 := by unfold lawOne; omega
theorem lawTwo_b (c : Int) (k : Nat) : 0 ≤ lawTwo c k ∧ lawTwo c k < 2147483629 := by
  unfold lawTwo
  generalize c * c + 16807 * (k : Int) + 7 = x
  omega
theorem lawRow_nn (ns : List Int) (k : Nat) : 0 ≤ lawRow ns k := by
  unfold lawRow
  have h1 := lawOne_b (lawCell ns k) k
  split
  · exact lawCell_nn ns k
  · generalize lawTwo (lawOne (lawCell ns k) k) k * lawTwo (lawOne (lawCell ns k) k) k + lawOne (lawCell ns k) k = x
    omega
def sp__law_cell (K : PySem.W.Frag) : Sp := fun vs H Q _ => ∃ (a : Addr) (ns : List Int) (k : Nat), vs = [.ref a, .int (k : Int)] ∧ SqL K H a (ns.map V.int) ∧ Q (.int (lawCell ns k)) H
theorem sc__law_cell : FnScope ["script", "k", "cell"] ["script", "k"] (defScope s__law_cell) := ⟨rfl, rfl, rfl, by decide +kernel, rfl, by decide +kernel, by decide +kernel⟩
theorem ok__law_cell (T : Txt0 P K mg A) : FnOk P w K mg base CX0 1 A.f_law_cell A.d_law_cell ["script", "k"] (sp__law_cell K) := by
  refine T.F_law_cell.ok sc__law_cell (fun vs H Q E h => ?_) (fun cdv Ar outer s H vs Q E hr h => ?_)
  · obtain ⟨a, ns, k, rfl, _⟩ := h
    rfl
  · obtain ⟨a, ns, k, rfl, hS, q⟩ := h
    refine ⟨_, (pss_cons (ps_set (i := 2) sc__law_cell.nd rfl (Or.inl rfl) pe_int)
      (pss_cons (ps_if (pt_cmpR op_gt (pe_callB call_len_seq (by rfl) T.len PySem.boot_len (pa_cons (pv 0) pa_nil)) pe_int (nomark _))
      (pss_one (ps_set (i := 2) sc__law_cell.nd rfl (Or.inl rfl) (pe_ix ix_list (pv 0) (pe_op op_mod (pe_callTy call_int1 (by rfl) T.int (by decide +kernel) (pa_cons (pv 1) pa_nil)) (pe_callB call_len_seq (by rfl) T.len PySem.boot_len (pa_cons (pv 0) pa_nil))) (fun _ _ => rfl))))
      pss_nil)
      (pss_cons (ps_if (pt_cmpR op_lt (pv 2) pe_int (nomark _))
      (pss_one (ps_set (i := 2) sc__law_cell.nd rfl (Or.inl rfl) (pe_op op_sub pe_int (pe_op op_mul pe_int (pv 2)))))
      pss_nil)
      (pss_one (ps_ret (pv 2)))))), ?_⟩
    have two : ∀ (c : Int), (if c < 0 then 1 - 2 * c else c) = lawCell ns k → tSeq (tIfS (tTest (tOp (rI0 fun i j => .bl (decide (i < j))) (tVar 2) (tC (.int 0)))) (tAsg (tOp (rI0 fun i j => .int (i - j)) (tC (.int 1)) (tOp (rI CMul fun i j => .int (i * j)) (tC (.int 2)) (tVar 2))) (gName 2)) tNext) (tRet (tVar 2))
        { nx := fun _ H' => Q .non H', rt := Q } [some (.ref a), some (.int (k : Int)), some (.int c)] H := by
      intro c hc
      walk_at "rd"
      refine iteP (fun h => ?_) (fun h => ?_)
      · rw [if_pos h] at hc
        walk_at "rd"
        rw [← hc] at q; exact q
      · rw [if_neg h] at hc
        walk_at "rd"
        rw [← hc] at q; exact q
    refine ⟨.ref a, rfl, a, _, rfl, .inl hS, _, _, rfl, rfl, _, rfl, iteP (fun h => ?_) (fun h => ?_)⟩
    · have h0 : 0 < ns.length := by rw [List.length_map] at h; omega
      refine ⟨_, rfl, _, rfl, Or.inl ⟨_, rfl, ?_⟩⟩
      refine ⟨_, rfl, a, _, rfl, .inl hS, _, _, rfl, rfl, by show (0 : Int) < _; omega, a, _, _, .int (ns.getD (k % ns.length) 0), rfl, rfl, hS, ?_, ?_⟩
      · refine at_of (j := k % ns.length) ?_ ?_
        · rw [List.length_map]; exact (Int.natCast_emod _ _).symm
        · rw [List.getElem?_map, List.getElem?_eq_getElem (Nat.mod_lt _ h0), List.getD_eq_getElem?_getD, List.getElem?_eq_getElem (Nat.mod_lt _ h0)]; rfl
      · refine two _ ?_
        unfold lawCell; rw [if_pos h0]
    · have h0 : ¬ 0 < ns.length := by rw [List.length_map] at h; omega
      refine two _ ?_
      unfold lawCell; rw [if_neg h0]
def sp__law_row (K : PySem.W.Frag) : Sp := fun vs H Q _ => ∃ (a : Addr) (ns : List Int) (k : Nat), vs = [.ref a, .int (k : Int)] ∧ SqL K H a (ns.map V.int) ∧ Q (.int (lawRow ns k)) H
theorem sc__law_row : FnScope ["script", "k", "cell", "one", "two"] ["script", "k"] (defScope s__law_row) := ⟨rfl, rfl, rfl, by decide +kernel, rfl, by decide +kernel, by decide +kernel⟩
theorem ok__law_row (T : Txt0 P K mg A) : FnOk P w K mg base CX0 2 A.f_law_row A.d_law_row ["script", "k"] (sp__law_row K) := by
  refine T.F_law_row.ok sc__law_row (fun vs H Q E h => ?_) (fun cdv Ar outer s H vs Q E hr h => ?_)
  · obtain ⟨a, ns, k, rfl, _⟩ := h
    rfl
  · obtain ⟨a, ns, k, rfl, hS, q⟩ := h
    refine ⟨_, (pss_cons (ps_set (i := 2) sc__law_row.nd rfl (Or.inl rfl) (pe_call (ok__law_cell T) (hr.mono (by decide)) rfl T.g_law_cell T.k_law_cell T.b_law_cell .nil pass0 (pa_cons (pv 0) (pa_cons (pv 1) pa_nil))))
      (pss_cons (ps_if (PW.pt (pw_and (pt_cmpR op_lt (pv 1) (pe_callB call_len_seq (by rfl) T.len PySem.boot_len (pa_cons (pv 0) pa_nil)) (nomark _)) (pw_and1 (pt_cmpR op_ge (pv 2) pe_int (nomark _)))))
      (pss_one (ps_ret (pv 2)))
      pss_nil)
      (pss_cons (ps_set (i := 3) sc__law_row.nd rfl (Or.inl rfl) (pe_op op_mod (pe_callTy call_int1 (by rfl) T.int (by decide +kernel) (pa_cons (pe_op op_add (pe_op op_add (pe_op op_mul (pv 2) pe_int) (pe_op op_mul (pv 1) pe_int)) pe_int) pa_nil)) pe_int))
      (pss_cons (ps_set (i := 4) sc__law_row.nd rfl (Or.inl rfl) (pe_op op_mod (pe_callTy call_int1 (by rfl) T.int (by decide +kernel) (pa_cons (pe_op op_add (pe_op op_add (pe_op op_mul (pv 3) (pv 3)) (pe_op op_mul pe_int (pv 1))) pe_int) pa_nil)) pe_int))
      (pss_one (ps_ret (pe_op op_add (pe_op op_mod (pe_callTy call_int1 (by rfl) T.int (by decide +kernel) (pa_cons (pe_op op_add (pe_op op_mul (pv 4) (pv 4)) (pv 3)) pa_nil)) pe_int) (pe_op op_mul pe_int (pe_op op_add (pv 3) pe_int))))))))), ?_⟩
    have b1 := lawOne_b (lawCell ns k) k
    have b2 := lawTwo_b (lawOne (lawCell ns k) k) k
    have m1 : CMul (lawOne (lawCell ns k) k) (lawOne (lawCell ns k) k) := Or.inl ⟨by omega, by omega⟩
    have m2 : CMul (lawTwo (lawOne (lawCell ns k) k) k) (lawTwo (lawOne (lawCell ns k) k) k) := Or.inl ⟨by omega, by omega⟩
    refine ⟨_, rfl, _, rfl, a, ns, k, rfl, hS, ?_⟩
    refine ⟨_, rfl, _, rfl, a, _, rfl, .inl hS, _, _, rfl, rfl, _, rfl, ?_⟩
    refine iteP (fun h => ?_) (fun h => ?_)
    · refine ⟨_, rfl, _, _, rfl, rfl, _, rfl, iteP (fun h2 => ?_) (fun h2 => ?_)⟩
      · have e : lawRow ns k = lawCell ns k := by unfold lawRow; rw [if_pos ⟨by rw [List.length_map] at h; omega, h2⟩]
        rw [e] at q
        exact ⟨_, rfl, q⟩
      · unfold lawRow at q
        rw [if_neg fun z => h2 z.2] at q
        walk_at "rd"
        refine ⟨m1, ?_⟩
        walk_at "rd"
        refine ⟨m2, ?_⟩
        walk_at "rd"
        exact q
    · unfold lawRow at q
      rw [if_neg fun z => h (by rw [List.length_map]; omega)] at q
      walk_at "rd"
      refine ⟨m1, ?_⟩
      walk_at "rd"
      refine ⟨m2, ?_⟩
      walk_at "rd"
      exact q
/-! ### a word that goes on by itself -/
theorem iteVP {p A B : Prop} [Decidable p] (h1 : p → A) (h2 : ¬ p → B) : if p then A else B := by
  by_cases h : p
  · rw [if_pos h]; exact h1 h
  · rw [if_neg h]; exact h2 h
/-- a new tuple is handed back -/
def RetT (H : Hp) (Q : VK) (xs : List V) : Prop := ∀ p H', Same H H' → H' p = some (.tup xs) → Q (.ref p) H'
theorem RetT.go {H : Hp} {Q : VK} {xs : List V} (h : ∀ p H', Same H H' → H' p = some (.tup xs) → Q (.ref p) H') : RetT H Q xs := h
theorem ne_self {d e : PyData} {A B : Prop} (hs : SeqAt.shaped d = true) (h : d = e) (hB : B) : if (!PyData.eqv d e) = true then A else B := by
  subst h
  have h2 : (d.canLay0 && decide (d.depth ≤ 64)) = true := hs
  have : PyData.eqv d d = true := SeqAt.eqv_refl d (by rw [Bool.and_eq_true] at h2; exact h2.1)
  rw [this]
  exact iteF hB
theorem eq_self {d e : PyData} {A B : Prop} (hs : SeqAt.shaped d = true) (h : d = e) (hA : A) : if PyData.eqv d e = true then A else B := by
  subst h
  have h2 : (d.canLay0 && decide (d.depth ≤ 64)) = true := hs
  have : PyData.eqv d d = true := SeqAt.eqv_refl d (by rw [Bool.and_eq_true] at h2; exact h2.1)
  rw [this]
  exact iteT hA
theorem t_ne {K : PySem.W.Frag} {x y : V} {H : Hp} {Q : VK} {d e : PyData} (h1 : Dp K H x d) (h2 : Dp K H y e) (s1 : SeqAt.shaped d = true) (s2 : SeqAt.shaped e = true) (q : Q (.bl (!PyData.eqv d e)) H) : rNeD K x y H Q := ⟨d, e, h1, h2, s1, s2, q⟩
theorem t_eq {K : PySem.W.Frag} {x y : V} {H : Hp} {Q : VK} {d e : PyData} (h1 : Dp K H x d) (h2 : Dp K H y e) (s1 : SeqAt.shaped d = true) (s2 : SeqAt.shaped e = true) (q : Q (.bl (PyData.eqv d e)) H) : rEqD K x y H Q := ⟨d, e, h1, h2, s1, s2, q⟩
/-! words that go on by themselves -/
local macro_rules | `(tactic| walk_at "sq") => `(tactic| first
  | exact SqT.of upd_same
  | exact SqL.of upd_same
  | assumption
  | exact SqT.of (by assumption)
  | exact SqL.of (by assumption)
  | (apply Same.sqt (same_upd (by assumption)); walk_at "sq")
  | (apply Same.seq (same_upd (by assumption)); walk_at "sq")
  | (apply Same.sqt (by assumption); walk_at "sq")
  | (apply Same.seq (by assumption); walk_at "sq"))
local macro_rules | `(tactic| walk_at "sm") => `(tactic| first
  | exact Same.refl _
  | assumption
  | (apply Same.trans _ (same_upd (by assumption)); walk_at "sm")
  | (apply Same.trans _ (by assumption); walk_at "sm"))
local macro_rules | `(tactic| walk_at "at") => `(tactic| first
  | exact atI_nat (j := 0) rfl
  | exact atI_nat (j := 1) rfl
  | exact atI_nat (j := 2) rfl
  | exact atI_nat (j := 3) rfl
  | exact atI_nat (j := 4) rfl
  | exact atI_nat (j := 5) rfl)
local macro_rules | `(tactic| walk_at "go1") => `(tactic| first
  | refine ⟨_, rfl, ?_⟩
  | refine ⟨_, _, rfl, rfl, ?_⟩
  | refine ⟨rfl, ?_⟩
  | refine Or.inl ⟨_, rfl, ?_⟩
  | refine ⟨(by show (0 : Int) < _; decide), ?_⟩
  | refine ⟨(⟨by decide, by decide⟩ : CDiv _ _), ?_⟩
  | refine ⟨(Or.inl ⟨by decide, by decide⟩ : CMul _ _), ?_⟩
  | refine ⟨(Or.inr ⟨by decide, by decide⟩ : CMul _ _), ?_⟩
  | refine ⟨_, _, rfl, ?_⟩
  | refine ⟨_, _, _, rfl, ?_⟩
  | refine ⟨_, _, _, _, rfl, ?_⟩
  | (refine And.intro (a := (0 : Int) ≤ _) ?_ ?_; focus omega)
  | (refine And.intro (a := _ ≤ sizeLine) ?_ (fun p hp => ?_); (focus (exact len_line (Nat.le_of_ble_eq_true rfl))))
  | refine RetT.go (fun p H' s e => ?_)
  | refine if_t rfl ?_
  | refine if_f rfl ?_
  | refine ⟨_, _, rfl, (by walk_at "sq"), rfl, ?_⟩
  | refine ⟨_, _, rfl, Or.inl (by walk_at "sq"), ?_⟩
  | refine ⟨_, _, rfl, Or.inr (by walk_at "sq"), ?_⟩
  | refine ⟨_, _, _, _, rfl, rfl, (by walk_at "sq"), (by walk_at "at"), ?_⟩
  | refine ⟨_, _, rfl, (by walk_at "sq"), (by show ¬(HT.sIx 4 0 (some 2) = 0 ∧ HT.sIx 4 4 none = 4); decide), fun p hp => ?_⟩
  | refine ⟨_, _, _, _, rfl, rfl, (by walk_at "sq"), (by walk_at "sq"), (by intro h; cases h), len_line (Nat.le_of_ble_eq_true rfl), (fun h => by cases h), fun _ p hp => ?_⟩)
local macro_rules | `(tactic| walk_at "go") => `(tactic| repeat walk_at "go1")
local macro_rules | `(tactic| walk_at "dps") => `(tactic| first
  | exact DpAll.nil
  | (apply DpAll.cons; (focus (walk_at "dp")); (focus (walk_at "dps"))))
local macro_rules | `(tactic| walk_at "dp") => `(tactic| first
  | exact Dp.int _
  | exact Dp.bl _
  | exact Dp.str _
  | exact Dp.non
  | (apply Dp.tup; (focus (walk_at "sq")); (focus (walk_at "dps")))
  | (apply Dp.lst; (focus (walk_at "sq")); (focus (walk_at "dps"))))
local macro_rules | `(tactic| walk_at "sh") => `(tactic| (show (PyData.canLay0 _ && decide (PyData.depth _ ≤ 64)) = true; simp [PyData.canLay0, PyData.canLayAll0, PyData.depth, PyData.depthAll]))
/-- a deep comparison: what is left is the if -/
local macro_rules | `(tactic| walk_at "ne") => `(tactic| (apply t_ne; (focus (walk_at "dp")); (focus (walk_at "dp")); (focus (walk_at "sh")); (focus (walk_at "sh")); refine ⟨_, rfl, ?_⟩))
local macro_rules | `(tactic| walk_at "neS") => `(tactic| (walk_at "ne"; refine ne_self ?_ ?_ ?_; (focus (walk_at "sh"))))
/-! ### more words -/
local macro_rules | `(tactic| walk_at "go2") => `(tactic| first
  | walk_at "go1"
  | refine ⟨(⟨by omega, by omega⟩ : CDiv _ _), ?_⟩
  | refine ⟨(Or.inl ⟨by omega, by omega⟩ : CMul _ _), ?_⟩
  | refine ⟨(Or.inr ⟨by omega, by omega⟩ : CMul _ _), ?_⟩
  | refine ⟨(by show (0 : Int) < _; omega), ?_⟩)
local macro_rules | `(tactic| walk_at "gx") => `(tactic| repeat walk_at "go2")
/-! ### is_integer, number_octets -/
def sp_is_integer (K : PySem.W.Frag) : Sp := fun vs H Q _ => ∃ (i lo hi : Int), vs = [.int i, .int lo, .int hi] ∧ Q (.bl (decide (lo ≤ i ∧ i ≤ hi))) H
theorem sc_is_integer : FnScope ["value", "least", "greatest"] ["value", "least", "greatest"] (defScope s_is_integer) := ⟨rfl, rfl, rfl, by decide +kernel, rfl, by decide +kernel, by decide +kernel⟩
theorem ok_is_integer (T : Txt0 P K mg A) : FnOk P w K mg base CX0 1 A.fis_integer A.dis_integer ["value", "least", "greatest"] (sp_is_integer K) := by
  refine T.Fis_integer.ok sc_is_integer (fun vs H Q E h => ?_) (fun cdv Ar outer s H vs Q E hr h => ?_)
  · obtain ⟨i, lo, hi, rfl, _⟩ := h
    rfl
  · obtain ⟨i, lo, hi, rfl, q⟩ := h
    refine ⟨_, (pss_one (ps_ret (pe_and (pe_callB call_isi (by rfl) T.isinstance (by decide +kernel) (pa_cons (pv 0) (pa_cons (pe_bltn (v := .ty "int") (by rfl) T.int (by decide +kernel) rfl) pa_nil))) (pe_and (pe_not (pe_callB call_isi (by rfl) T.isinstance (by decide +kernel) (pa_cons (pv 0) (pa_cons (pe_bltn (v := .ty "bool") (by rfl) T.bool (by decide +kernel) rfl) pa_nil)))) (pe_one (pe_chain op_le op_le (pv 1) (pv 0) (pv 2))))))), ?_⟩
    refine ⟨_, rfl, .int i, .ty "int", .type "int", .type "int", true, rfl, .ty _, .base (.int _), kit_ty (by decide +kernel), _, rfl, iteT ?_⟩
    refine ⟨_, rfl, .int i, .ty "bool", .type "int", .type "bool", false, rfl, .ty _, .base (.int _), kit_ty (by decide +kernel), _, rfl, _, rfl, iteT ?_⟩
    refine ⟨_, rfl, _, rfl, _, _, rfl, rfl, _, rfl, iteP (fun h => ?_) (fun h => ?_)⟩
    · refine ⟨_, rfl, _, _, rfl, rfl, ?_⟩
      have e : decide (lo ≤ i ∧ i ≤ hi) = decide (i ≤ hi) := by
        by_cases c : i ≤ hi
        · rw [decide_eq_true c, decide_eq_true ⟨h, c⟩]
        · rw [decide_eq_false c, decide_eq_false fun z => c z.2]
      rw [e] at q
      exact q
    · rw [decide_eq_false fun z => h z.1] at q
      exact q
def octs (n : Int) (c : Nat) : List Int := (List.range c).map fun k => n / 2 ^ (8 * k) % 256
theorem octs_len (n : Int) (c : Nat) : (octs n c).length = c := by unfold octs; rw [List.length_map, List.length_range]
theorem octs_succ (n : Int) (c : Nat) : octs n (c + 1) = octs n c ++ [n / 2 ^ (8 * c) % 256] := by
  unfold octs; rw [List.range_succ, List.map_append]; rfl
theorem and255 {x : Int} (h : 0 ≤ x) : Builtin.bitAnd x 255 = x % 256 := Bits.bitAnd_mask 8 h
/-- number_octets(n, c), n not negative, c small: a new list -/
def sp_number_octets (K : PySem.W.Frag) : Sp := fun vs H Q _ => ∃ (n : Int) (c : Nat), vs = [.int n, .int (c : Int)] ∧ 0 ≤ n ∧ c ≤ 1000 ∧
  ∀ p H', H p = none → Same H H' → H' p = some (.lst ((octs n c).map V.int)) → Q (.ref p) H'
theorem sc_number_octets : FnScope ["number", "count", "place"] ["number", "count"] (defScope s_number_octets) := ⟨rfl, rfl, rfl, by decide +kernel, rfl, by decide +kernel, by decide +kernel⟩
theorem ok_number_octets (T : Txt0 P K mg A) : FnOk P w K mg base CX0 1 A.fnumber_octets A.dnumber_octets ["number", "count"] (sp_number_octets K) := by
  refine T.Fnumber_octets.ok sc_number_octets (fun vs H Q E h => ?_) (fun cdv Ar outer s H vs Q E hr h => ?_)
  · obtain ⟨n, c, rfl, _⟩ := h
    rfl
  · obtain ⟨n, c, rfl, hn, hc, q⟩ := h
    refine ⟨_, (pss_one (ps_ret (pe_lc (own := [("place", 2)]) (g := gName 2) (tt := tYes) rfl sc_number_octets.nd (pi_range1 (by rfl) T.range (pa_cons (pv 1) pa_nil)) (blkOk_by (own := [("place", 2)]) (N := ["number", "count", "place"]) (sc := defScope s_number_octets) (by decide +kernel)) (fun _ _ _ _ _ => (pg_name (i := 2) sc_number_octets.nd rfl (Or.inl rfl))) (fun _ _ _ _ _ => pts_nil) (fun _ _ _ _ _ => (pe_op op_and (pe_op op_shr (pv 0) (pe_op op_mul pe_int (pv 2))) pe_int))))), ?_⟩
    refine ⟨_, rfl, (c : Int), rfl, by omega, by omega, fun D hD => ?_⟩
    refine lc_range (lo := 0) (n := ((c : Int)).toNat) (fun i H' => Same H H' ∧ H' D = some (.lst ((octs n i).map V.int))) ⟨same_upd hD, upd_same⟩ ?_ ?_
    · rintro i H1 hi ⟨hs, he⟩
      refine ⟨rfl, _, rfl, _, rfl, _, _, rfl, rfl, Or.inl ⟨by decide, by decide⟩, _, _, rfl, rfl, by show (0 : Int) ≤ _; omega, _, _, rfl, rfl, _, he, ?_, ?_, ?_⟩
      · rw [List.length_map, octs_len]; exact lt_line (by omega)
      · intro b o e
        rw [upd_ne (fun z => by rw [z, hD] at e; cases e)]
        exact hs b o e
      · rw [upd_same, octs_succ, List.map_append]
        have e1 : (8 * (0 + (i : Int))).toNat = 8 * i := by omega
        have e2 : Builtin.bitAnd (n / 2 ^ (8 * (0 + (i : Int))).toNat) 255 = n / 2 ^ (8 * i) % 256 := by
          rw [e1, and255 (Int.ediv_nonneg hn (Int.le_of_lt (Int.pow_pos (by decide))))]
        dsimp only
        rw [e2]
        rfl
    · rintro H1 ⟨hs, he⟩
      rw [show ((c : Int)).toNat = c by omega] at he
      exact q D H1 hD hs he
/-! ### is_text, _padded, _text_octets -/
def codeOk (c : Int) : Bool := decide (32 ≤ c ∧ c ≤ 126 ∧ c ≠ 37)
def isText (s : Str) : Bool := decide ((s.length : Int) ≤ 1000) && s.cps.toList.all (fun c : Nat => codeOk (c : Int))
def codesOf (s : Str) : List Int := s.cps.toList.map fun c : Nat => (c : Int)
def padN (n : Nat) : Nat := (-(n : Int) % 4).toNat
def pad (xs : List Int) : List Int := xs ++ List.replicate (padN xs.length) 0
theorem padN_lt (n : Nat) : padN n < 4 := by unfold padN; omega
theorem pad_len (xs : List Int) : (pad xs).length = xs.length + padN xs.length := by unfold pad; rw [List.length_append, List.length_replicate]
def textOcts (s : Str) : List Int := pad (octs (s.length + 1 : Int) 4 ++ codesOf s ++ [0])
theorem codesOf_len (z : Str) : (codesOf z).length = z.length := by unfold codesOf; rw [List.length_map]; exact (size_eq z).symm
theorem textOcts_len (z : Str) : (textOcts z).length ≤ z.length + 8 := by
  unfold textOcts
  rw [pad_len, List.length_append, List.length_append, octs_len, codesOf_len]
  have := padN_lt (4 + z.length + [(0 : Int)].length)
  show 4 + z.length + 1 + padN (4 + z.length + 1) ≤ _
  have h : padN (4 + z.length + 1) < 4 := padN_lt _
  omega
def sp__is_code (K : PySem.W.Frag) : Sp := fun vs H Q _ => ∃ (c : Int), vs = [.int c] ∧ Q (.bl (codeOk c)) H
theorem sc__is_code : FnScope ["code"] ["code"] (defScope s__is_code) := ⟨rfl, rfl, rfl, by decide +kernel, rfl, by decide +kernel, by decide +kernel⟩
theorem ok__is_code (T : Txt0 P K mg A) : FnOk P w K mg base CX0 1 A.f_is_code A.d_is_code ["code"] (sp__is_code K) := by
  refine T.F_is_code.ok sc__is_code (fun vs H Q E h => ?_) (fun cdv Ar outer s H vs Q E hr h => ?_)
  · obtain ⟨c, rfl, _⟩ := h
    rfl
  · obtain ⟨c, rfl, q⟩ := h
    refine ⟨_, (pss_one (ps_ret (pe_and (pe_chain op_le op_le (pe_glob (v := .int (32)) rfl T.g_FIRST_CODE ⟨_, rfl⟩) (pv 0) (pe_glob (v := .int (126)) rfl T.g_LAST_CODE ⟨_, rfl⟩)) (pe_one (pe_cmpR op_ne (pv 0) (pe_glob (v := .int (37)) rfl T.g_PERCENT_CODE ⟨_, rfl⟩) (nomark _)))))), ?_⟩
    unfold codeOk at q
    refine ⟨_, rfl, _, _, rfl, rfl, _, rfl, iteP (fun h1 => ?_) (fun h1 => ?_)⟩
    · refine ⟨_, _, rfl, rfl, ?_⟩
      by_cases h2 : c ≤ 126
      · refine ⟨_, rfl, if_t (decide_eq_true h2) ⟨_, rfl, rfl, ?_⟩⟩
        by_cases h3 : c = 37
        · rw [decide_eq_false fun z => z.2.2 h3] at q
          rw [decide_eq_true (by rw [h3])]; exact q
        · rw [decide_eq_true ⟨h1, h2, h3⟩] at q
          rw [decide_eq_false fun z => h3 (V.int.inj z)]; exact q
      · refine ⟨_, rfl, if_f (decide_eq_false h2) ?_⟩
        rw [decide_eq_false fun z => h2 z.2.1] at q
        exact q
    · refine ⟨_, rfl, if_f rfl ?_⟩
      rw [decide_eq_false fun z => h1 z.1] at q; exact q
def sp_is_text (K : PySem.W.Frag) : Sp := fun vs H Q _ => ∃ (s : Str), vs = [.str s] ∧ s.length < 100000 ∧ ∀ H', Same H H' → Q (.bl (isText s)) H'
theorem sc_is_text : FnScope ["value", "character"] ["value"] (defScope s_is_text) := ⟨rfl, rfl, rfl, by decide +kernel, rfl, by decide +kernel, by decide +kernel⟩
theorem ok_is_text (T : Txt0 P K mg A) : FnOk P w K mg base CX0 2 A.fis_text A.dis_text ["value"] (sp_is_text K) := by
  refine T.Fis_text.ok sc_is_text (fun vs H Q E h => ?_) (fun cdv Ar outer s H vs Q E hr h => ?_)
  · obtain ⟨c, rfl, _⟩ := h
    rfl
  · obtain ⟨z, rfl, hl, q⟩ := h
    refine ⟨_, (pss_one (ps_ret (pe_and (pe_cmpR op_le (pe_callB call_len_str (by rfl) T.len PySem.boot_len (pa_cons (pv 0) pa_nil)) (pe_glob (v := .int (1000)) rfl T.gLONGEST_TEXT_fields ⟨_, rfl⟩) (nomark _)) (pe_one (pe_callB (cr_all rfl) (by rfl) T.all (by decide +kernel) (pa_cons (pe_lc (own := [("character", 1)]) (g := (gName 1)) (tt := tYes) rfl sc_is_text.nd (pi_str (pv 0)) (blkOk_by (own := [("character", 1)]) (N := ["value", "character"]) (sc := defScope s_is_text) (by decide +kernel)) (fun _ _ _ _ _ => (pg_name (i := 1) sc_is_text.nd rfl (Or.inl rfl))) (fun _ _ _ _ _ => pts_nil) (fun _ _ _ _ _ => by exact (pe_call (ok__is_code T) (hr.mono (by decide)) rfl T.g_is_code T.k_is_code T.b_is_code .nil pass0 (pa_cons (pe_callB call_ord (by rfl) T.ord (by decide +kernel) (pa_cons (pv 1) pa_nil)) pa_nil)))) pa_nil)))))), ?_⟩
    refine ⟨_, rfl, z, rfl, len_line (Nat.le_of_lt hl), _, _, rfl, rfl, _, rfl, iteP (fun h1 => ?_) (fun h1 => ?_)⟩
    · refine ⟨_, rfl, z, rfl, fun D hD => ?_⟩
      refine lc_dp (walk_str (z := z)) (K := K) (V0 := H) (H0 := H) (fun i => (z.cps[i]?).map fun c : Nat => PyData.bool (codeOk (c : Int))) [some (.str z), none] rfl (Same.refl _) hD (by show z.length < 100000; exact hl) (fun _ _ => trivial) (fun i x H H' y => y.1) ?_ ?_
      · rintro i x U H1 hi xx ⟨_, c, hc, rfl⟩ Qy Qn hy _
        refine ⟨rfl, _, rfl, _, rfl, rfl, _, rfl, ?_⟩
        exact hy _ _ _ _ (by rw [hc]; rfl) (Ext.refl xx.vh) (.bl _)
      · rintro U H1 _ xx _ _ dl
        rw [size_eq, show fm (fun i => (z.cps[i]?).map fun c : Nat => PyData.bool (codeOk (c : Int))) z.cps.toList.length = (z.cps.toList.map fun c : Nat => codeOk (c : Int)).map PyData.bool from by
          rw [List.map_map]; exact fm_list _ _ _ rfl _ fun i x hx => by rw [cps_at, hx]; rfl] at dl
        refine ⟨D, _, rfl, xx.vh.seq (dp_boolsL dl), ?_⟩
        have := q _ xx.hh
        unfold isText at this
        rw [decide_eq_true h1, Bool.true_and] at this
        rw [List.all_map]; exact this
    · have := q H (Same.refl H)
      unfold isText at this
      rw [decide_eq_false h1] at this
      exact this
/-- _padded(a list): a new list -/
def sp__padded (K : PySem.W.Frag) : Sp := fun vs H Q _ => ∃ (a : Addr) (xs : List Int), vs = [.ref a] ∧ H a = some (.lst (xs.map V.int)) ∧ xs.length < 90000 ∧ ∀ p H', NewL H H' p ((pad xs).map V.int) → Q (.ref p) H'
theorem sc__padded : FnScope ["octets"] ["octets"] (defScope s__padded) := ⟨rfl, rfl, rfl, by decide +kernel, rfl, by decide +kernel, by decide +kernel⟩
theorem ok__padded (T : Txt0 P K mg A) : FnOk P w K mg base CX0 1 A.f_padded A.d_padded ["octets"] (sp__padded K) := by
  refine T.F_padded.ok sc__padded (fun vs H Q E h => ?_) (fun cdv Ar outer s H vs Q E hr h => ?_)
  · obtain ⟨a, xs, rfl, _⟩ := h
    rfl
  · obtain ⟨a, xs, rfl, ha, hl, q⟩ := h
    refine ⟨_, (pss_one (ps_ret (pe_op op_cat (pv 0) (pe_op op_rep (pe_lst (pa_cons pe_int pa_nil)) (pe_op op_mod (pe_un un_neg (pe_callB call_len_seq (by rfl) T.len PySem.boot_len (pa_cons (pv 0) pa_nil))) pe_int))))), ?_⟩
    refine ⟨_, rfl, by decide, fun p1 n1 => ?_⟩
    have ha1 : (upd H p1 (.lst [.int 0])) a = some (.lst (xs.map V.int)) := by rw [upd_ne (ne_of_none ha n1)]; exact ha
    have e1 : -((xs.map V.int).length : Int) % 4 = (padN xs.length : Int) := by rw [List.length_map]; unfold padN; omega
    have pl := padN_lt xs.length
    refine ⟨_, rfl, a, _, rfl, .inl (SqL.of ha1), _, rfl, _, _, rfl, rfl, by show (0 : Int) < 4; decide, p1, _, _, rfl, rfl, upd_same, ?_, ?_, ?_, fun p2 n2 => ?_⟩
    · omega
    · omega
    · exact len_line (by show 1 * _ ≤ _; omega)
    refine ⟨a, p2, _, _, rfl, rfl, by rw [upd_ne (ne_of_none ha1 n2)]; exact ha1, upd_same, ?_, fun p3 n3 => ?_⟩
    · rw [e1]
      exact len_line (by rw [rep_flat, List.length_map, List.length_replicate]; omega)
    refine q p3 _ ⟨?_, ?_, ?_⟩
    · exact (same_upd n1).free ((same_upd n2).free n3)
    · exact ((same_upd n1).trans (same_upd n2)).trans (same_upd n3)
    · rw [upd_same, e1]
      unfold pad
      rw [List.map_append, show ((padN xs.length : Nat) : Int).toNat = padN xs.length by omega]
      rw [rep_flat, List.map_replicate]
def sp__text_octets (K : PySem.W.Frag) : Sp := fun vs H Q _ => ∃ (s : Str), vs = [.str s] ∧ s.length < 80000 ∧ ∀ p H', NewL H H' p ((textOcts s).map V.int) → Q (.ref p) H'
theorem sc__text_octets : FnScope ["text", "codes", "character"] ["text"] (defScope s__text_octets) := ⟨rfl, rfl, rfl, by decide +kernel, rfl, by decide +kernel, by decide +kernel⟩
theorem ok__text_octets (T : Txt0 P K mg A) : FnOk P w K mg base CX0 2 A.f_text_octets A.d_text_octets ["text"] (sp__text_octets K) := by
  refine T.F_text_octets.ok sc__text_octets (fun vs H Q E h => ?_) (fun cdv Ar outer s H vs Q E hr h => ?_)
  · obtain ⟨z, rfl, _⟩ := h
    rfl
  · obtain ⟨z, rfl, hl, q⟩ := h
    refine ⟨_, (pss_cons (ps_setLc (i := 1) (own := [("character", 2)]) (g := (gName 2)) (tt := tYes) rfl sc__text_octets.nd rfl rfl (sw_true rfl rfl rfl (by decide +kernel)) (pi_str (pv 0)) (blkOk_by (own := [("character", 2)]) (N := ["text", "codes", "character"]) (sc := defScope s__text_octets) (by decide +kernel)) (fun _ _ _ _ _ => (pg_name (i := 2) sc__text_octets.nd rfl (Or.inl rfl))) (fun _ _ _ _ _ => pts_nil) (fun _ _ _ _ _ => by exact (pe_callB call_ord (by rfl) T.ord (by decide +kernel) (pa_cons (pv 2) pa_nil))))
      (pss_one (ps_ret (pe_call (ok__padded T) (hr.mono (by decide)) rfl T.g_padded T.k_padded T.b_padded .nil pass0 (pa_cons (pe_op op_cat (pe_op op_cat (pe_call (ok_number_octets T) (hr.mono (by decide)) rfl T.gnumber_octets T.knumber_octets T.bnumber_octets .nil pass0 (pa_cons (pe_op op_add (pe_callB call_len_seq (by rfl) T.len PySem.boot_len (pa_cons (pv 1) pa_nil)) pe_int) (pa_cons pe_int pa_nil))) (pv 1)) (pe_lst (pa_cons pe_int pa_nil))) pa_nil))))), ?_⟩
    refine ⟨_, rfl, z, rfl, fun D hD => ?_⟩
    refine lc_dp (walk_str (z := z)) (K := K) (V0 := H) (H0 := H) (fun i => (z.cps[i]?).map fun c : Nat => PyData.int (c : Int)) [some (.str z), none, none] rfl (Same.refl _) hD (by show z.length < 100000; omega) (fun _ _ => trivial) (fun i x H H' y => y.1) ?_ ?_
    · rintro i x U H1 hi xx ⟨_, c, hc, rfl⟩ Qy Qn hy _
      refine ⟨rfl, _, rfl, _, rfl, rfl, ?_⟩
      exact hy _ _ _ _ (by rw [hc]; rfl) (Ext.refl xx.vh) (.int _)
    · rintro U H1 xs xx hDU dl _
      rw [size_eq, show fm (fun i => (z.cps[i]?).map fun c : Nat => PyData.int (c : Int)) z.cps.toList.length = (codesOf z).map PyData.int from by
          unfold codesOf; rw [List.map_map]; exact fm_list _ _ _ rfl _ fun i x hx => by rw [cps_at, hx]; rfl] at dl
      have hlc : (codesOf z).length = z.length := by unfold codesOf; rw [List.length_map]; exact (size_eq z).symm
      have exs := dp_intsV dl
      subst exs
      have h1D := xx.vh _ _ hDU
      have ev : ∀ (l : Int), l = z.length → (z.length : Int) + 1 = l + 1 := fun l e => by omega
      refine ⟨_, rfl, D, _, rfl, .inl (SqL.of h1D), _, _, rfl, rfl, _, 4, rfl, ?_, by decide, fun p H2 hp hs he => ?_⟩
      · omega
      have h2D := hs _ _ h1D
      rw [List.length_map, hlc] at he
      refine ⟨_, rfl, p, D, _, _, rfl, rfl, he, h2D, ?_, fun p3 n3 => ?_⟩
      · rw [List.length_map, List.length_map, octs_len, hlc]; exact len_line (by omega)
      refine ⟨by decide, fun p4 n4 => ?_⟩
      refine ⟨p3, p4, _, _, rfl, rfl, by rw [upd_ne (ne_of_none upd_same n4)]; exact upd_same, upd_same, ?_, fun p5 n5 => ?_⟩
      · rw [List.length_append, List.length_map, List.length_map, octs_len, hlc]; exact len_line (by show 4 + z.length + 1 ≤ _; omega)
      refine ⟨p5, octs (z.length + 1 : Int) 4 ++ codesOf z ++ [0], rfl, ?_, ?_, fun p6 H6 n6 => q p6 H6 ?_⟩
      · rw [upd_same, List.map_append, List.map_append]; rfl
      · rw [List.length_append, List.length_append, octs_len, hlc]; show 4 + z.length + 1 < 90000; omega
      · exact ⟨xx.hh.free (hs.free ((same_upd n3).free ((same_upd n4).free ((same_upd n5).free n6.new)))), xx.hh.trans (hs.trans ((same_upd n3).trans ((same_upd n4).trans ((same_upd n5).trans n6.same)))), n6.at_⟩
/-! ### the kinds -/
inductive NumKind : Str → Int → Int → Prop
  | uint : NumKind "uint" 0 4294967295
  | maybe : NumKind "maybe" 0 4294967295
  | int : NumKind "int" (-2147483648) 2147483647
  | object : NumKind "object" 1 4294967295
  | new : NumKind "new" 1 4294967295
inductive AV
  | num (i : Int)
  | txt (s : Str)
  | oct (xs : List Int)
  | bnd (s : Str) (n : Int)
def ArgAt (K : PySem.W.Frag) (H : Hp) (v : V) : AV → Prop
  | .num i => v = .int i
  | .txt s => v = .str s ∧ s.length < 80000
  | .oct xs => ∃ a, v = .ref a ∧ H a = some (.lst (xs.map V.int)) ∧ xs.length < 80000
  | .bnd s n => ∃ a, v = .ref a ∧ SqT K H a [.str s, .int n] ∧ s.length < 80000
theorem ArgAt.to {K : PySem.W.Frag} {H H' : Hp} {v : V} {x : AV} (h : ArgAt K H v x) (s : Same H H') : ArgAt K H' v x := by
  cases x with
  | num i => exact h
  | txt z => exact h
  | oct xs => obtain ⟨a, e, q, l⟩ := h; exact ⟨a, e, s _ _ q, l⟩
  | bnd z n => obtain ⟨a, e, q, l⟩ := h; exact ⟨a, e, s.sqt q, l⟩
def octsOk (xs : List Int) : Bool := decide (xs.length ≤ 16384) && xs.all fun x => decide (0 ≤ x ∧ x ≤ 255)
inductive ArgSpec : Str → AV → Bool → List Int → Prop
  | num {k : Str} {lo hi i : Int} (h : NumKind k lo hi) : ArgSpec k (.num i) (decide (lo ≤ i ∧ i ≤ hi)) (octs (i % 4294967296) 4)
  | txt {s : Str} : ArgSpec "text" (.txt s) (isText s) (textOcts s)
  | oct {xs : List Int} : ArgSpec "octets" (.oct xs) (octsOk xs) (pad (octs xs.length 4 ++ xs))
  | bnd {s : Str} {n : Int} : ArgSpec "bound" (.bnd s n) (isText s && decide (1 ≤ n ∧ n ≤ 4294967295)) (textOcts s ++ octs n 4)
def sp__are_octets (K : PySem.W.Frag) : Sp := fun vs H Q _ => ∃ (a : Addr) (xs : List Int), vs = [.ref a] ∧ H a = some (.lst (xs.map V.int)) ∧ xs.length < 80000 ∧ ∀ H', Same H H' → Q (.bl (octsOk xs)) H'
theorem sc__are_octets : FnScope ["value", "octet"] ["value"] (defScope s__are_octets) := ⟨rfl, rfl, rfl, by decide +kernel, rfl, by decide +kernel, by decide +kernel⟩
theorem ok__are_octets (T : Txt0 P K mg A) : FnOk P w K mg base CX0 2 A.f_are_octets A.d_are_octets ["value"] (sp__are_octets K) := by
  refine T.F_are_octets.ok sc__are_octets (fun vs H Q E h => ?_) (fun cdv Ar outer s H vs Q E hr h => ?_)
  · obtain ⟨a, xs, rfl, _⟩ := h
    rfl
  · obtain ⟨a, xs, rfl, ha, hl, q⟩ := h
    refine ⟨_, (pss_cons (ps_if (PW.pt (pw_or (pt_not (pt_val (pe_callB call_isi (by rfl) T.isinstance (by decide +kernel) (pa_cons (pv 0) (pa_cons (pe_bltn (v := .ty "list") (by rfl) T.list (by decide +kernel) rfl) pa_nil))))) (pw_or1 (pt_cmpR op_gt (pe_callB call_len_seq (by rfl) T.len PySem.boot_len (pa_cons (pv 0) pa_nil)) (pe_glob (v := .int (16384)) rfl T.gMOST_OCTETS_fields ⟨_, rfl⟩) (nomark _)))))
      (pss_one (ps_ret pe_bl))
      pss_nil)
      (pss_one (ps_ret (pe_callB (cr_all rfl) (by rfl) T.all (by decide +kernel) (pa_cons (pe_lc (own := [("octet", 1)]) (g := (gName 1)) (tt := tYes) rfl sc__are_octets.nd (pi_list (pv 0)) (blkOk_by (own := [("octet", 1)]) (N := ["value", "octet"]) (sc := defScope s__are_octets) (by decide +kernel)) (fun _ _ _ _ _ => (pg_name (i := 1) sc__are_octets.nd rfl (Or.inl rfl))) (fun _ _ _ _ _ => pts_nil) (fun _ _ _ _ _ => by exact (pe_call (ok_is_integer T) (hr.mono (by decide)) rfl T.gis_integer T.kis_integer T.bis_integer .nil pass0 (pa_cons (pv 1) (pa_cons pe_int (pa_cons pe_int pa_nil)))))) pa_nil))))), ?_⟩
    refine ⟨_, rfl, .ref a, .ty "list", .type "list", .type "list", true, rfl, .ty _, tyL (K := K) (SqL.of ha), kit_ty (by decide +kernel), _, rfl, if_f rfl ?_⟩
    refine ⟨_, rfl, a, _, rfl, .inl (SqL.of ha), _, _, rfl, rfl, _, rfl, iteP (fun h => ?_) (fun h => ?_)⟩
    · have := q H (Same.refl H)
      unfold octsOk at this
      rw [List.length_map] at h
      rw [decide_eq_false (show ¬ xs.length ≤ 16384 by omega)] at this
      exact this
    · rw [List.length_map] at h
      refine ⟨_, rfl, a, rfl, ⟨_, SqL.of ha⟩, fun D hD => ?_⟩
      refine lc_dp (walk_list (K := K) (a := a) (xs := xs.map V.int)) (K := K) (V0 := H) (H0 := H) (fun i => (xs[i]?).map fun x => PyData.bool (decide (0 ≤ x ∧ x ≤ 255))) [some (.ref a), none] rfl (Same.refl _) hD (by rw [List.length_map]; omega) (fun H' s => s.seq (SqL.of ha)) (fun i x H H' y => y.1) ?_ ?_
      · rintro i x U H1 hi xx ⟨_, hx⟩ Qy Qn hy _
        rw [List.getElem?_map] at hx
        obtain ⟨z, hz, rfl⟩ := Option.map_eq_some_iff.mp hx
        exact ⟨rfl, _, rfl, z, 0, 255, rfl, hy _ _ _ _ (by rw [hz]; rfl) (Ext.refl xx.vh) (.bl _)⟩
      · rintro U H1 _ xx _ _ dl
        rw [List.length_map, show fm (fun i => (xs[i]?).map fun x => PyData.bool (decide (0 ≤ x ∧ x ≤ 255))) xs.length = (xs.map fun x => decide (0 ≤ x ∧ x ≤ 255)).map PyData.bool from by
          rw [List.map_map]; exact fm_list _ _ _ rfl _ fun i x hx => by rw [hx]; rfl] at dl
        refine ⟨D, _, rfl, xx.vh.seq (dp_boolsL dl), ?_⟩
        have := q _ xx.hh
        unfold octsOk at this
        rw [decide_eq_true (show xs.length ≤ 16384 by omega), Bool.true_and] at this
        rw [List.all_map]; exact this
theorem sc__is_of : FnScope ["kind", "value"] ["kind", "value"] (defScope s__is_of) := ⟨rfl, rfl, rfl, by decide +kernel, rfl, by decide +kernel, by decide +kernel⟩
/-- the kinds but bound -/
def sp_is_of0 (K : PySem.W.Frag) : Sp := fun vs H Q _ => ∃ (kind : Str) (v : V) (x : AV) (ok : Bool) (os : List Int), vs = [.str kind, v] ∧ ArgSpec kind x ok os ∧ kind ≠ "bound" ∧ ArgAt K H v x ∧ ∀ H', Same H H' → Q (.bl ok) H'
theorem ok_is_of0 (T : Txt0 P K mg A) : FnOk P w K mg base CX0 3 A.f_is_of A.d_is_of ["kind", "value"] (sp_is_of0 K) := by
  refine T.F_is_of.ok sc__is_of (fun vs H Q E h => ?_) (fun cdv Ar outer s H vs Q E hr h => ?_)
  · obtain ⟨kind, v, x, ok, os, rfl, _⟩ := h
    rfl
  · obtain ⟨kind, v, x, ok, os, rfl, hk, nb, ha, q⟩ := h
    refine ⟨_, (pss_cons (ps_if (PW.pt (pw_or (pt_cmpR op_eq (pv 0) pe_str (nomark _)) (pw_or1 (pt_cmpR op_eq (pv 0) pe_str (nomark _)))))
      (pss_one (ps_ret (pe_call (ok_is_integer T) (hr.mono (by decide)) rfl T.gis_integer T.kis_integer T.bis_integer .nil pass0 (pa_cons (pv 1) (pa_cons pe_int (pa_cons (pe_glob (v := .int (4294967295)) rfl T.gGREATEST_NUMBER ⟨_, rfl⟩) pa_nil))))))
      pss_nil)
      (pss_cons (ps_if (pt_cmpR op_eq (pv 0) pe_str (nomark _))
      (pss_one (ps_ret (pe_call (ok_is_integer T) (hr.mono (by decide)) rfl T.gis_integer T.kis_integer T.bis_integer .nil pass0 (pa_cons (pv 1) (pa_cons (pe_glob (v := .int (-2147483648)) rfl T.gLEAST_INT ⟨_, rfl⟩) (pa_cons (pe_glob (v := .int (2147483647)) rfl T.gGREATEST_INT ⟨_, rfl⟩) pa_nil))))))
      pss_nil)
      (pss_cons (ps_if (PW.pt (pw_or (pt_cmpR op_eq (pv 0) pe_str (nomark _)) (pw_or1 (pt_cmpR op_eq (pv 0) pe_str (nomark _)))))
      (pss_one (ps_ret (pe_call (ok_is_integer T) (hr.mono (by decide)) rfl T.gis_integer T.kis_integer T.bis_integer .nil pass0 (pa_cons (pv 1) (pa_cons pe_int (pa_cons (pe_glob (v := .int (4294967295)) rfl T.gGREATEST_NUMBER ⟨_, rfl⟩) pa_nil))))))
      pss_nil)
      (pss_cons (ps_if (pt_cmpR op_eq (pv 0) pe_str (nomark _))
      (pss_one (ps_ret (pe_and (pe_callB call_isi (by rfl) T.isinstance (by decide +kernel) (pa_cons (pv 1) (pa_cons (pe_bltn (v := .ty "str") (by rfl) T.str (by decide +kernel) rfl) pa_nil))) (pe_one (pe_call (ok_is_text T) (hr.mono (by decide)) rfl T.gis_text T.kis_text T.bis_text .nil pass0 (pa_cons (pv 1) pa_nil))))))
      pss_nil)
      (pss_cons (ps_if (pt_cmpR op_eq (pv 0) pe_str (nomark _))
      (pss_one (ps_ret (pe_call (ok__are_octets T) (hr.mono (by decide)) rfl T.g_are_octets T.k_are_octets T.b_are_octets .nil pass0 (pa_cons (pv 1) pa_nil))))
      pss_nil)
      (pss_one ps_never)))))), ?_⟩
    have q0 := q H (Same.refl H)
    cases hk with
    | num h =>
      rename_i lo hi i
      obtain rfl : v = .int i := ha
      cases h with
      | uint => exact ⟨_, rfl, rfl, _, rfl, if_t (by decide +kernel) (if_t rfl ⟨_, rfl, _, _, _, rfl, q0⟩)⟩
      | maybe => exact ⟨_, rfl, rfl, _, rfl, if_f (by decide +kernel) ⟨_, rfl, rfl, _, rfl, if_t (by decide +kernel) ⟨_, rfl, _, _, _, rfl, q0⟩⟩⟩
      | int =>
        refine ⟨_, rfl, rfl, _, rfl, if_f (by decide +kernel) ⟨_, rfl, rfl, _, rfl, if_f (by decide +kernel) ?_⟩⟩
        exact ⟨_, rfl, rfl, _, rfl, if_t (by decide +kernel) ⟨_, rfl, _, _, _, rfl, q0⟩⟩
      | object =>
        refine ⟨_, rfl, rfl, _, rfl, if_f (by decide +kernel) ⟨_, rfl, rfl, _, rfl, if_f (by decide +kernel) ?_⟩⟩
        refine ⟨_, rfl, rfl, _, rfl, if_f (by decide +kernel) ⟨_, rfl, rfl, _, rfl, if_t (by decide +kernel) (if_t rfl ⟨_, rfl, _, _, _, rfl, q0⟩)⟩⟩
      | new =>
        refine ⟨_, rfl, rfl, _, rfl, if_f (by decide +kernel) ⟨_, rfl, rfl, _, rfl, if_f (by decide +kernel) ?_⟩⟩
        refine ⟨_, rfl, rfl, _, rfl, if_f (by decide +kernel) ⟨_, rfl, rfl, _, rfl, if_f (by decide +kernel) ⟨_, rfl, rfl, _, rfl, if_t (by decide +kernel) ⟨_, rfl, _, _, _, rfl, q0⟩⟩⟩⟩
    | txt =>
      rename_i s
      obtain ⟨rfl, hl⟩ := ha
      refine ⟨_, rfl, rfl, _, rfl, if_f (by decide +kernel) ⟨_, rfl, rfl, _, rfl, if_f (by decide +kernel) ?_⟩⟩
      refine ⟨_, rfl, rfl, _, rfl, if_f (by decide +kernel) ⟨_, rfl, rfl, _, rfl, if_f (by decide +kernel) ⟨_, rfl, rfl, _, rfl, if_f (by decide +kernel) ?_⟩⟩⟩
      refine ⟨_, rfl, rfl, _, rfl, if_t (by decide +kernel) ?_⟩
      exact ⟨_, rfl, .str s, .ty "str", .type "str", .type "str", true, rfl, .ty _, .base (.str _), kit_ty (by decide +kernel), _, rfl, if_t rfl ⟨_, rfl, s, rfl, by omega, q⟩⟩
    | oct =>
      rename_i xs
      obtain ⟨a, rfl, ha, hl⟩ := ha
      refine ⟨_, rfl, rfl, _, rfl, if_f (by decide +kernel) ⟨_, rfl, rfl, _, rfl, if_f (by decide +kernel) ?_⟩⟩
      refine ⟨_, rfl, rfl, _, rfl, if_f (by decide +kernel) ⟨_, rfl, rfl, _, rfl, if_f (by decide +kernel) ⟨_, rfl, rfl, _, rfl, if_f (by decide +kernel) ?_⟩⟩⟩
      refine ⟨_, rfl, rfl, _, rfl, if_f (by decide +kernel) ?_⟩
      exact ⟨_, rfl, rfl, _, rfl, if_t (by decide +kernel) ⟨_, rfl, a, xs, rfl, ha, hl, q⟩⟩
    | bnd => exact absurd rfl nb
def sp__is_bound (K : PySem.W.Frag) : Sp := fun vs H Q _ => ∃ (a : Addr) (s : Str) (n : Int), vs = [.ref a] ∧ SqT K H a [.str s, .int n] ∧ s.length < 80000 ∧ ∀ H', Same H H' → Q (.bl (isText s && decide (1 ≤ n ∧ n ≤ 4294967295))) H'
theorem sc__is_bound : FnScope ["value"] ["value"] (defScope s__is_bound) := ⟨rfl, rfl, rfl, by decide +kernel, rfl, by decide +kernel, by decide +kernel⟩
theorem ok__is_bound (T : Txt0 P K mg A) : FnOk P w K mg base CX0 4 A.f_is_bound A.d_is_bound ["value"] (sp__is_bound K) := by
  refine T.F_is_bound.ok sc__is_bound (fun vs H Q E h => ?_) (fun cdv Ar outer s H vs Q E hr h => ?_)
  · obtain ⟨a, s, n, rfl, _⟩ := h
    rfl
  · obtain ⟨a, z, n, rfl, ha, hl, q⟩ := h
    have ok__is_of : ∀ {A' : Adr} (T : Txt0 P K mg A'), FnOk P w K mg base CX0 3 A'.f_is_of A'.d_is_of ["kind", "value"] (sp_is_of0 K) := fun T => ok_is_of0 T
    refine ⟨_, (pss_cons (ps_if (PW.pt (pw_or (pt_not (pt_val (pe_callB call_isi (by rfl) T.isinstance (by decide +kernel) (pa_cons (pv 0) (pa_cons (pe_bltn (v := .ty "tuple") (by rfl) T.tuple (by decide +kernel) rfl) pa_nil))))) (pw_or1 (pt_cmpR op_ne (pe_callB call_len_seq (by rfl) T.len PySem.boot_len (pa_cons (pv 0) pa_nil)) pe_int (nomark _)))))
      (pss_one (ps_ret pe_bl))
      pss_nil)
      (pss_one (ps_ret (pe_and (pe_call (ok__is_of T) (hr.mono (by decide)) rfl T.g_is_of T.k_is_of T.b_is_of .nil pass0 (pa_cons pe_str (pa_cons (pe_ix (r := rIxT K) ix_tup (pv 0) pe_int (fun _ _ => rfl)) pa_nil))) (pe_one (pe_call (ok__is_of T) (hr.mono (by decide)) rfl T.g_is_of T.k_is_of T.b_is_of .nil pass0 (pa_cons pe_str (pa_cons (pe_ix (r := rIxT K) ix_tup (pv 0) pe_int (fun _ _ => rfl)) pa_nil)))))))), ?_⟩
    refine ⟨_, rfl, .ref a, .ty "tuple", .type "tuple", .type "tuple", true, rfl, .ty _, tyT ha, kit_ty (by decide +kernel), _, rfl, if_f rfl ?_⟩
    refine ⟨_, rfl, a, _, rfl, .inr ha, rfl, _, rfl, if_f rfl ?_⟩
    refine ⟨_, rfl, a, _, 0, .str z, rfl, rfl, ha, atI_nat (j := 0) rfl, "text", .str z, .txt z, isText z, _, rfl, .txt, by decide +kernel, ⟨rfl, hl⟩, fun H' s => ⟨_, rfl, if_b (fun c => ?_) (fun c => ?_)⟩⟩
    · refine ⟨_, rfl, a, _, 1, .int n, rfl, rfl, s.sqt ha, atI_nat (j := 1) rfl, "new", .int n, .num n, _, _, rfl, .num .new, by decide +kernel, rfl, fun H2 s2 => ?_⟩
      have := q H2 (s.trans s2)
      rw [c, Bool.true_and] at this
      exact this
    · have := q H' s
      rw [c, Bool.false_and] at this
      exact this
def sp__is_of (K : PySem.W.Frag) : Sp := fun vs H Q _ => ∃ (kind : Str) (v : V) (x : AV) (ok : Bool) (os : List Int), vs = [.str kind, v] ∧ ArgSpec kind x ok os ∧ ArgAt K H v x ∧ ∀ H', Same H H' → Q (.bl ok) H'
theorem ok__is_of (T : Txt0 P K mg A) : FnOk P w K mg base CX0 5 A.f_is_of A.d_is_of ["kind", "value"] (sp__is_of K) := by
  refine T.F_is_of.ok sc__is_of (fun vs H Q E h => ?_) (fun cdv Ar outer s H vs Q E hr h => ?_)
  · obtain ⟨kind, v, x, ok, os, rfl, _⟩ := h
    rfl
  · obtain ⟨kind, v, x, ok, os, rfl, hk, ha, q⟩ := h
    refine ⟨_, (pss_cons (ps_if (PW.pt (pw_or (pt_cmpR op_eq (pv 0) pe_str (nomark _)) (pw_or1 (pt_cmpR op_eq (pv 0) pe_str (nomark _)))))
      (pss_one (ps_ret (pe_call (ok_is_integer T) (hr.mono (by decide)) rfl T.gis_integer T.kis_integer T.bis_integer .nil pass0 (pa_cons (pv 1) (pa_cons pe_int (pa_cons (pe_glob (v := .int (4294967295)) rfl T.gGREATEST_NUMBER ⟨_, rfl⟩) pa_nil))))))
      pss_nil)
      (pss_cons (ps_if (pt_cmpR op_eq (pv 0) pe_str (nomark _))
      (pss_one (ps_ret (pe_call (ok_is_integer T) (hr.mono (by decide)) rfl T.gis_integer T.kis_integer T.bis_integer .nil pass0 (pa_cons (pv 1) (pa_cons (pe_glob (v := .int (-2147483648)) rfl T.gLEAST_INT ⟨_, rfl⟩) (pa_cons (pe_glob (v := .int (2147483647)) rfl T.gGREATEST_INT ⟨_, rfl⟩) pa_nil))))))
      pss_nil)
      (pss_cons (ps_if (PW.pt (pw_or (pt_cmpR op_eq (pv 0) pe_str (nomark _)) (pw_or1 (pt_cmpR op_eq (pv 0) pe_str (nomark _)))))
      (pss_one (ps_ret (pe_call (ok_is_integer T) (hr.mono (by decide)) rfl T.gis_integer T.kis_integer T.bis_integer .nil pass0 (pa_cons (pv 1) (pa_cons pe_int (pa_cons (pe_glob (v := .int (4294967295)) rfl T.gGREATEST_NUMBER ⟨_, rfl⟩) pa_nil))))))
      pss_nil)
      (pss_cons (ps_if (pt_cmpR op_eq (pv 0) pe_str (nomark _))
      (pss_one (ps_ret (pe_and (pe_callB call_isi (by rfl) T.isinstance (by decide +kernel) (pa_cons (pv 1) (pa_cons (pe_bltn (v := .ty "str") (by rfl) T.str (by decide +kernel) rfl) pa_nil))) (pe_one (pe_call (ok_is_text T) (hr.mono (by decide)) rfl T.gis_text T.kis_text T.bis_text .nil pass0 (pa_cons (pv 1) pa_nil))))))
      pss_nil)
      (pss_cons (ps_if (pt_cmpR op_eq (pv 0) pe_str (nomark _))
      (pss_one (ps_ret (pe_call (ok__are_octets T) (hr.mono (by decide)) rfl T.g_are_octets T.k_are_octets T.b_are_octets .nil pass0 (pa_cons (pv 1) pa_nil))))
      pss_nil)
      (pss_one (ps_ret (pe_and (pe_cmpR op_eq (pv 0) pe_str (nomark _)) (pe_one (pe_call (ok__is_bound T) (hr.mono (by decide)) rfl T.g_is_bound T.k_is_bound T.b_is_bound .nil pass0 (pa_cons (pv 1) pa_nil))))))))))), ?_⟩
    have q0 := q H (Same.refl H)
    cases hk with
    | num h =>
      rename_i lo hi i
      obtain rfl : v = .int i := ha
      cases h with
      | uint => exact ⟨_, rfl, rfl, _, rfl, if_t (by decide +kernel) (if_t rfl ⟨_, rfl, _, _, _, rfl, q0⟩)⟩
      | maybe => exact ⟨_, rfl, rfl, _, rfl, if_f (by decide +kernel) ⟨_, rfl, rfl, _, rfl, if_t (by decide +kernel) ⟨_, rfl, _, _, _, rfl, q0⟩⟩⟩
      | int =>
        refine ⟨_, rfl, rfl, _, rfl, if_f (by decide +kernel) ⟨_, rfl, rfl, _, rfl, if_f (by decide +kernel) ?_⟩⟩
        exact ⟨_, rfl, rfl, _, rfl, if_t (by decide +kernel) ⟨_, rfl, _, _, _, rfl, q0⟩⟩
      | object =>
        refine ⟨_, rfl, rfl, _, rfl, if_f (by decide +kernel) ⟨_, rfl, rfl, _, rfl, if_f (by decide +kernel) ?_⟩⟩
        refine ⟨_, rfl, rfl, _, rfl, if_f (by decide +kernel) ⟨_, rfl, rfl, _, rfl, if_t (by decide +kernel) (if_t rfl ⟨_, rfl, _, _, _, rfl, q0⟩)⟩⟩
      | new =>
        refine ⟨_, rfl, rfl, _, rfl, if_f (by decide +kernel) ⟨_, rfl, rfl, _, rfl, if_f (by decide +kernel) ?_⟩⟩
        refine ⟨_, rfl, rfl, _, rfl, if_f (by decide +kernel) ⟨_, rfl, rfl, _, rfl, if_f (by decide +kernel) ⟨_, rfl, rfl, _, rfl, if_t (by decide +kernel) ⟨_, rfl, _, _, _, rfl, q0⟩⟩⟩⟩
    | txt =>
      rename_i s
      obtain ⟨rfl, hl⟩ := ha
      refine ⟨_, rfl, rfl, _, rfl, if_f (by decide +kernel) ⟨_, rfl, rfl, _, rfl, if_f (by decide +kernel) ?_⟩⟩
      refine ⟨_, rfl, rfl, _, rfl, if_f (by decide +kernel) ⟨_, rfl, rfl, _, rfl, if_f (by decide +kernel) ⟨_, rfl, rfl, _, rfl, if_f (by decide +kernel) ?_⟩⟩⟩
      refine ⟨_, rfl, rfl, _, rfl, if_t (by decide +kernel) ?_⟩
      exact ⟨_, rfl, .str s, .ty "str", .type "str", .type "str", true, rfl, .ty _, .base (.str _), kit_ty (by decide +kernel), _, rfl, if_t rfl ⟨_, rfl, s, rfl, by omega, q⟩⟩
    | oct =>
      rename_i xs
      obtain ⟨a, rfl, ha, hl⟩ := ha
      refine ⟨_, rfl, rfl, _, rfl, if_f (by decide +kernel) ⟨_, rfl, rfl, _, rfl, if_f (by decide +kernel) ?_⟩⟩
      refine ⟨_, rfl, rfl, _, rfl, if_f (by decide +kernel) ⟨_, rfl, rfl, _, rfl, if_f (by decide +kernel) ⟨_, rfl, rfl, _, rfl, if_f (by decide +kernel) ?_⟩⟩⟩
      refine ⟨_, rfl, rfl, _, rfl, if_f (by decide +kernel) ?_⟩
      exact ⟨_, rfl, rfl, _, rfl, if_t (by decide +kernel) ⟨_, rfl, a, xs, rfl, ha, hl, q⟩⟩
    | bnd =>
      rename_i z n
      obtain ⟨a, rfl, ha, hl⟩ := ha
      refine ⟨_, rfl, rfl, _, rfl, if_f (by decide +kernel) ⟨_, rfl, rfl, _, rfl, if_f (by decide +kernel) ?_⟩⟩
      refine ⟨_, rfl, rfl, _, rfl, if_f (by decide +kernel) ⟨_, rfl, rfl, _, rfl, if_f (by decide +kernel) ⟨_, rfl, rfl, _, rfl, if_f (by decide +kernel) ?_⟩⟩⟩
      refine ⟨_, rfl, rfl, _, rfl, if_f (by decide +kernel) ?_⟩
      refine ⟨_, rfl, rfl, _, rfl, if_f (by decide +kernel) ?_⟩
      exact ⟨_, rfl, rfl, _, rfl, if_t (by decide +kernel) ⟨_, rfl, a, z, n, rfl, ha, hl, q⟩⟩
/-- field_octets: a new list, or BadMessage -/
def sp_field_octets (K : PySem.W.Frag) (C : Addr) : Sp := fun vs H Q E => ∃ (kind : Str) (v : V) (x : AV) (ok : Bool) (os : List Int), vs = [.str kind, v] ∧ ArgSpec kind x ok os ∧ ArgAt K H v x ∧
  (ok = true → ∀ p H', NewL H H' p (os.map V.int) → Q (.ref p) H') ∧ (ok = false → ∀ H', Same H H' → E (.ref C) none H')
theorem sc_field_octets : FnScope ["kind", "value", "text", "number"] ["kind", "value"] (defScope s_field_octets) := ⟨rfl, rfl, rfl, by decide +kernel, rfl, by decide +kernel, by decide +kernel⟩
theorem ok_field_octets (T : Txt0 P K mg A) : FnOk P w K mg base (L2.CX P w) 6 A.ffield_octets A.dfield_octets ["kind", "value"] (sp_field_octets K A.CBadMessage) := by
  refine T.Ffield_octets.okX sc_field_octets (fun vs H Q E h => ?_) (fun cdv Ar outer s H vs Q E hr h => ?_)
  · obtain ⟨kind, v, x, ok, os, rfl, _⟩ := h
    rfl
  · obtain ⟨kind, v, x, ok, os, rfl, hk, ha, q, e⟩ := h
    refine ⟨_, (pss_cons (ps_if (pt_not (pt_val (pe_call (ok__is_of T) (hr.mono (by decide)) rfl T.g_is_of T.k_is_of T.b_is_of .nil pass0 (pa_cons (pv 0) (pa_cons (pv 1) pa_nil)))))
      (pss_one (ps_raise rfl (takes_of rfl rfl rfl rfl) (pmk_own PySem.F.excBase_ValueError T.xBadMessage T.gBadMessage T.kBadMessage (raises_own T.bxBadMessage T.txBadMessage) rfl)))
      pss_nil)
      (pss_cons (ps_if (pt_cmpR op_eq (pv 0) pe_str (nomark _))
      (pss_one (ps_ret (pe_call (ok__text_octets T) (hr.mono (by decide)) rfl T.g_text_octets T.k_text_octets T.b_text_octets .nil pass0 (pa_cons (pv 1) pa_nil))))
      pss_nil)
      (pss_cons (ps_if (pt_cmpR op_eq (pv 0) pe_str (nomark _))
      (pss_one (ps_ret (pe_call (ok__padded T) (hr.mono (by decide)) rfl T.g_padded T.k_padded T.b_padded .nil pass0 (pa_cons (pe_op op_cat (pe_call (ok_number_octets T) (hr.mono (by decide)) rfl T.gnumber_octets T.knumber_octets T.bnumber_octets .nil pass0 (pa_cons (pe_callB call_len_seq (by rfl) T.len PySem.boot_len (pa_cons (pv 1) pa_nil)) (pa_cons pe_int pa_nil))) (pv 1)) pa_nil))))
      pss_nil)
      (pss_cons (ps_if (pt_cmpR op_eq (pv 0) pe_str (nomark _))
      (pss_cons (ps_asg (pv 1) (pg_tup rfl (pgs_cons (pg_name (i := 2) sc_field_octets.nd rfl (Or.inl rfl)) (pgs_cons (pg_name (i := 3) sc_field_octets.nd rfl (Or.inl rfl)) pgs_nil))))
      (pss_one (ps_ret (pe_op op_cat (pe_call (ok__text_octets T) (hr.mono (by decide)) rfl T.g_text_octets T.k_text_octets T.b_text_octets .nil pass0 (pa_cons (pv 2) pa_nil)) (pe_call (ok_number_octets T) (hr.mono (by decide)) rfl T.gnumber_octets T.knumber_octets T.bnumber_octets .nil pass0 (pa_cons (pv 3) (pa_cons pe_int pa_nil)))))))
      pss_nil)
      (pss_one (ps_ret (pe_call (ok_number_octets T) (hr.mono (by decide)) rfl T.gnumber_octets T.knumber_octets T.bnumber_octets .nil pass0 (pa_cons (pe_op op_mod (pv 1) (pe_op op_pow pe_int pe_int)) (pa_cons pe_int pa_nil))))))))), ?_⟩
    refine ⟨_, rfl, _, rfl, kind, v, x, ok, os, rfl, hk, ha, fun H1 s1 => ⟨_, rfl, if_b (fun c => ?_) (fun c => ?_)⟩⟩
    · refine e ?_ H1 s1
      cases ok
      · rfl
      · cases c
    have hok : ok = true := by cases ok; · cases c
                               · rfl
    replace q : ∀ p H', NewL H H' p (os.map V.int) → Q (.ref p) H' := q hok
    replace ha := ha.to s1
    clear e c
    cases hk with
    | num h =>
      rename_i lo hi i
      obtain rfl : v = .int i := ha
      have hne : kind ≠ "text" ∧ kind ≠ "octets" ∧ kind ≠ "bound" := by cases h <;> exact ⟨by decide +kernel, by decide +kernel, by decide +kernel⟩
      refine ⟨_, rfl, rfl, _, rfl, if_f (decide_eq_false fun z => hne.1 (V.str.inj z)) ?_⟩
      refine ⟨_, rfl, rfl, _, rfl, if_f (decide_eq_false fun z => hne.2.1 (V.str.inj z)) ?_⟩
      refine ⟨_, rfl, rfl, _, rfl, if_f (decide_eq_false fun z => hne.2.2 (V.str.inj z)) ?_⟩
      refine ⟨_, rfl, _, _, rfl, rfl, ⟨by decide, by decide, by decide⟩, _, _, rfl, rfl, by show (0 : Int) < 2 ^ (32 : Int).toNat; decide +kernel, ?_⟩
      have e2 : i % 2 ^ (32 : Int).toNat = i % 4294967296 := by rw [show (2 : Int) ^ (32 : Int).toNat = 4294967296 by decide +kernel]
      refine ⟨_, 4, rfl, ?_, by decide, ?_⟩
      · rw [e2]; omega
      · rw [e2]; exact fun p H' hp hs he => q p H' ⟨s1.free hp, s1.trans hs, he⟩
    | txt =>
      rename_i z
      obtain ⟨rfl, hl⟩ := ha
      refine ⟨_, rfl, rfl, _, rfl, if_t (by decide +kernel) ⟨_, rfl, z, rfl, hl, fun p H' n => q p H' ⟨s1.free n.new, s1.trans n.same, n.at_⟩⟩⟩
    | oct =>
      rename_i xs
      obtain ⟨a, rfl, ha, hl⟩ := ha
      refine ⟨_, rfl, rfl, _, rfl, if_f (by decide +kernel) ⟨_, rfl, rfl, _, rfl, if_t (by decide +kernel) ?_⟩⟩
      refine ⟨_, rfl, a, _, rfl, .inl (SqL.of ha), _, 4, rfl, by omega, by decide, fun p H2 hp hs he => ?_⟩
      rw [List.length_map] at he
      refine ⟨_, rfl, p, a, _, _, rfl, rfl, he, hs _ _ ha, ?_, fun p3 n3 => ?_⟩
      · rw [List.length_map, List.length_map, octs_len]; exact len_line (by omega)
      refine ⟨p3, octs xs.length 4 ++ xs, rfl, by rw [upd_same, List.map_append], by rw [List.length_append, octs_len]; omega, fun p4 H4 n4 => q p4 H4 ?_⟩
      exact ⟨s1.free (hs.free ((same_upd n3).free n4.new)), s1.trans (hs.trans ((same_upd n3).trans n4.same)), n4.at_⟩
    | bnd =>
      rename_i z n
      obtain ⟨a, rfl, ha, hl⟩ := ha
      refine ⟨_, rfl, rfl, _, rfl, if_f (by decide +kernel) ⟨_, rfl, rfl, _, rfl, if_f (by decide +kernel) ⟨_, rfl, rfl, _, rfl, if_t (by decide +kernel) ?_⟩⟩⟩
      refine ⟨_, rfl, a, _, rfl, ha, rfl, _, _, rfl, _, _, rfl, rfl, ?_⟩
      refine ⟨_, rfl, z, rfl, hl, fun p2 H2 n2 => ?_⟩
      refine ⟨_, rfl, n, 4, rfl, ?_, by decide, fun p3 H3 n3 s3 e3 => ?_⟩
      · have h2 := (Bool.and_eq_true_iff.mp hok).2
        have h3 := of_decide_eq_true h2
        omega
      refine ⟨p2, p3, _, _, rfl, rfl, s3 _ _ n2.at_, e3, ?_, fun p4 n4 => q p4 _ ⟨?_, ?_, ?_⟩⟩
      · rw [List.length_map, List.length_map, octs_len]; have := textOcts_len z; exact len_line (by omega)
      · exact s1.free (n2.same.free (s3.free n4))
      · exact s1.trans (n2.same.trans (s3.trans (same_upd n4)))
      · rw [upd_same, List.map_append]
/-! ### arguments: kind, value, octets -/
structure Arg where
  kind : Str
  val : AV
  os : List Int
def bodyOf (args : List Arg) : List Int := args.flatMap Arg.os
theorem body_take {args : List Arg} {i : Nat} {g : Arg} (h : args[i]? = some g) : bodyOf (args.take (i + 1)) = bodyOf (args.take i) ++ g.os := fl_take' Arg.os args i g h
theorem body_le (args : List Arg) (i : Nat) : (bodyOf (args.take i)).length ≤ (bodyOf args).length := fl_le' Arg.os args i
theorem body_len_le {args : List Arg} {c : Nat} (h : ∀ g ∈ args, g.os.length ≤ c) : (bodyOf args).length ≤ c * args.length := by
  induction args with
  | nil => exact Nat.zero_le _
  | cons g r ih =>
    show (g.os ++ bodyOf r).length ≤ c * (r.length + 1)
    rw [List.length_append, Nat.mul_succ]
    have := ih fun x hx => h x (List.mem_cons_of_mem _ hx)
    have := h g List.mem_cons_self
    omega
/-! ### encode_message -/
/-- the list of the arguments, all of them of their kinds -/
structure ArgsAt (K : PySem.W.Frag) (H : Hp) (a : Addr) (args : List Arg) : Prop where
  ex : ∃ xs : List V, SqL K H a xs ∧ xs.length = args.length ∧ ∀ (i : Nat) (x : V), xs[i]? = some x → ∃ (g : Arg) (t : Addr) (v : V), args[i]? = some g ∧ x = .ref t ∧ SqT K H t [.str g.kind, v] ∧ ArgAt K H v g.val
  ok : ∀ g ∈ args, ArgSpec g.kind g.val true g.os
theorem ArgsAt.to {K : PySem.W.Frag} {H H' : Hp} {a : Addr} {args : List Arg} (h : ArgsAt K H a args) (s : Same H H') : ArgsAt K H' a args := by
  obtain ⟨xs, h1, h2, h3⟩ := h.ex
  refine ⟨⟨xs, s.seq h1, h2, fun i x hx => ?_⟩, h.ok⟩
  obtain ⟨g, t, v, e1, e2, e3, e4⟩ := h3 i x hx
  exact ⟨g, t, v, e1, e2, s.sqt e3, e4.to s⟩
def msgOcts (n o : Int) (body : List Int) : List Int := octs n 4 ++ octs o 2 ++ octs ((8 + body.length : Nat) : Int) 2 ++ body
def encBad (n o : Int) (args : List Arg) : Prop := ¬ (1 ≤ n ∧ n ≤ 4294967295) ∨ ¬ (0 ≤ o ∧ o ≤ 65535) ∨ 20 < args.length
def encLong (args : List Arg) : Prop := 20480 < 8 + (bodyOf args).length
def sp_encode_message (K : PySem.W.Frag) (B L : Addr) : Sp := fun vs H Q E => ∃ (n o : Int) (a : Addr) (args : List Arg), vs = [.int n, .int o, .ref a] ∧ ArgsAt K H a args ∧ (bodyOf args).length < 60000 ∧ args.length < 60000 ∧
  (encBad n o args → ∀ H', Same H H' → E (.ref B) none H') ∧ (¬ encBad n o args → encLong args → ∀ H', Same H H' → E (.ref L) none H') ∧
  (¬ encBad n o args → ¬ encLong args → ∀ p H', NewL H H' p ((msgOcts n o (bodyOf args)).map V.int) → Q (.ref p) H')
theorem sc_encode_message : FnScope ["number", "opcode", "arguments", "body", "kind", "value", "size"] ["number", "opcode", "arguments"] (defScope s_encode_message) := ⟨rfl, rfl, rfl, by decide +kernel, rfl, by decide +kernel, by decide +kernel⟩
theorem ok_encode_message (T : Txt0 P K mg A) : FnOk P w K mg base (L2.CX P w) 7 A.fencode_message A.dencode_message ["number", "opcode", "arguments"] (sp_encode_message K A.CBadMessage A.CMessageTooLong) := by
  refine T.Fencode_message.okX sc_encode_message (fun vs H Q E h => ?_) (fun cdv Ar outer s H vs Q E hr h => ?_)
  · obtain ⟨n, o, a, args, rfl, _⟩ := h
    rfl
  · obtain ⟨n, o, a, args, rfl, hA, hb, hl, qb, ql, q⟩ := h
    obtain ⟨xs, hS, hxl, hx⟩ := hA.ex
    refine ⟨_, (pss_cons (ps_if (pt_not (pt_val (pe_call (ok_is_integer T) (hr.mono (by decide)) rfl T.gis_integer T.kis_integer T.bis_integer .nil pass0 (pa_cons (pv 0) (pa_cons pe_int (pa_cons (pe_glob (v := .int (4294967295)) rfl T.gGREATEST_NUMBER ⟨_, rfl⟩) pa_nil))))))
      (pss_one (ps_raise rfl (takes_of rfl rfl rfl rfl) (pmk_own PySem.F.excBase_ValueError T.xBadMessage T.gBadMessage T.kBadMessage (raises_own T.bxBadMessage T.txBadMessage) rfl)))
      pss_nil)
      (pss_cons (ps_if (pt_not (pt_val (pe_call (ok_is_integer T) (hr.mono (by decide)) rfl T.gis_integer T.kis_integer T.bis_integer .nil pass0 (pa_cons (pv 1) (pa_cons pe_int (pa_cons (pe_glob (v := .int (65535)) rfl T.gGREATEST_OPCODE ⟨_, rfl⟩) pa_nil))))))
      (pss_one (ps_raise rfl (takes_of rfl rfl rfl rfl) (pmk_own PySem.F.excBase_ValueError T.xBadMessage T.gBadMessage T.kBadMessage (raises_own T.bxBadMessage T.txBadMessage) rfl)))
      pss_nil)
      (pss_cons (ps_if (pt_cmpR op_gt (pe_callB call_len_seq (by rfl) T.len PySem.boot_len (pa_cons (pv 2) pa_nil)) (pe_glob (v := .int (20)) rfl T.gMOST_ARGUMENTS ⟨_, rfl⟩) (nomark _))
      (pss_one (ps_raise rfl (takes_of rfl rfl rfl rfl) (pmk_own PySem.F.excBase_ValueError T.xBadMessage T.gBadMessage T.kBadMessage (raises_own T.bxBadMessage T.txBadMessage) rfl)))
      pss_nil)
      (pss_cons (ps_set (i := 3) sc_encode_message.nd rfl (Or.inl rfl) (pe_lst pa_nil))
      (pss_cons (ps_for (passes_of rfl) rfl (pi_list (pv 2)) (pg_tup rfl (pgs_cons (pg_name (i := 4) sc_encode_message.nd rfl (Or.inl rfl)) (pgs_cons (pg_name (i := 5) sc_encode_message.nd rfl (Or.inl rfl)) pgs_nil)))
      (pss_one (ps_expr (pe_bm PySem.F.plainAttrs_list PySem.F.slot_list_extend PySem.F.type_list_extend mt_extend (pv 3) (pa_cons (pe_call (ok_field_octets T) (hr.mono (by decide)) rfl T.gfield_octets T.kfield_octets T.bfield_octets .nil (passes_call (takes_of rfl rfl rfl rfl) (fun _ _ _ _ h => h)) (pa_cons (pv 4) (pa_cons (pv 5) pa_nil))) pa_nil)))))
      (pss_cons (ps_set (i := 6) sc_encode_message.nd rfl (Or.inl rfl) (pe_op op_add (pe_glob (v := .int (8)) rfl T.gHEADER_SIZE ⟨_, rfl⟩) (pe_callB call_len_seq (by rfl) T.len PySem.boot_len (pa_cons (pv 3) pa_nil))))
      (pss_cons (ps_if (pt_cmpR op_gt (pv 6) (pe_glob (v := .int (20480)) rfl T.gGREATEST_SIZE ⟨_, rfl⟩) (nomark _))
      (pss_one (ps_raise rfl (takes_of rfl rfl rfl rfl) (pmk_own PySem.F.excBase_ValueError T.xMessageTooLong T.gMessageTooLong T.kMessageTooLong (raises_own T.bxMessageTooLong T.txMessageTooLong) rfl)))
      pss_nil)
      (pss_one (ps_ret (pe_op op_cat (pe_op op_cat (pe_op op_cat (pe_call (ok_number_octets T) (hr.mono (by decide)) rfl T.gnumber_octets T.knumber_octets T.bnumber_octets .nil pass0 (pa_cons (pv 0) (pa_cons pe_int pa_nil))) (pe_call (ok_number_octets T) (hr.mono (by decide)) rfl T.gnumber_octets T.knumber_octets T.bnumber_octets .nil pass0 (pa_cons (pv 1) (pa_cons pe_int pa_nil)))) (pe_call (ok_number_octets T) (hr.mono (by decide)) rfl T.gnumber_octets T.knumber_octets T.bnumber_octets .nil pass0 (pa_cons (pv 6) (pa_cons pe_int pa_nil)))) (pv 3))))))))))), ?_⟩
    refine ⟨_, rfl, n, 1, 4294967295, rfl, _, rfl, iteN (fun c => qb (Or.inl c) H (Same.refl H)) (fun c1 => ?_)⟩
    refine ⟨_, rfl, o, 0, 65535, rfl, _, rfl, iteN (fun c => qb (Or.inr (Or.inl c)) H (Same.refl H)) (fun c2 => ?_)⟩
    refine ⟨_, rfl, a, _, rfl, .inl hS, _, _, rfl, rfl, _, rfl, iteP (fun c => qb (Or.inr (Or.inr (by omega))) H (Same.refl H)) (fun c3 => ?_)⟩
    have nb : ¬ encBad n o args := fun z => by
      rcases z with z | z | z
      · exact z c1
      · exact z c2
      · omega
    refine ⟨by decide, fun p hp => ?_⟩
    refine ⟨_, rfl, a, rfl, ⟨_, (same_upd hp).seq hS⟩, for_list (K := K) (a := a) (xs := xs) (fun i σ H' => ∃ v4 v5 : Option V, σ = [some (.int n), some (.int o), some (.ref a), some (.ref p), v4, v5, none] ∧ Same H H' ∧ H' p = some (.lst ((bodyOf (args.take i)).map V.int)))
      ⟨_, _, rfl, same_upd hp, upd_same⟩ (fun i σ H' _ ⟨_, _, _, s, _⟩ => s.seq hS) ?_ ?_⟩
    · rintro i x σ H1 hi ⟨v4, v5, rfl, s1, e1⟩
      obtain ⟨g, t, v, hg, rfl, ht, hv⟩ := hx i x hi
      refine ⟨t, _, rfl, s1.sqt ht, rfl, _, _, rfl, _, _, rfl, rfl, ?_⟩
      refine ⟨_, rfl, .inl ⟨rfl, _, SqL.of e1⟩, ?_⟩
      refine ⟨_, rfl, _, rfl, g.kind, v, g.val, true, g.os, rfl, hA.ok g (List.mem_of_getElem? hg), hv.to s1, fun _ p2 H2 n2 => ?_, fun z => nomatch z⟩
      have e2 := n2.same _ _ e1
      have hbt := body_take hg
      have hbl := body_le args (i + 1)
      rw [hbt, List.length_append] at hbl
      refine ⟨p, p2, _, _, rfl, rfl, e2, n2.at_, ?_, ?_⟩
      · rw [List.length_map, List.length_map]; exact len_line (by omega)
      refine ⟨_, _, rfl, fun b u e => ?_, ?_⟩
      · rw [upd_ne (ne_of_none e hp)]; exact n2.same _ _ (s1 b u e)
      · rw [upd_same, hbt, List.map_append]
    · rintro σ H1 ⟨v4, v5, rfl, s1, e1⟩
      rw [hxl, List.take_length] at e1
      refine ⟨_, rfl, p, _, rfl, .inl (SqL.of e1), _, _, rfl, rfl, ?_⟩
      rw [List.length_map]
      have ec : (8 : Int) + ((bodyOf args).length : Int) = ((8 + (bodyOf args).length : Nat) : Int) := by omega
      refine ⟨_, rfl, _, _, rfl, rfl, _, rfl, iteP (fun c => ?_) (fun c => ?_)⟩
      · exact ql nb (by show 20480 < _; have : (20480 : Int) < 8 + ((bodyOf args).length : Int) := c; omega) H1 s1
      have nl : ¬ encLong args := fun z => c (by show (20480 : Int) < 8 + ((bodyOf args).length : Int); have : 20480 < 8 + (bodyOf args).length := z; omega)
      refine ⟨_, rfl, n, 4, rfl, by omega, by decide, fun p2 H2 h2 s2 e2 => ?_⟩
      refine ⟨_, rfl, o, 2, rfl, by omega, by decide, fun p3 H3 h3 s3 e3 => ?_⟩
      refine ⟨p2, p3, _, _, rfl, rfl, s3 _ _ e2, e3, ?_, fun p4 h4 => ?_⟩
      · rw [List.length_map, List.length_map, octs_len, octs_len]; exact len_line (by decide)
      refine ⟨_, rfl, ((8 + (bodyOf args).length : Nat) : Int), 2, ?_, by omega, by decide, fun p5 H5 h5 s5 e5 => ?_⟩
      · exact congrArg (fun z => [V.int z, V.int 2]) ec
      refine ⟨p4, p5, _, _, rfl, rfl, s5 _ _ upd_same, e5, ?_, fun p6 h6 => ?_⟩
      · rw [List.length_append, List.length_map, List.length_map, List.length_map, octs_len, octs_len, octs_len]; exact len_line (by decide)
      have e1' := same_upd (o := .lst ((octs n 4).map V.int ++ (octs o 2).map V.int ++ (octs ((8 + (bodyOf args).length : Nat) : Int) 2).map V.int)) h6 _ _ (s5 _ _ (same_upd (o := .lst ((octs n 4).map V.int ++ (octs o 2).map V.int)) h4 _ _ (s3 _ _ (s2 _ _ e1))))
      refine ⟨_, rfl, p6, p, _, _, rfl, rfl, upd_same, e1', ?_, fun p7 h7 => q nb nl p7 _ ⟨?_, ?_, ?_⟩⟩
      · rw [List.length_append, List.length_append, List.length_map, List.length_map, List.length_map, List.length_map, octs_len, octs_len, octs_len]; exact len_line (by omega)
      · exact s1.free (s2.free (s3.free ((same_upd h4).free (s5.free ((same_upd h6).free h7)))))
      · exact s1.trans (s2.trans (s3.trans ((same_upd h4).trans (s5.trans ((same_upd h6).trans (same_upd h7))))))
      · rw [upd_same]
        unfold msgOcts
        rw [List.map_append, List.map_append, List.map_append]
/-! ### a rule: a walk of zip of a tuple and a list -/
section
open PySem.Spec PyProof.Rows
def ItzM (K : PySem.W.Frag) (a b : Addr) : It :=
  ⟨fun i H => ∃ (xs ys : List V) (x y : V), SqT K H a xs ∧ SqL K H b ys ∧ xs[i]? = some x ∧ ys[i]? = some y,
    fun i H v H' => ∃ T x y, v = .ref T ∧ H T = none ∧ H' = upd H T (.tup [x, y]) ∧ (∀ xs, SqT K H a xs → xs[i]? = some x) ∧ ∀ ys, SqL K H b ys → ys[i]? = some y,
    fun i H => ∃ xs ys : List V, SqT K H a xs ∧ SqL K H b ys ∧ i ≤ xs.length ∧ i ≤ ys.length ∧ (i = xs.length ∨ i = ys.length)⟩
theorem sepM {z TI TO i1 i2 a b : Addr} (D : ZipApart z TI TO i1 i2 a b) : ZipSep2 z TI TO i1 i2 [i1, a] [i2, b] where
  TIz := D.TIz
  TOz := D.TOz
  TITO := D.TITO
  TIi1 := D.TIi1
  mem1 := by simp
  zf1 := by simp only [List.mem_cons, List.not_mem_nil, or_false]; exact fun h => h.elim D.i1z.symm D.l1z.symm
  Tf1 := by simp only [List.mem_cons, List.not_mem_nil, or_false]; exact fun h => h.elim D.TOi1 D.l1TO.symm
  TIi2 := D.TIi2
  mem2 := by simp
  zf2 := by simp only [List.mem_cons, List.not_mem_nil, or_false]; exact fun h => h.elim D.i2z.symm D.l2z.symm
  Tf2 := by simp only [List.mem_cons, List.not_mem_nil, or_false]; exact fun h => h.elim D.TOi2 D.l2TO.symm
  sep1_2 := by simp only [List.mem_cons, List.not_mem_nil, or_false]; exact fun h => h.elim D.i12 D.l2i1.symm
  sep2_1 := by simp only [List.mem_cons, List.not_mem_nil, or_false]; exact fun h => h.elim D.i12.symm D.l1i2.symm
theorem turn_zipM {P : Program} {w : World} {K : PySem.W.Frag} {elts : List Expr} {kk : Nat} {tpos : Pos} {a b z TI TO i1 i2 : Addr} (D : ZipApart z TI TO i1 i2 a b) :
    Turn P w K (.Tuple elts kk tpos) (ItzM K a b) [z, TI, TO, i1, i2] z (fun i h => IsZip h z TI TO .none ∧ IsTupOf2 h TI (.ref i1) (.ref i2) ∧ (∃ x y, IsTupOf2 h TO x y) ∧ h.IsTupleIter i1 a i ∧ h.IsListIter i2 b i) where
  mem := by simp
  obj := fun i h st c hc => by
    obtain ⟨hz, hTI, ⟨x, y, hTO⟩, ⟨o1, e1, _, d1⟩, ⟨o2, e2, _, d2⟩⟩ := st
    simp only [List.mem_cons, List.not_mem_nil, or_false] at hc
    rcases hc with rfl | rfl | rfl | rfl | rfl
    · exact ⟨_, hz, fun v q => nomatch q⟩
    · exact ⟨_, hTI, fun v q => nomatch q⟩
    · exact ⟨_, hTO, fun v q => nomatch q⟩
    · exact ⟨o1, e1, fun v q => by rw [d1] at q; cases q⟩
    · exact ⟨o2, e2, fun v q => by rw [d2] at q; cases q⟩
  keep := fun i h h' st k => by
    obtain ⟨hz, hTI, ⟨x, y, hTO⟩, h1, h2⟩ := st
    exact ⟨k z (by simp) _ hz, k TI (by simp) _ hTI, ⟨x, y, k TO (by simp) _ hTO⟩, h1.at fun o q => k i1 (by simp) o q, h2.at fun o q => k i2 (by simp) o q⟩
  item := by
    intro X hP hw hK hc i pins s σ H E I hf st hg
    subst hP hw hK
    obtain ⟨hz, hTI, ⟨x0, y0, hTO⟩, h1, h2⟩ := st
    obtain ⟨xs, ys, x, y, hqx, hqy, hx, hy⟩ := hg
    obtain ⟨its, rv, p, _⟩ := I.tuple hqx
    obtain ⟨its2, rv2, p2, _⟩ := I.list hqy
    obtain ⟨u, hu, ru⟩ := rv.get hx
    obtain ⟨u2, hu2, ru2⟩ := rv2.get hy
    have hzl : z < s.heap.objs.size := Heap.lt_size hz
    have hh : X.A.handled = none := I.ok.hd hc
    have g1 : its.toArray[i]? = some u := by simpa using hu
    have g2 : its2.toArray[i]? = some u2 := by simpa using hu2
    refine wpAny_pyNext_zipD2_item (sepM D) (Draws.tuple (A := X.A.in1) hh i1 a D.l1i1 its.toArray) (Draws.list (A := X.A.in1) hh i2 b D.l2i2 its2.toArray) hz hTI hTO ⟨h1, p⟩ ⟨h2, p2.isList⟩
      (Array.getElem?_eq_some_iff.mp g1).1 (Array.getElem?_eq_some_iff.mp g2).1 fun x1 x2 h' tk e1 e2 z' TO' h1' h2' hT hsz hk => ?_
    obtain rfl : u = x1 := Option.some.inj (g1.symm.trans e1)
    obtain rfl : u2 = x2 := Option.some.inj (g2.symm.trans e2)
    refine ⟨_, rfl, wpAny_letOwnedTupleGo_zip (s := { s with heap := h', toks := tk }) z' fun h'' z'' sb => ?_⟩
    have hT2 : h''.get? s.heap.objs.size = some { cls := .type "tuple", data := .seq #[u, u2] } := (sb.2 _ (Nat.ne_of_gt hzl)).trans hT
    have new : ObjOk X.prog X.w (upd H s.heap.objs.size (.tup [x, y])) h'' s.heap.objs.size (.tup [x, y]) :=
      ⟨by show 2 ≤ sizeLine; decide, [u, u2], .cons ru (.cons ru2 .nil), ⟨_, hT2, rfl, _, rfl⟩⟩
    have I1 : Inv X pins σ (upd H s.heap.objs.size (.tup [x, y])) { s with heap := h'', toks := tk } :=
      I.turnedNew (t' := tk) (ch := [z, TI, TO, i1, i2]) (fun c o hb q => by
        simp only [List.mem_cons, List.not_mem_nil, or_false, not_or] at hb
        exact (sb.2 c hb.1).trans (hk c o hb.1 hb.2.2.1 hb.2.2.2.1 hb.2.2.2.2 q)) hf (Nat.le_refl _) new
    refine ⟨.ref s.heap.objs.size, _, I1, rfl, ⟨_, x, y, rfl, I.hok.fresh (Nat.le_refl _), rfl, fun l hl => by rw [I.tuple_inj hl hqx]; exact hx, fun l hl => by rw [I.list_inj hl hqy]; exact hy⟩, ⟨z'', ?_, ⟨u, u2, ?_⟩, ?_, ?_⟩, fun c hcm => ?_⟩
    · exact (sb.2 _ D.TIz).trans (hk _ _ D.TIz D.TITO D.TIi1 D.TIi2 hTI)
    · exact (sb.2 _ D.TOz).trans TO'
    · exact h1'.1.at fun o q => (sb.2 _ D.i1z).trans q
    · exact h2'.1.at fun o q => (sb.2 _ D.i2z).trans q
    · have hlt : c < s.heap.objs.size := by
        simp only [List.mem_cons, List.not_mem_nil, or_false] at hcm
        obtain ⟨_, e1, _⟩ := h1
        obtain ⟨_, e2, _⟩ := h2
        rcases hcm with rfl | rfl | rfl | rfl | rfl
        · exact hzl
        · exact Heap.lt_size hTI
        · exact Heap.lt_size hTO
        · exact Heap.lt_size e1
        · exact Heap.lt_size e2
      rw [upd_ne (Nat.ne_of_lt hlt)]
      exact (hf c hcm).1
  done := by
    intro X hP hw hK hc i pins s σ H E I hf st hg
    subst hP hw hK
    obtain ⟨hz, hTI, ⟨x0, y0, hTO⟩, h1, h2⟩ := st
    obtain ⟨xs, ys, hqx, hqy, l1, l2, hend⟩ := hg
    obtain ⟨its, rv, p, _⟩ := I.tuple hqx
    obtain ⟨its2, rv2, p2, _⟩ := I.list hqy
    have n1 : its.toArray.size = xs.length := by rw [List.size_toArray]; exact rv.length.symm
    have n2 : its2.toArray.size = ys.length := by rw [List.size_toArray]; exact rv2.length.symm
    have hh : X.A.handled = none := I.ok.hd hc
    exact wpAny_pyNext_zipD2_end (sepM D) (Draws.tuple (A := X.A.in1) hh i1 a D.l1i1 its.toArray) (Draws.list (A := X.A.in1) hh i2 b D.l2i2 its2.toArray) hz hTI hTO ⟨h1, p⟩ ⟨h2, p2.isList⟩ (by omega) (by omega) (by omega) fun h' tk hk =>
      ⟨rfl, I.turnedL (t' := tk) (ch := [z, TI, TO, i1, i2]) (fun c o hb q => by
        simp only [List.mem_cons, List.not_mem_nil, or_false, not_or] at hb
        exact hk c o hb.1 hb.2.2.1 hb.2.2.2.1 hb.2.2.2.2 q) hf⟩
  self := fun A i s Q E st h => wpAny_pyIter_zip st.1 h
def iZipM (K : PySem.W.Frag) (ta : TA) : TI := fun σ H R => ta σ H fun vs H1 => ∃ a b xs ys, vs = [.ref a, .ref b] ∧ SqT K H1 a xs ∧ SqL K H1 b ys ∧ R (ItzM K a b) H1
theorem pi_zipM {X : Cx} {e e2 : Expr} {ta : TA} {p pos tpos : Pos} {elts : List Expr} {kk : Nat} (hg : Gl X "zip") (hm : X.mg "zip" = none) (ha : PA X [e, e2] ta)
    (hs : starEach [e, e2] X.env = (false, eval e X.env) :: starEach [e2] X.env := by rfl) (hpl : (backTo pos (starEach [e2] X.env)).any (·.1) = false := by rfl) :
    PI X (.Tuple elts kk tpos) (.Call (.Name "zip" p) [e, e2] [] pos) (iZipM X.K ta) := by
  refine ⟨fun pins s σ H R I h => ?_⟩
  refine Call_ (ld_blt I hg hm PyProof.Rows.boot_zip (PyProof.Rows.callWith_type1 (thn (ha.run pos pins s σ H _ I h) fun us s1 ⟨vs, H1, I1, r1, q1⟩ => ?_) hs hpl))
  obtain ⟨a, b, xs, ys, ex, hqx, hqy, q⟩ := q1
  subst ex
  obtain ⟨u, u2, rfl, r, r2⟩ : ∃ u u2, us = [u, u2] ∧ RelV (.ref a) u ∧ RelV (.ref b) u2 := by
    cases r1 with
    | cons r rr => cases rr with
      | cons r' rr => cases rr; exact ⟨_, _, rfl, r, r'⟩
  obtain rfl : u = Value.ref a := r
  obtain rfl : u2 = Value.ref b := r2
  obtain ⟨its, rv, p1, _⟩ := I1.tuple hqx
  obtain ⟨its2, rv2, p2, _⟩ := I1.list hqy
  obtain ⟨o1, ho1, _⟩ := id p1
  refine zip_begins2 (begins_tuple a its.toArray) (begins_list b its2.toArray) p1 p2.isList fun h' hz hTI hTO h1 h2 hsz hk => wpAny_pyIter_zip hz ?_
  have I2 : Inv X pins σ H1 { s1 with heap := h' } := I1.kept (t' := s1.toks) hk
  refine ⟨s1.heap.objs.size + 4, [s1.heap.objs.size + 4, s1.heap.objs.size + 2, s1.heap.objs.size + 3, s1.heap.objs.size, s1.heap.objs.size + 1], _, _, H1, rfl, I2, turn_zipM (PySem.W.ktu_apart s1.heap.objs.size a b (Heap.lt_size ho1) p2.lt), ⟨hz, hTI, ⟨_, _, hTO⟩, ⟨_, h1, rfl, rfl⟩, ⟨_, h2, rfl, rfl⟩⟩, fun c hcm => ?_, q⟩
  have hle : s1.heap.objs.size ≤ c := by
    simp only [List.mem_cons, List.not_mem_nil, or_false] at hcm
    rcases hcm with rfl | rfl | rfl | rfl | rfl
    · exact Nat.le_add_right _ _
    · exact Nat.le_add_right _ _
    · exact Nat.le_add_right _ _
    · exact Nat.le_refl _
    · exact Nat.le_add_right _ _
  exact I1.fpOk hle (I1.hok.fresh hle)
end
/-! ### a rule: list(zip(a, b)) of any two iterators: the pairs are kept -/
section
open PySem.Spec PyProof.Rows
section
variable {prog : Program} {w : World} {A : Around} {E : Value → Shared → Prop} {s : Shared} {z TI TO i1 i2 T : Addr} {fp1 fp2 : List Addr} {n1 n2 i : Nat} {P1 P2 : Nat → Value → Prop} {St1 St2 : Nat → Heap → Prop} {f : Bool} {oT : Obj}
theorem heldD_item {Q : Value → Shared → Prop} (S : ZipSep2 z TI TO i1 i2 fp1 fp2) (D1 : Draws prog w A i1 fp1 n1 P1 St1) (D2 : Draws prog w A i2 fp2 n2 P2 St2)
    (hz : IsZipHeld s.heap z TI TO T f) (hT : s.heap.get? T = some oT) (hTI : IsTupOf2 s.heap TI (.ref i1) (.ref i2)) (st1 : St1 i s.heap) (st2 : St2 i s.heap) (hlt1 : i < n1) (hlt2 : i < n2)
    (hQ : ∀ x1 x2 h' tk, P1 i x1 → P2 i x2 → IsZipHeld h' z TI TO T true → St1 (i + 1) h' → St2 (i + 1) h' → IsTupOf2 h' s.heap.objs.size x1 x2 →
      (∀ c o, c ≠ z → c ≠ i1 → c ≠ i2 → s.heap.get? c = some o → h'.get? c = some o) → Q (.ref s.heap.objs.size) { s with heap := h', toks := tk }) :
    wpAny (model prog w) A (Builtin.«zip.__next__» ⟨[.ref z], []⟩) (fun fin s' => ∃ v, fin = .done (.ret v) ∧ Q v s') E s := by
  obtain ⟨hp, g, d, tk0, os⟩ := s
  show wpAny _ _ (field (.ref z) 2 >>= _) _ _ _
  refine wpAny_bind (wpAny_field hz rfl (x := .bool false) rfl ?_)
  show wpAny _ _ (field (.ref z) 3 >>= _) _ _ _
  refine wpAny_bind (wpAny_field hz rfl (x := .ref TI) rfl ?_)
  refine wpAny_bind (wpAny_seqItems hTI rfl ?_)
  show wpAny _ _ (Builtin.SmallTypes.ownedTupleIsFree (.ref z) >>= _) _ _ _
  refine wpAny_bind (wpAny_tupleHeld_zip hz hT fun g0 hz0 hs0 => ?_)
  replace hs0 : Heap.SameBut z hp g0 := hs0
  simp only [Bool.false_eq_true, if_false]
  refine wpAny_bind ?_
  rw [← Array.forIn_toList]
  simp only [List.forIn_cons, List.forIn_nil]
  refine wpAny_bind (wpAny_bind (wpAny_holding ?_))
  show wpAny _ _ (Builtin.SmallTypes.nextOf (.ref i1) >>= _) _ _ ⟨g0, g, d, tk0, os⟩
  refine wpAny_bind (D1.item i _ _ _ hlt1 (D1.over st1 hs0 S.zf1) fun x1 p1 tk1 hx1 sn1 hp1 => wpAny_pure ?_)
  replace hp1 : Heap.SameBut i1 g0 p1 := hp1
  refine wpAny_pure ?_
  refine wpAny_bind (wpAny_bind (wpAny_holding ?_))
  show wpAny _ _ (Builtin.SmallTypes.nextOf (.ref i2) >>= _) _ _ ⟨p1, g, d, tk1, os⟩
  refine wpAny_bind (D2.item i _ _ _ hlt2 (D2.over (D2.over st2 hs0 S.zf2) hp1 S.sep1_2) fun x2 p2 tk2 hx2 sn2 hp2 => wpAny_pure ?_)
  replace hp2 : Heap.SameBut i2 p1 p2 := hp2
  refine wpAny_pure (wpAny_pure ?_)
  show wpAny _ _ (newTuple [x1, x2] >>= _) _ _ _
  refine wpAny_bind (wpAny_newTuple ?_)
  have hsz : p2.objs.size = hp.objs.size := by rw [hp2.1, hp1.1, hs0.1]
  have hz2 : IsZipHeld p2 z TI TO T true := hp2.extBut _ _ S.zi2 (hp1.extBut _ _ S.zi1 hz0)
  have hk : ∀ c o, c ≠ z → c ≠ i1 → c ≠ i2 → hp.get? c = some o → p2.get? c = some o := fun c o c0 c1 c2 e => hp2.extBut _ _ c2 (hp1.extBut _ _ c1 (hs0.extBut _ _ c0 e))
  have hj1 : St1 (i + 1) p2 := D1.over sn1 hp2 S.sep2_1
  have up : ∀ c o, p2.get? c = some o → (p2.push { cls := .type "tuple", data := .seq #[x1, x2] }).get? c = some o := fun c o e => Heap.get?_push_of_some _ e
  have hN : IsTupOf2 (p2.push { cls := .type "tuple", data := .seq #[x1, x2] }) p2.objs.size x1 x2 := Heap.get?_push_size _ rfl
  refine wpAny_pure ⟨_, rfl, ?_⟩
  show Q (.ref p2.objs.size) _
  rw [hsz] at hN ⊢
  exact hQ x1 x2 _ tk2 hx1 hx2 (up _ _ hz2) (D1.frame _ _ _ hj1 fun b _ o e => up b o e) (D2.frame _ _ _ sn2 fun b _ o e => up b o e) hN fun c o c0 c1 c2 e => up c o (hk c o c0 c1 c2 e)
theorem heldD_end {Q : Fin → Shared → Prop} (S : ZipSep2 z TI TO i1 i2 fp1 fp2) (D1 : Draws prog w A i1 fp1 n1 P1 St1) (D2 : Draws prog w A i2 fp2 n2 P2 St2)
    (hz : IsZipHeld s.heap z TI TO T f) (hT : s.heap.get? T = some oT) (hTI : IsTupOf2 s.heap TI (.ref i1) (.ref i2)) (st1 : St1 i s.heap) (st2 : St2 i s.heap) (hi : i = n1)
    (hE : ∀ h' e, (∀ c o, c ≠ z → c ≠ i1 → s.heap.get? c = some o → h'.get? c = some o) → (∃ o, h'.get? e = some o ∧ o.cls = .type "StopIteration") → E (.ref e) { s with heap := h' }) :
    wpAny (model prog w) A (Builtin.«zip.__next__» ⟨[.ref z], []⟩) Q E s := by
  subst hi
  show wpAny _ _ (field (.ref z) 2 >>= _) _ _ _
  refine wpAny_bind (wpAny_field hz rfl (x := .bool false) rfl ?_)
  show wpAny _ _ (field (.ref z) 3 >>= _) _ _ _
  refine wpAny_bind (wpAny_field hz rfl (x := .ref TI) rfl ?_)
  refine wpAny_bind (wpAny_seqItems hTI rfl ?_)
  show wpAny _ _ (Builtin.SmallTypes.ownedTupleIsFree (.ref z) >>= _) _ _ _
  refine wpAny_bind (wpAny_tupleHeld_zip hz hT fun g0 hz0 hs0 => ?_)
  simp only [Bool.false_eq_true, if_false]
  refine wpAny_bind ?_
  rw [← Array.forIn_toList]
  simp only [List.forIn_cons, List.forIn_nil]
  refine wpAny_bind (wpAny_bind (wpAny_holding ?_))
  show wpAny _ _ (Builtin.SmallTypes.nextOf (.ref i1) >>= _) _ _ _
  refine wpAny_bind (D1.done _ _ _ (D1.over st1 hs0 S.zf1) fun h2 e hs2 he => ?_)
  exact hE h2 e (fun c o c0 c1 x => hs2 _ _ c1 (hs0.extBut _ _ c0 x)) he
theorem heldD_next {Q : Option Value → Shared → Prop} (S : ZipSep2 z TI TO i1 i2 fp1 fp2) (D1 : Draws prog w A.in1 i1 fp1 n1 P1 St1) (D2 : Draws prog w A.in1 i2 fp2 n2 P2 St2)
    (hz : IsZipHeld s.heap z TI TO T f) (hT : s.heap.get? T = some oT) (hTI : IsTupOf2 s.heap TI (.ref i1) (.ref i2)) (st1 : St1 i s.heap) (st2 : St2 i s.heap) (hlt1 : i < n1) (hlt2 : i < n2)
    (hQ : ∀ x1 x2 h' tk, P1 i x1 → P2 i x2 → IsZipHeld h' z TI TO T true → St1 (i + 1) h' → St2 (i + 1) h' → IsTupOf2 h' s.heap.objs.size x1 x2 →
      (∀ c o, c ≠ z → c ≠ i1 → c ≠ i2 → s.heap.get? c = some o → h'.get? c = some o) → Q (some (.ref s.heap.objs.size)) { s with heap := h', toks := tk }) :
    wpAny (model prog w) A (pyNext (.ref z)) Q E s := by
  have hTy : s.TypeIs (.ref z) "zip" := ⟨_, hz, rfl⟩
  unfold pyNext
  exact wpAny_bind (wpAny_attempt (wpAny_callSpecial?_slot (name := Str.ofString "__next__") hTy F.slot_zip_next
    (wpAny_call_entry F.slot_zip_next hTy F.entry_zip_next
      (heldD_item S D1 D2 hz hT hTI st1 st2 hlt1 hlt2 fun x1 x2 h' tk a1 a2 a3 a4 a5 a6 a7 => wpAny_pure (hQ x1 x2 h' tk a1 a2 a3 a4 a5 a6 a7)) (F.args_zip_next_1 _))))
theorem heldD_stop {Q : Option Value → Shared → Prop} (S : ZipSep2 z TI TO i1 i2 fp1 fp2) (D1 : Draws prog w A.in1 i1 fp1 n1 P1 St1) (D2 : Draws prog w A.in1 i2 fp2 n2 P2 St2)
    (hz : IsZipHeld s.heap z TI TO T f) (hT : s.heap.get? T = some oT) (hTI : IsTupOf2 s.heap TI (.ref i1) (.ref i2)) (st1 : St1 i s.heap) (st2 : St2 i s.heap) (hi : i = n1)
    (hQ : ∀ h', (∀ c o, c ≠ z → c ≠ i1 → s.heap.get? c = some o → h'.get? c = some o) → Q none { s with heap := h' }) :
    wpAny (model prog w) A (pyNext (.ref z)) Q E s := by
  have hTy : s.TypeIs (.ref z) "zip" := ⟨_, hz, rfl⟩
  unfold pyNext
  refine wpAny_bind (wpAny_attempt (wpAny_callSpecial?_slot (name := Str.ofString "__next__") hTy F.slot_zip_next
    (wpAny_call_entry F.slot_zip_next hTy F.entry_zip_next (heldD_end S D1 D2 hz hT hTI st1 st2 hi fun h' e hk he => ?_) (F.args_zip_next_1 _))))
  obtain ⟨o, ho, hc⟩ := he
  refine wpAny_bind (wpAny_isInstance (T := "StopIteration") (b := true) ⟨o, ho, hc⟩ isSubtype_stop ?_)
  exact wpAny_pure (hQ _ hk)
end
section
variable {X : Cx} {pins : List (Addr × Obj)} {σ : L2.St} {z TI TO i1 i2 a b S : Addr} {xs ys : List V} {H0 : Hp}
structure LpE (X : Cx) (pins : List (Addr × Obj)) (σ : L2.St) (S : Addr) (xs ys : List V) (H0 : Hp) (i : Nat) (Ts : List Addr) (H : Hp) (s : Shared) (c : Nat) : Prop where
  inv : Inv X pins σ H s
  same : Same H0 H
  len : Ts.length = i
  tup : ∀ (j : Nat) (t : Addr), Ts[j]? = some t → ∃ x y, xs[j]? = some x ∧ ys[j]? = some y ∧ H t = some (.tup [x, y]) ∧ H0 t = none
  lst : s.heap.get? S = some { cls := .type "list", dict := none, data := .seq (Ts.map Value.ref).toArray c, slots := #[] }
  fpS : FpOk X pins H S
structure LpI (X : Cx) (pins : List (Addr × Obj)) (σ : L2.St) (z TI TO i1 i2 a b S : Addr) (xs ys : List V) (H0 : Hp) (i : Nat) (Ts : List Addr) (H : Hp) (s : Shared) (c : Nat) : Prop where
  e : LpE X pins σ S xs ys H0 i Ts H s c
  fp : ∀ c ∈ [z, TI, TO, i1, i2], FpOk X pins H c
  lt : ∀ c ∈ [z, TI, TO, i1, i2], c < s.heap.objs.size
  tie : IsTupOf2 s.heap TI (.ref i1) (.ref i2)
  it1 : s.heap.IsTupleIter i1 a i
  it2 : s.heap.IsListIter i2 b i
  zs : (IsZip s.heap z TI TO .none ∧ ∃ u v, IsTupOf2 s.heap TO u v) ∨ ∃ T f x y, IsZipHeld s.heap z TI TO T f ∧ H T = some (.tup [x, y])
theorem fpOk_upd {H : Hp} {T c : Addr} {o : HO} (h : FpOk X pins H c) (n : c ≠ T) : FpOk X pins (upd H T o) c := ⟨by rw [upd_ne n]; exact h.1, h.2⟩
theorem lp_push {H : Hp} {Ts : List Addr} {s : Shared} {c i tk : Nat} {x y : V} {u u2 : Value} {h' : Heap} {T : Addr} {f : Bool} (D : ZipApart z TI TO i1 i2 a b) (hS : S ∉ [z, TI, TO, i1, i2]) (L : LpI X pins σ z TI TO i1 i2 a b S xs ys H0 i Ts H s c)
    (hx : xs[i]? = some x) (hy : ys[i]? = some y) (ru : RelV x u) (ru2 : RelV y u2)
    (z' : IsZipHeld h' z TI TO T f) (hTT : ∃ x1 y1, upd H s.heap.objs.size (.tup [x, y]) T = some (.tup [x1, y1])) (j1 : h'.IsTupleIter i1 a (i + 1)) (j2 : h'.IsListIter i2 b (i + 1)) (hT : IsTupOf2 h' s.heap.objs.size u u2)
    (hk : ∀ c o, c ≠ z → c ≠ TO → c ≠ i1 → c ≠ i2 → s.heap.get? c = some o → h'.get? c = some o) :
    ∃ c', LpI X pins σ z TI TO i1 i2 a b S xs ys H0 (i + 1) (Ts ++ [s.heap.objs.size]) (upd H s.heap.objs.size (.tup [x, y])) { s with heap := h'.update S (Obj.mapSeq (·.push (.ref s.heap.objs.size))), toks := tk } c' := by
  simp only [List.mem_cons, List.not_mem_nil, or_false, not_or] at hS
  obtain ⟨sz, sTI, sTO, s1, s2⟩ := hS
  have fr : H s.heap.objs.size = none := L.e.inv.hok.fresh (Nat.le_refl _)
  have hS' := hk S _ sz sTO s1 s2 L.e.lst
  have e2 := Heap.get?_update_self (Obj.mapSeq (·.push (Value.ref s.heap.objs.size))) hS' rfl
  have oth : ∀ c o, c ≠ S → h'.get? c = some o → (h'.update S (Obj.mapSeq (·.push (Value.ref s.heap.objs.size)))).get? c = some o := fun c o n e => (Heap.get?_update_other _ _ (Ne.symm n)).trans e
  have nS : S ≠ s.heap.objs.size := Nat.ne_of_lt (Heap.lt_size L.e.lst)
  have nt : ∀ c u, H c = some u → c ≠ s.heap.objs.size := fun c u e n => by rw [n, fr] at e; cases e
  have hsz : s.heap.objs.size < (h'.update S (Obj.mapSeq (·.push (Value.ref s.heap.objs.size)))).objs.size := Heap.lt_size (oth _ _ nS.symm hT)
  have new : ObjOk X.prog X.w (upd H s.heap.objs.size (.tup [x, y])) (h'.update S (Obj.mapSeq (·.push (Value.ref s.heap.objs.size)))) s.heap.objs.size (.tup [x, y]) :=
    ⟨by show 2 ≤ sizeLine; decide, [u, u2], .cons ru (.cons ru2 .nil), ⟨_, oth _ _ nS.symm hT, rfl, _, rfl⟩⟩
  have I1 : Inv X pins σ (upd H s.heap.objs.size (.tup [x, y])) { s with heap := h'.update S (Obj.mapSeq (·.push (Value.ref s.heap.objs.size))), toks := tk } :=
    L.e.inv.turnedNew (t' := tk) (ch := [S, z, TI, TO, i1, i2]) (fun c o hb q => by
      simp only [List.mem_cons, List.not_mem_nil, or_false, not_or] at hb
      exact oth c o hb.1 (hk c o hb.2.1 hb.2.2.2.1 hb.2.2.2.2.1 hb.2.2.2.2.2 q)) (fun c hc => by
      rcases List.mem_cons.mp hc with rfl | hc
      · exact L.e.fpS
      · exact L.fp c hc) (Nat.le_refl _) new
  have ea : (List.map Value.ref (Ts ++ [s.heap.objs.size])).toArray = (List.map Value.ref Ts).toArray.push (.ref s.heap.objs.size) := by simp
  obtain ⟨c', e3⟩ : ∃ c', (h'.update S (Obj.mapSeq (·.push (Value.ref s.heap.objs.size)))).get? S = some { cls := .type "list", dict := none, data := .seq (List.map Value.ref (Ts ++ [s.heap.objs.size])).toArray c', slots := #[] } := ⟨_, by rw [ea]; exact e2⟩
  refine ⟨c', ⟨I1, fun c u e => ?_, ?_, fun j t hj => ?_, e3, fpOk_upd L.e.fpS nS⟩, fun c hc => fpOk_upd (L.fp c hc) (Nat.ne_of_lt (L.lt c hc)), fun c hc => Nat.lt_trans (L.lt c hc) hsz, oth _ _ (Ne.symm sTI) (hk _ _ D.TIz D.TITO D.TIi1 D.TIi2 L.tie), j1.at fun o e => oth _ o (Ne.symm s1) e, j2.at fun o e => oth _ o (Ne.symm s2) e, .inr ?_⟩
  · rw [upd_ne (nt _ _ (L.e.same c u e))]; exact L.e.same c u e
  · rw [List.length_append, L.e.len]; rfl
  · by_cases hlt : j < Ts.length
    · rw [List.getElem?_append_left hlt] at hj
      obtain ⟨x1, y1, e1, e2, e3, e4⟩ := L.e.tup j t hj
      exact ⟨x1, y1, e1, e2, by rw [upd_ne (nt _ _ e3)]; exact e3, e4⟩
    · rw [List.getElem?_append_right (by omega)] at hj
      have hj0 : j - Ts.length = 0 := by
        cases hd : j - Ts.length with
        | zero => rfl
        | succ m => rw [hd] at hj; cases hj
      rw [hj0] at hj
      injection hj with hj
      have hji : j = i := by have := L.e.len; omega
      rw [← hj, hji]
      refine ⟨x, y, hx, hy, upd_same, ?_⟩
      cases q : H0 s.heap.objs.size with
      | none => rfl
      | some o => have := L.e.same _ _ q; rw [fr] at this; cases this
  · obtain ⟨x1, y1, e⟩ := hTT
    exact ⟨T, f, x1, y1, oth _ _ (Ne.symm sz) z', e⟩
theorem lp_end {H : Hp} {Ts : List Addr} {s : Shared} {c i tk : Nat} {h' : Heap} (hS : S ∉ [z, TI, TO, i1, i2]) (L : LpI X pins σ z TI TO i1 i2 a b S xs ys H0 i Ts H s c)
    (hk : ∀ c o, c ≠ z → c ≠ TO → c ≠ i1 → c ≠ i2 → s.heap.get? c = some o → h'.get? c = some o) : LpE X pins σ S xs ys H0 i Ts H { s with heap := h', toks := tk } c := by
  simp only [List.mem_cons, List.not_mem_nil, or_false, not_or] at hS
  obtain ⟨sz, sTI, sTO, s1, s2⟩ := hS
  refine ⟨L.e.inv.turnedL (t' := tk) (ch := [z, TI, TO, i1, i2]) (fun c o hb q => ?_) L.fp, L.e.same, L.e.len, L.e.tup, hk S _ sz sTO s1 s2 L.e.lst, L.e.fpS⟩
  simp only [List.mem_cons, List.not_mem_nil, or_false, not_or] at hb
  exact hk c o hb.1 hb.2.2.1 hb.2.2.2.1 hb.2.2.2.2 q
theorem lp_loop {A : Around} {R : Result → Shared → Prop} (hh : A.handled = none) (D : ZipApart z TI TO i1 i2 a b) (hS : S ∉ [z, TI, TO, i1, i2]) (qx : SqT X.K H0 a xs) (qy : SqL X.K H0 b ys) (hl : xs.length = ys.length) (hz : xs.length ≤ 1000000) (res : Value) :
    ∀ (k i : Nat) (s : Shared) (H : Hp) (Ts : List Addr) (c : Nat), xs.length - i = k → i ≤ xs.length → LpI X pins σ z TI TO i1 i2 a b S xs ys H0 i Ts H s c →
    (∀ s' H' Ts' c', LpE X pins σ S xs ys H0 xs.length Ts' H' s' c' → R (.ok (.ret res)) s') →
    codeAny (model X.prog X.w) A (.builtin "list.extend.loop" ⟨[.ref S, .ref z, res], []⟩) R s := by
  intro k
  induction k with
  | zero =>
    intro i s H Ts c hk hi L hR
    have hin : i = xs.length := by omega
    subst hin
    obtain ⟨its, rv, p, _⟩ := L.e.inv.tuple (L.e.same.sqt qx)
    obtain ⟨its2, rv2, p2, _⟩ := L.e.inv.list (L.e.same.seq qy)
    have n1 : its.toArray.size = xs.length := by rw [List.size_toArray]; exact rv.length.symm
    have n2 : its2.toArray.size = ys.length := by rw [List.size_toArray]; exact rv2.length.symm
    refine codeAny_builtin F.entry_extend_loop ?_
    rw [Around.under_plainId F.plain_extend_loop _]
    show wpAny _ A.in1 (pyNext (.ref z) >>= _) _ _ s
    rcases L.zs with ⟨hz0, u, v, hTO⟩ | ⟨T, f, x0, y0, hz0, hT0⟩
    · exact wpAny_bind (wpAny_pyNext_zipD2_end (sepM D) (Draws.tuple (A := A.in1.in1) hh i1 a D.l1i1 its.toArray) (Draws.list (A := A.in1.in1) hh i2 b D.l2i2 its2.toArray) hz0 L.tie hTO ⟨L.it1, p⟩ ⟨L.it2, p2.isList⟩ (by omega) (by omega) (by omega) fun h' tk hk =>
        wpAny_pure (hR _ _ _ _ (lp_end hS L hk)))
    · obtain ⟨_, _, ⟨oT, hoT, _⟩, _⟩ := L.e.inv.tuple (SqT.of hT0)
      exact wpAny_bind (heldD_stop (sepM D) (Draws.tuple (A := A.in1.in1) hh i1 a D.l1i1 its.toArray) (Draws.list (A := A.in1.in1) hh i2 b D.l2i2 its2.toArray) hz0 hoT L.tie ⟨L.it1, p⟩ ⟨L.it2, p2.isList⟩ n1.symm fun h' hk =>
        wpAny_pure (hR _ _ _ _ (lp_end (tk := s.toks) hS L fun c o h0 _ h1 _ e => hk c o h0 h1 e)))
  | succ k ih =>
    intro i s H Ts c hk hi L hR
    have hlt : i < xs.length := by omega
    have hlt2 : i < ys.length := by omega
    obtain ⟨its, rv, p, _⟩ := L.e.inv.tuple (L.e.same.sqt qx)
    obtain ⟨its2, rv2, p2, _⟩ := L.e.inv.list (L.e.same.seq qy)
    have hx : xs[i]? = some xs[i] := List.getElem?_eq_getElem hlt
    have hy : ys[i]? = some ys[i] := List.getElem?_eq_getElem hlt2
    obtain ⟨u, hu, ru⟩ := rv.get hx
    obtain ⟨u2, hu2, ru2⟩ := rv2.get hy
    have g1 : its.toArray[i]? = some u := by simpa using hu
    have g2 : its2.toArray[i]? = some u2 := by simpa using hu2
    have hS2 := hS
    simp only [List.mem_cons, List.not_mem_nil, or_false, not_or] at hS2
    have hts := L.e.len
    refine codeAny_builtin F.entry_extend_loop ?_
    rw [Around.under_plainId F.plain_extend_loop _]
    show wpAny _ A.in1 (pyNext (.ref z) >>= _) _ _ s
    rcases L.zs with ⟨hz0, u0, v0, hTO⟩ | ⟨T, f, x0, y0, hz0, hT0⟩
    · refine wpAny_bind (wpAny_pyNext_zipD2_item (sepM D) (Draws.tuple (A := A.in1.in1) hh i1 a D.l1i1 its.toArray) (Draws.list (A := A.in1.in1) hh i2 b D.l2i2 its2.toArray) hz0 L.tie hTO ⟨L.it1, p⟩ ⟨L.it2, p2.isList⟩
        (Array.getElem?_eq_some_iff.mp g1).1 (Array.getElem?_eq_some_iff.mp g2).1 fun x1 x2 h' tk e1 e2 z' TO' h1' h2' hT hsz hk => ?_)
      obtain rfl : u = x1 := Option.some.inj (g1.symm.trans e1)
      obtain rfl : u2 = x2 := Option.some.inj (g2.symm.trans e2)
      obtain ⟨c', L2⟩ := lp_push (tk := tk) (f := false) D hS L hx hy ru ru2 z' ⟨_, _, upd_same⟩ h1'.1 h2'.1 hT hk
      have hS' := hk S _ hS2.1 hS2.2.2.1 hS2.2.2.2.1 hS2.2.2.2.2 L.e.lst
      show wpAny _ A.in1 (updateSeq S (·.push (.ref s.heap.objs.size)) >>= _) _ _ _
      refine wpAny_bind ?_
      refine wpAny_updateSeq (s := { s with heap := h', toks := tk }) hS' rfl (wpAny_pure ⟨plainId_quiet F.plain_extend_loop _, ih (i + 1) _ _ _ _ (by omega) hlt L2 hR⟩) ?_ ?_
      · simp only [List.size_toArray, List.length_map]; rw [sizeLine_eq]; omega
      · simp only [Array.size_push, List.size_toArray, List.length_map]; rw [sizeLine_eq]; omega
    · obtain ⟨_, _, ⟨oT, hoT, _⟩, _⟩ := L.e.inv.tuple (SqT.of hT0)
      refine wpAny_bind (heldD_next (sepM D) (Draws.tuple (A := A.in1.in1) hh i1 a D.l1i1 its.toArray) (Draws.list (A := A.in1.in1) hh i2 b D.l2i2 its2.toArray) hz0 hoT L.tie ⟨L.it1, p⟩ ⟨L.it2, p2.isList⟩
        (Array.getElem?_eq_some_iff.mp g1).1 (Array.getElem?_eq_some_iff.mp g2).1 fun x1 x2 h' tk e1 e2 z' h1' h2' hT hk => ?_)
      obtain rfl : u = x1 := Option.some.inj (g1.symm.trans e1)
      obtain rfl : u2 = x2 := Option.some.inj (g2.symm.trans e2)
      have nT : T ≠ s.heap.objs.size := fun n => by rw [n, L.e.inv.hok.fresh (Nat.le_refl _)] at hT0; cases hT0
      obtain ⟨c', L2⟩ := lp_push (tk := tk) (f := true) D hS L hx hy ru ru2 z' ⟨x0, y0, by rw [upd_ne nT]; exact hT0⟩ h1'.1 h2'.1 hT (fun c o h0 _ h1 h2 e => hk c o h0 h1 h2 e)
      have hS' := hk S _ hS2.1 hS2.2.2.2.1 hS2.2.2.2.2 L.e.lst
      show wpAny _ A.in1 (updateSeq S (·.push (.ref s.heap.objs.size)) >>= _) _ _ _
      refine wpAny_bind ?_
      refine wpAny_updateSeq (s := { s with heap := h', toks := tk }) hS' rfl (wpAny_pure ⟨plainId_quiet F.plain_extend_loop _, ih (i + 1) _ _ _ _ (by omega) hlt L2 hR⟩) ?_ ?_
      · simp only [List.size_toArray, List.length_map]; rw [sizeLine_eq]; omega
      · simp only [Array.size_push, List.size_toArray, List.length_map]; rw [sizeLine_eq]; omega
theorem lp_touch {H : Hp} {Ts : List Addr} {s : Shared} {c c' i tk : Nat} {h' : Heap} (hS : S ∉ [z, TI, TO, i1, i2]) (L : LpI X pins σ z TI TO i1 i2 a b S xs ys H0 i Ts H s c)
    (hsz : s.heap.objs.size ≤ h'.objs.size) (hk : ∀ c o, c ≠ S → s.heap.get? c = some o → h'.get? c = some o) (e : h'.get? S = some { cls := .type "list", dict := none, data := .seq (Ts.map Value.ref).toArray c', slots := #[] }) :
    LpI X pins σ z TI TO i1 i2 a b S xs ys H0 i Ts H { s with heap := h', toks := tk } c' := by
  simp only [List.mem_cons, List.not_mem_nil, or_false, not_or] at hS
  obtain ⟨sz, sTI, sTO, s1, s2⟩ := hS
  refine ⟨⟨L.e.inv.turnedL (t' := tk) (ch := [S]) (fun c o hb q => hk c o (fun n => hb (by simp [n])) q) (fun c hc => by rw [List.mem_singleton.mp hc]; exact L.e.fpS), L.e.same, L.e.len, L.e.tup, e, L.e.fpS⟩, L.fp, fun c hc => Nat.lt_of_lt_of_le (L.lt c hc) hsz,
    hk _ _ (Ne.symm sTI) L.tie, L.it1.at fun o q => hk _ o (Ne.symm s1) q, L.it2.at fun o q => hk _ o (Ne.symm s2) q, ?_⟩
  rcases L.zs with ⟨hz, u, v, hTO⟩ | ⟨T, f, x, y, hz, hT⟩
  · exact .inl ⟨hk _ _ (Ne.symm sz) hz, u, v, hk _ _ (Ne.symm sTO) hTO⟩
  · exact .inr ⟨T, f, x, y, hk _ _ (Ne.symm sz) hz, hT⟩
theorem lp_take {H : Hp} {Ts : List Addr} {s : Shared} {c i : Nat} (L : LpE X pins σ S xs ys H0 i Ts H s c) (hi : i ≤ 1000000) : Inv X pins σ (upd H S (.lst (Ts.map V.ref))) s := by
  have vr : ∀ l : List Addr, Vals (l.map V.ref) (l.map Value.ref) := fun l => by
    induction l with
    | nil => exact .nil
    | cons t r ih => exact .cons rfl ih
  refine L.inv.take (t' := s.toks) (h' := s.heap) (fun _ _ _ e => e) L.fpS ⟨?_, Ts.map Value.ref, c, vr Ts, L.lst⟩
  rw [List.length_map, L.len, sizeLine_eq]; omega
theorem zip_no_len : typeLookup (.type "zip") "__len__" = pure none := am_miss_of_fast (by decide +kernel)
theorem zip_no_hint : typeLookup (.type "zip") "__length_hint__" = pure none := am_miss_of_fast (by decide +kernel)
theorem lp_extend {A : Around} {R : Result → Shared → Prop} (hh : A.handled = none) (D : ZipApart z TI TO i1 i2 a b) (hS : S ∉ [z, TI, TO, i1, i2]) (qx : SqT X.K H0 a xs) (qy : SqL X.K H0 b ys) (hl : xs.length = ys.length) (hz : xs.length ≤ 1000000) (res : Value)
    {s : Shared} {H : Hp} {c : Nat} (L : LpI X pins σ z TI TO i1 i2 a b S xs ys H0 0 [] H s c) (hz0 : IsZip s.heap z TI TO .none)
    (hR : ∀ s' H' Ts' c', LpE X pins σ S xs ys H0 xs.length Ts' H' s' c' → R (.ok (.ret res)) s') :
    wpAny (model X.prog X.w) A.in1 (Builtin.List.listExtendWith (.ref S) (.ref z) res)
      (fun fin s' => match fin with | .done f => R (.ok f) s' | .again c' => c'.quiet = true ∧ codeAny (model X.prog X.w) A c' R s') (fun e s' => R (.error e) s') s := by
  have hTy : s.TypeIs (.ref z) "zip" := ⟨_, hz0, rfl⟩
  have hS2 := hS
  simp only [List.mem_cons, List.not_mem_nil, or_false, not_or] at hS2
  have hL := L.e.lst
  unfold Builtin.List.listExtendWith
  refine wpAny_bind (wpAny_typeOf hTy ?_)
  have h1 : Builtin.List.listSameRef (.ref S) (.ref z) = false := by simp [Builtin.List.listSameRef, hS2.1]
  have h2 : (Value.type "zip" == Value.type "list") = false := by decide
  have h3 : (Value.type "zip" == Value.type "tuple") = false := by decide
  simp only [h1, h2, h3, Bool.or_false, Bool.false_eq_true, if_false]
  refine wpAny_bind (wpAny_pyIter_zip hz0 ?_)
  refine wpAny_bind (wpAny_holding ?_)
  unfold Builtin.List.listLengthHint
  refine wpAny_bind (wpAny_specialOf hTy zip_no_len ?_)
  show wpAny _ A.in1 (specialOf (Value.ref z) (Str.ofString "__length_hint__") >>= _) _ _ _
  refine wpAny_bind (wpAny_specialOf hTy zip_no_hint ?_)
  refine wpAny_pure ?_
  show wpAny _ A.in1 (rule "list.extend.makes-room" >>= fun _ => Builtin.List.listTouch (.ref S) >>= fun _ =>
    again (.builtin "list.extend.loop" ⟨[.ref S, .ref z, res], []⟩)) _ _ _
  refine wpAny_bind (wpAny_rule ?_)
  refine wpAny_bind ?_
  show wpAny _ A.in1 (updateSeq S (·.push .none) >>= fun _ => updateSeq S (·.pop)) _ _ _
  refine wpAny_bind (wpAny_updateSeq hL rfl ?_)
  have e2 := Heap.get?_update_self (Obj.mapSeq (·.push Value.none)) hL rfl
  refine wpAny_updateSeq (hz := by seq_fits) e2 rfl ?_
  have e3 := Heap.get?_update_self (Obj.mapSeq (·.pop)) e2 rfl
  have oth : ∀ b o, b ≠ S → s.heap.get? b = some o → ((s.heap.update S (Obj.mapSeq (·.push Value.none))).update S (Obj.mapSeq (·.pop))).get? b = some o :=
    fun b o hb e => (Heap.get?_update_other _ _ (Ne.symm hb)).trans ((Heap.get?_update_other _ _ (Ne.symm hb)).trans e)
  have L3 := lp_touch (s := s) (tk := s.toks) (h' := (s.heap.update S (Obj.mapSeq (·.push Value.none))).update S (Obj.mapSeq (·.pop))) hS L (by rw [(Heap.SameBut.update ..).1, (Heap.SameBut.update ..).1]; exact Nat.le_refl _) oth e3
  exact wpAny_pure ⟨plainId_quiet F.plain_extend_loop _, lp_loop hh D hS qx qy hl hz res xs.length 0 _ H [] _ (by omega) (Nat.zero_le _) L3 hR⟩
theorem lp_init {A : Around} {R : Result → Shared → Prop} (hh : A.handled = none) (D : ZipApart z TI TO i1 i2 a b) {s : Shared} (qx : SqT X.K H0 a xs) (qy : SqL X.K H0 b ys) (hl : xs.length = ys.length) (hz : xs.length ≤ 1000000)
    (I : Inv X pins σ H0 s) (fp : ∀ c ∈ [z, TI, TO, i1, i2], FpOk X pins H0 c) (lt : ∀ c ∈ [z, TI, TO, i1, i2], c < s.heap.objs.size) (tie : IsTupOf2 s.heap TI (.ref i1) (.ref i2)) (it1 : s.heap.IsTupleIter i1 a 0) (it2 : s.heap.IsListIter i2 b 0)
    (hz0 : IsZip s.heap z TI TO .none) {u v : Value} (hTO : IsTupOf2 s.heap TO u v)
    (hR : ∀ s' H' Ts' c', LpE X pins σ s.heap.objs.size xs ys H0 xs.length Ts' H' s' c' → R (.ok (.ret .none)) s') :
    wpAny (model X.prog X.w) A.in1 (Builtin.«list.__init__» ⟨[.ref s.heap.objs.size, .ref z], []⟩)
      (fun fin s' => match fin with | .done f => R (.ok f) s' | .again c' => c'.quiet = true ∧ codeAny (model X.prog X.w) A c' R s') (fun e s' => R (.error e) s') { s with heap := s.heap.push { cls := .type "list", data := .seq #[] } } := by
  have e0 : (s.heap.push { cls := .type "list", data := .seq #[] }).get? s.heap.objs.size = some { cls := .type "list", data := .seq #[] } := Heap.get?_push_size _ rfl
  show wpAny _ _ (do let old ← Builtin.List.listItems (.ref s.heap.objs.size); Builtin.List.listUpdate (.ref s.heap.objs.size) (fun _ => #[]); letGo old.toList.reverse; Builtin.List.listExtendWith (.ref s.heap.objs.size) (.ref z) .none) _ _ _
  refine wpAny_bind ?_
  unfold Builtin.List.listItems
  refine wpAny_bind (wpAny_seqItems e0 rfl (wpAny_pure ?_))
  show wpAny _ _ (updateSeq s.heap.objs.size (fun _ => #[]) >>= fun _ => letGo (#[] : Array Value).toList.reverse >>= fun _ => Builtin.List.listExtendWith (.ref s.heap.objs.size) (.ref z) .none) _ _ _
  refine wpAny_bind (wpAny_updateSeq e0 rfl ?_)
  have e2 := Heap.get?_update_self (Obj.mapSeq (fun _ => (#[] : Array Value))) e0 rfl
  have oth : ∀ c o, s.heap.get? c = some o → ((s.heap.push { cls := .type "list", data := .seq #[] }).update s.heap.objs.size (Obj.mapSeq (fun _ => (#[] : Array Value)))).get? c = some o := fun c o e =>
    (Heap.get?_update_other _ _ (Nat.ne_of_gt (Heap.lt_size e))).trans (Heap.get?_push_of_some _ e)
  refine wpAny_bind (wpAny_letGo ?_)
  have hS : s.heap.objs.size ∉ [z, TI, TO, i1, i2] := fun h => Nat.lt_irrefl _ (lt _ h)
  have sz : s.heap.objs.size ≤ ((s.heap.push { cls := .type "list", data := .seq #[] }).update s.heap.objs.size (Obj.mapSeq (fun _ => (#[] : Array Value)))).objs.size := by
    rw [(Heap.SameBut.update ..).1, Heap.size_push]; exact Nat.le_succ _
  have L : LpI X pins σ z TI TO i1 i2 a b s.heap.objs.size xs ys H0 0 [] H0 { s with heap := (s.heap.push { cls := .type "list", data := .seq #[] }).update s.heap.objs.size (Obj.mapSeq (fun _ => (#[] : Array Value))) } _ :=
    ⟨⟨I.kept (t' := s.toks) oth, Same.refl _, rfl, fun j t h => (by cases h), e2, I.fpOk (Nat.le_refl _) (I.hok.fresh (Nat.le_refl _))⟩, fp, fun c hc => Nat.lt_of_lt_of_le (lt c hc) sz, oth _ _ tie, it1.at fun o q => oth _ o q, it2.at fun o q => oth _ o q, .inl ⟨oth _ _ hz0, u, v, oth _ _ hTO⟩⟩
  exact lp_extend hh D hS qx qy hl hz .none L (oth _ _ hz0) hR
theorem lp_call {A : Around} {E : Value → Shared → Prop} {Q : Value → Shared → Prop} (hh : A.handled = none) (D : ZipApart z TI TO i1 i2 a b) {s : Shared} (qx : SqT X.K H0 a xs) (qy : SqL X.K H0 b ys) (hl : xs.length = ys.length) (hz : xs.length ≤ 1000000)
    (I : Inv X pins σ H0 s) (fp : ∀ c ∈ [z, TI, TO, i1, i2], FpOk X pins H0 c) (lt : ∀ c ∈ [z, TI, TO, i1, i2], c < s.heap.objs.size) (tie : IsTupOf2 s.heap TI (.ref i1) (.ref i2)) (it1 : s.heap.IsTupleIter i1 a 0) (it2 : s.heap.IsListIter i2 b 0)
    (hz0 : IsZip s.heap z TI TO .none) {u v : Value} (hTO : IsTupOf2 s.heap TO u v)
    (hQ : ∀ (s' : Shared) (H' : Hp) (Ts' : List Addr), Inv X pins σ (upd H' s.heap.objs.size (.lst (Ts'.map V.ref))) s' → Same H0 H' → Ts'.length = xs.length → (∀ (j : Nat) (t : Addr), Ts'[j]? = some t → ∃ x y, xs[j]? = some x ∧ ys[j]? = some y ∧ H' t = some (.tup [x, y]) ∧ H0 t = none) →
      H' s.heap.objs.size = none → Q (.ref s.heap.objs.size) s') :
    wpAny (model X.prog X.w) A (call (.type "list") [.ref z]) Q E s := by
  refine callType_codes (Q₁ := fun obj s₁ => obj = .ref s.heap.objs.size ∧ s₁ = { s with heap := s.heap.push { cls := .type "list", data := .seq #[] } }) F.called_list (F.typeCall_list_1 _) F.entry_list_init
    (code_list_new _ ⟨rfl, rfl⟩) fun obj s₁ h₁ => ?_
  obtain ⟨rfl, rfl⟩ := h₁
  refine ⟨⟨_, Heap.get?_push_size _ rfl, rfl⟩, F.args_list_init_2 _ _, lp_init (A := A.in1) hh D qx qy hl hz I fp lt tie it1 it2 hz0 hTO fun s' H' Ts' c' L => ?_⟩
  exact ⟨rfl, hQ s' H' Ts' (lp_take L hz) L.same L.len L.tup L.fpS.1⟩
end
def tListZip (K : PySem.W.Frag) (ta : TA) : TE := fun σ H Q => ta σ H fun vs H1 => ∃ (a b : Addr) (xs ys : List V), vs = [.ref a, .ref b] ∧ SqT K H1 a xs ∧ SqL K H1 b ys ∧ xs.length = ys.length ∧ xs.length ≤ 1000000 ∧
  ∀ (p : Addr) (Ts : List Addr) (H' : Hp), Same H1 H' → Ts.length = xs.length → (∀ (j : Nat) (t : Addr), Ts[j]? = some t → ∃ x y, xs[j]? = some x ∧ ys[j]? = some y ∧ H' t = some (.tup [x, y]) ∧ H1 t = none) → H' p = none → Q (.ref p) (upd H' p (.lst (Ts.map V.ref)))
theorem pe_listZip {X : Cx} {e e2 : Expr} {ta : TA} {p pos p2 pos2 : Pos} (hcalm : X.calm = true) (hgl : Gl X "list") (hml : X.mg "list" = none) (hg : Gl X "zip") (hm : X.mg "zip" = none) (ha : PA X [e, e2] ta)
    (hs : starEach [e, e2] X.env = (false, eval e X.env) :: starEach [e2] X.env := by rfl) (hpl : (backTo pos2 (starEach [e2] X.env)).any (·.1) = false := by rfl)
    (na : starEach [(.Call (.Name "zip" p2) [e, e2] [] pos2 : Expr)] X.env = (false, eval (.Call (.Name "zip" p2) [e, e2] [] pos2) X.env) :: starEach [] X.env := by rfl) :
    PE X (.Call (.Name "list" p) [.Call (.Name "zip" p2) [e, e2] [] pos2] [] pos) (tListZip X.K ta) := by
  refine ⟨fun pins s σ H Q I h => ?_⟩
  refine Call_ (ld_blt I hgl hml boot_list (PyProof.Rows.callWith_type1 (args_cons ?_ na) na))
  refine Call_ (ld_blt I hg hm PyProof.Rows.boot_zip (PyProof.Rows.callWith_type1 (thn (ha.run pos2 pins s σ H _ I h) fun us s1 ⟨vs, H1, I1, r1, q1⟩ => ?_) hs hpl))
  obtain ⟨a, b, xs, ys, ex, hqx, hqy, hl, hz, q⟩ := q1
  subst ex
  obtain ⟨u, u2, rfl, r, r2⟩ : ∃ u u2, us = [u, u2] ∧ RelV (.ref a) u ∧ RelV (.ref b) u2 := by
    cases r1 with
    | cons r rr => cases rr with
      | cons r' rr => cases rr; exact ⟨_, _, rfl, r, r'⟩
  obtain rfl : u = Value.ref a := r
  obtain rfl : u2 = Value.ref b := r2
  obtain ⟨its, rv, p1, _⟩ := I1.tuple hqx
  obtain ⟨its2, rv2, p2, _⟩ := I1.list hqy
  obtain ⟨o1, ho1, _⟩ := id p1
  refine zip_begins2 (begins_tuple a its.toArray) (begins_list b its2.toArray) p1 p2.isList fun h' hz0 hTI hTO h1 h2 hsz hk => args_nil ?_
  have I2 : Inv X pins σ H1 { s1 with heap := h' } := I1.kept (t' := s1.toks) hk
  have mem : ∀ c ∈ [s1.heap.objs.size + 4, s1.heap.objs.size + 2, s1.heap.objs.size + 3, s1.heap.objs.size, s1.heap.objs.size + 1], s1.heap.objs.size ≤ c ∧ c < h'.objs.size := fun c hcm => by
    simp only [List.mem_cons, List.not_mem_nil, or_false] at hcm
    rw [hsz]
    rcases hcm with rfl | rfl | rfl | rfl | rfl
    · exact ⟨Nat.le_add_right _ _, Nat.add_lt_add_left (by decide) _⟩
    · exact ⟨Nat.le_add_right _ _, Nat.add_lt_add_left (by decide) _⟩
    · exact ⟨Nat.le_add_right _ _, Nat.add_lt_add_left (by decide) _⟩
    · exact ⟨Nat.le_refl _, Nat.lt_add_of_pos_right (by decide)⟩
    · exact ⟨Nat.le_add_right _ _, Nat.add_lt_add_left (by decide) _⟩
  refine lp_call (I2.ok.hd hcalm) (PySem.W.ktu_apart s1.heap.objs.size a b (Heap.lt_size ho1) p2.lt) hqx hqy hl hz I2 (fun c hc => I1.fpOk (mem c hc).1 (I1.hok.fresh (mem c hc).1)) (fun c hc => (mem c hc).2) hTI ⟨_, h1, rfl, rfl⟩ ⟨_, h2, rfl, rfl⟩ hz0 hTO fun s' H' Ts' I3 sm ln tp hn => ?_
  exact ⟨.ref _, _, I3, rfl, q _ Ts' H' sm ln tp hn⟩
end
/-! ### the tables of events; event_octets -/
def evD (rows : List (Str × List Str)) : PyData := .tuple (rows.map fun r => .tuple [.str r.1, .tuple (r.2.map PyData.str)])
theorem dpall_strs {K : PySem.W.Frag} {H : Hp} : ∀ {vs : List V} {ss : List Str}, DpAll K H vs (ss.map PyData.str) → vs = ss.map V.str
  | _, [], h => by cases h; rfl
  | _, s :: r, h => by
    cases h with
    | cons h1 h2 => rw [dp_str h1, dpall_strs h2]; rfl
def sp__opcode_of (K : PySem.W.Frag) : Sp := fun vs H Q _ => ∃ (ar : Addr) (rows : List (Str × List Str)) (name : Str) (j : Nat) (row : Str × List Str), vs = [.ref ar, .str name] ∧ Dp K H (.ref ar) (evD rows) ∧ rows.length < 1000 ∧
  rows[j]? = some row ∧ row.1 = name ∧ (∀ (m : Nat) (row' : Str × List Str), m < j → rows[m]? = some row' → row'.1 ≠ name) ∧ ∀ H', Same H H' → Q (.int (j : Nat)) H'
theorem sc__opcode_of : FnScope ["rows", "name", "row"] ["rows", "name"] (defScope s__opcode_of) := ⟨rfl, rfl, rfl, by decide +kernel, rfl, by decide +kernel, by decide +kernel⟩
theorem ok__opcode_of (T : Txt0 P K mg A) : FnOk P w K mg base CX0 1 A.f_opcode_of A.d_opcode_of ["rows", "name"] (sp__opcode_of K) := by
  refine T.F_opcode_of.ok sc__opcode_of (fun vs H Q E h => ?_) (fun cdv Ar outer s H vs Q E hr h => ?_)
  · obtain ⟨_, _, _, _, _, rfl, _⟩ := h
    rfl
  · obtain ⟨ar, rows, name, j, row, rfl, dr, hl, hj, hn, hm, q⟩ := h
    obtain ⟨pr, zs, e0, qs, ds⟩ := dp_tuple dr
    cases e0
    have hzl : zs.length = rows.length := by rw [dpall_len ds, List.length_map]
    refine ⟨_, (pss_one (ps_ret (pe_bm PySem.F.plainAttrs_list PySem.F.slot_list_index PySem.F.type_list_index mt_index (pe_lc (own := [("row", 2)]) (g := (gName 2)) (tt := tYes) rfl sc__opcode_of.nd (pi_tup (pv 0)) (blkOk_by (own := [("row", 2)]) (N := ["rows", "name", "row"]) (sc := defScope s__opcode_of) (by decide +kernel)) (fun _ _ _ _ _ => (pg_name (i := 2) sc__opcode_of.nd rfl (Or.inl rfl))) (fun _ _ _ _ _ => pts_nil) (fun _ _ _ _ _ => by exact (pe_ix (r := rIxT K) ix_tup (pv 2) pe_int (fun _ _ => rfl)))) (pa_cons (pv 1) pa_nil)))), ?_⟩
    refine ⟨_, rfl, ar, rfl, ⟨_, qs⟩, fun D hD => ?_⟩
    refine lc_dp (walk_tup (K := K) (a := ar) (xs := zs)) (K := K) (V0 := H) (H0 := H) (fun i => (rows[i]?).map fun r => PyData.str r.1) _ rfl (Same.refl _) hD (by omega) (fun H' s => s.sqt qs) (fun i x H H' y => y.1) ?_ ?_
    · rintro n z U2 H4 hn' xx ⟨_, hz⟩ Qy Qn hy hno
      obtain ⟨d, hd, dv⟩ := dpall_get ds hz
      rw [List.getElem?_map] at hd
      obtain ⟨r, hr, rfl⟩ := Option.map_eq_some_iff.mp hd
      obtain ⟨pt, ws, rfl, qw, dw⟩ := dp_tuple dv
      cases dw with
      | cons d1 d2 =>
        obtain rfl := dp_str d1
        have qw' := xx.hh.sqt qw
        walk_at "go"
        exact hy (.str r.1) _ _ _ (by rw [hr]; rfl) (Ext.refl xx.vh) (.str _)
    · rintro U2 H4 ws xx uD dA _
      rw [hzl, fm_map] at dA
      have ew : ws = (rows.map fun r => r.1).map V.str := dpall_strs (by rw [List.map_map]; exact dA)
      subst ew
      have eD := xx.vh _ _ uD
      refine ⟨.inl ⟨rfl, _, SqL.of eD⟩, ?_⟩
      walk_at "go"
      have hj2 : ((rows.map fun r => r.1).map V.str)[j]? = some (.str row.1) := by rw [List.getElem?_map, List.getElem?_map, hj]; rfl
      refine ⟨D, _, .str name, j, .str row.1, rfl, rfl, SqL.of eD, rfl, ?_, hj2, ?_, fun m z' hlt hz' => ?_, ?_⟩
      · rw [List.map_map, List.all_map]; exact List.all_eq_true.mpr fun _ _ => rfl
      · show (row.1 == name) = true
        rw [hn]; exact beq_self_eq_true _
      · rw [List.getElem?_map, List.getElem?_map] at hz'
        obtain ⟨y, hy, rfl⟩ := Option.map_eq_some_iff.mp hz'
        obtain ⟨r', hr', rfl⟩ := Option.map_eq_some_iff.mp hy
        show (r'.1 == name) = false
        exact beq_eq_false_iff_ne.mpr (hm m r' hlt hr')
      · exact q _ xx.hh
def sp_event_octets (C : Addr) (w : World) (K : PySem.W.Frag) (B L : Addr) : Sp := fun vs H Q E => ∃ (n : Int) (intf name : Str) (va ar : Addr) (rows : List (Str × List Str)) (j : Nat) (row : Str × List Str) (xs : List V) (args : List Arg), vs = [.int n, .str intf, .str name, .ref va] ∧
  KDct K w C intf (.ref ar) ∧ (∀ H, Dp K H (.ref ar) (evD rows)) ∧ rows.length < 1000 ∧ rows[j]? = some row ∧ row.1 = name ∧ (∀ (m : Nat) (row' : Str × List Str), m < j → rows[m]? = some row' → row'.1 ≠ name) ∧
  SqL K H va xs ∧ xs.length = row.2.length ∧ args.length = row.2.length ∧ row.2.length ≤ 20 ∧ (∀ (i : Nat) (x : V), xs[i]? = some x → ∃ (g : Arg) (k : Str), args[i]? = some g ∧ row.2[i]? = some k ∧ g.kind = k ∧ ArgAt K H x g.val) ∧ (∀ g ∈ args, ArgSpec g.kind g.val true g.os) ∧ (bodyOf args).length < 60000 ∧
  (encBad n j args → ∀ H', Same H H' → E (.ref B) none H') ∧ (¬ encBad n j args → encLong args → ∀ H', Same H H' → E (.ref L) none H') ∧
  (¬ encBad n j args → ¬ encLong args → ∀ p H', NewL H H' p ((msgOcts n j (bodyOf args)).map V.int) → Q (.ref p) H')
theorem sc_event_octets : FnScope ["number", "interface", "name", "values", "rows", "opcode", "kinds"] ["number", "interface", "name", "values"] (defScope s_event_octets) := ⟨rfl, rfl, rfl, by decide +kernel, rfl, by decide +kernel, by decide +kernel⟩
theorem ok_event_octets (T : Txt0 P K mg A) : FnOk P w K mg base (L2.CX P w) 8 A.fevent_octets A.devent_octets ["number", "interface", "name", "values"] (sp_event_octets A.a_EVENTS w K A.CBadMessage A.CMessageTooLong) := by
  refine T.Fevent_octets.okX sc_event_octets (fun vs H Q E h => ?_) (fun cdv Ar outer s H vs Q E hr h => ?_)
  · obtain ⟨_, _, _, _, _, _, _, _, _, _, rfl, _⟩ := h
    rfl
  · obtain ⟨n, intf, name, va, ar, rows, j, row, xs, args, rfl, hd, dr, hl, hj, hn, hm, qx, hxl, hal, h20, hx, hok, hb, qb, ql, q⟩ := h
    obtain ⟨ar', zs, e0, qs, ds⟩ := dp_tuple (dr H)
    cases e0
    refine ⟨_, (pss_cons (ps_set (i := 4) sc_event_octets.nd rfl (Or.inl rfl) (pe_ix (r := rIxD K w) ix_kdict (pe_glob (v := .ref A.a_EVENTS) rfl T.g_EVENTS rfl) (pv 1) (fun _ _ => rfl)))
      (pss_cons (ps_set (i := 5) sc_event_octets.nd rfl (Or.inl rfl) (pe_call (ok__opcode_of T) (hr.mono (by decide)) rfl T.g_opcode_of T.k_opcode_of T.b_opcode_of .nil pass0 (pa_cons (pv 4) (pa_cons (pv 2) pa_nil))))
      (pss_cons (ps_set (i := 6) sc_event_octets.nd rfl (Or.inl rfl) (pe_ix (r := rIxT K) ix_tup (pe_ix (r := rIxT K) ix_tup (pv 4) (pv 5) (fun _ _ => rfl)) pe_int (fun _ _ => rfl)))
      (pss_one (ps_ret (pe_call (ok_encode_message T) (hr.mono (by decide)) rfl T.gencode_message T.kencode_message T.bencode_message .nil (passes_call (takes_of rfl rfl rfl rfl) (fun _ _ _ _ h => h)) (pa_cons (pv 0) (pa_cons (pv 5) (pa_cons (pe_listZip rfl (by rfl) T.list (by rfl) T.zip (pa_cons (pv 6) (pa_cons (pv 3) pa_nil))) pa_nil))))))))), ?_⟩
    have hjz : (rows.map fun r => PyData.tuple [.str r.1, .tuple (r.2.map PyData.str)])[j]? = some (.tuple [.str row.1, .tuple (row.2.map PyData.str)]) := by rw [List.getElem?_map, hj]; rfl
    obtain ⟨z, hz, dz⟩ := dpall_get' ds hjz
    obtain ⟨pt, ws, rfl, qw, dw⟩ := dp_tuple dz
    cases dw with
    | cons d1 d2 => cases d2 with
      | cons d2 d3 =>
        cases d3
        obtain rfl := dp_str d1
        obtain ⟨pk, ks, rfl, qk, dk⟩ := dp_tuple d2
        obtain rfl := dpall_strs dk
        walk_at "go"
        refine ⟨_, _, _, rfl, rfl, hd, ?_⟩
        walk_at "go"
        refine ⟨ar, rows, name, j, row, rfl, dr H, hl, hj, hn, hm, fun H1 s1 => ?_⟩
        have qw1 := s1.sqt qw
        walk_at "go"
        refine ⟨ar, _, _, .ref pt, rfl, rfl, s1.sqt qs, atI_nat hz, ?_⟩
        walk_at "go"
        refine ⟨pk, va, _, xs, rfl, s1.sqt qk, s1.seq qx, by rw [List.length_map]; exact hxl.symm, by rw [List.length_map]; omega, fun p Ts H2 sm ln tp hp => ?_⟩
        have s2 : Same H (upd H2 p (.lst (Ts.map V.ref))) := (s1.trans sm).trans (same_upd hp)
        walk_at "go"
        rw [List.length_map] at ln
        refine ⟨n, j, p, args, rfl, ⟨⟨_, SqL.of upd_same, by rw [List.length_map]; omega, fun i x hi => ?_⟩, hok⟩, hb, by omega, fun c H3 s3 => qb c H3 (s2.trans s3), fun c d H3 s3 => ql c d H3 (s2.trans s3), fun c d p3 H3 nl => q c d p3 H3 ⟨s2.free nl.new, s2.trans nl.same, nl.at_⟩⟩
        rw [List.getElem?_map] at hi
        obtain ⟨t, ht, rfl⟩ := Option.map_eq_some_iff.mp hi
        obtain ⟨x1, y1, e1, e2, e3, e4⟩ := tp i t ht
        rw [List.getElem?_map] at e1
        obtain ⟨k, hk, rfl⟩ := Option.map_eq_some_iff.mp e1
        obtain ⟨g, k', hg, hk', egk, ag⟩ := hx i y1 e2
        have ek : k = k' := Option.some.inj (hk.symm.trans hk')
        refine ⟨g, t, y1, hg, rfl, (same_upd hp).sqt (SqT.of (by rw [egk, ← ek]; exact e3)), ag.to s2⟩
/-! ### views that grow while objects outside of them change -/
structure Grow (U H U' H' : Hp) : Prop where
  vv : Same U U'
  vh : Same U' H'
  nw : ∀ a, U' a ≠ none → U a ≠ none ∨ H a = none
theorem Ext.grow {U H U' H' : Hp} (x : Ext U H U' H') : Grow U H U' H' := ⟨x.vv, x.vh, x.nw⟩
theorem Grow.refl {U H : Hp} (s : Same U H) : Grow U H U H := ⟨Same.refl U, s, fun _ h => Or.inl h⟩
theorem Grow.keepOut {U H U' H' : Hp} (x : Grow U H U' H') {D : Addr} (h : U D = none) (hd : H D ≠ none) : U' D = none := by
  cases e : U' D with
  | none => rfl
  | some o =>
    rcases x.nw D (by rw [e]; exact fun z => by cases z) with q | q
    · exact absurd h q
    · exact absurd q hd
/-- an object outside of the view changes -/
theorem Grow.poke {U H U' H' : Hp} (x : Grow U H U' H') {D : Addr} {o : HO} (h : U' D = none) : Grow U H U' (upd H' D o) :=
  ⟨x.vv, fun b u e => by
    have hb : b ≠ D := fun z => by rw [z, h] at e; cases e
    rw [upd_ne hb]; exact x.vh b u e, x.nw⟩
theorem same_poke {U H : Hp} (s : Same U H) {D : Addr} {o : HO} (h : U D = none) : Same U (upd H D o) := fun b u e => by
  have hb : b ≠ D := fun z => by rw [z, h] at e; cases e
  rw [upd_ne hb]; exact s b u e
/-- what was new behind a change of what the view has not is new ahead of it, if that was there -/
theorem Grow.from_ {U H H1 U' H' : Hp} (x : Grow U H1 U' H') (h : ∀ a, H1 a = none → H a = none) : Grow U H U' H' :=
  ⟨x.vv, x.vh, fun a e => (x.nw a e).imp id (h a)⟩
theorem Grow.trans {U H U1 H1 U2 H2 : Hp} (a : Grow U H U1 H1) (b : Grow U1 H1 U2 H2) (h : ∀ a, H1 a = none → H a = none) : Grow U H U2 H2 :=
  ⟨a.vv.trans b.vv, b.vh, fun x e => by
    rcases b.nw x e with q | q
    · exact a.nw x q
    · exact Or.inr (h x q)⟩
theorem none_poke {H : Hp} {D : Addr} {o : HO} (hd : H D ≠ none) : ∀ a, upd H D o a = none → H a = none := fun a e => by
  by_cases h : a = D
  · subst h; rw [upd_same] at e; cases e
  · rw [upd_ne h] at e; exact e
theorem none_same {H H' : Hp} (s : Same H H') : ∀ a, H' a = none → H a = none := fun a e => s.free e
/-! ### an event that is written, told shortly -/
def EvAt (C : Addr) (w : World) (K : PySem.W.Frag) (H : Hp) (n : Int) (intf name : Str) (va : Addr) (os : List Int) : Prop := ∃ (ar : Addr) (rows : List (Str × List Str)) (j : Nat) (row : Str × List Str) (xs : List V) (args : List Arg),
  KDct K w C intf (.ref ar) ∧ (∀ H, Dp K H (.ref ar) (evD rows)) ∧ rows.length < 1000 ∧ rows[j]? = some row ∧ row.1 = name ∧ (∀ (m : Nat) (row' : Str × List Str), m < j → rows[m]? = some row' → row'.1 ≠ name) ∧
  SqL K H va xs ∧ xs.length = row.2.length ∧ args.length = row.2.length ∧ row.2.length ≤ 20 ∧ (∀ (i : Nat) (x : V), xs[i]? = some x → ∃ (g : Arg) (k : Str), args[i]? = some g ∧ row.2[i]? = some k ∧ g.kind = k ∧ ArgAt K H x g.val) ∧ (∀ g ∈ args, ArgSpec g.kind g.val true g.os) ∧ (bodyOf args).length < 60000 ∧
  ¬ encBad n j args ∧ ¬ encLong args ∧ os = msgOcts n j (bodyOf args)
theorem EvAt.go {C : Addr} {w : World} {K : PySem.W.Frag} {H : Hp} {n : Int} {intf name : Str} {va : Addr} {os : List Int} {B L : Addr} {Q : VK} {E : XK} (h : EvAt C w K H n intf name va os) (q : ∀ p H', NewL H H' p (os.map V.int) → Q (.ref p) H') :
    sp_event_octets C w K B L [.int n, .str intf, .str name, .ref va] H Q E := by
  obtain ⟨ar, rows, j, row, xs, args, h1, h2, h3, h4, h5, h6, h7, h8, h9, h10, h11, h12, h13, h14, h15, rfl⟩ := h
  exact ⟨n, intf, name, va, ar, rows, j, row, xs, args, rfl, h1, h2, h3, h4, h5, h6, h7, h8, h9, h10, h11, h12, h13, fun z => absurd z h14, fun _ z => absurd z h15, fun _ _ => q⟩
theorem EvAt.to {C : Addr} {w : World} {K : PySem.W.Frag} {H H' : Hp} {n : Int} {intf name : Str} {va : Addr} {os : List Int} (h : EvAt C w K H n intf name va os) (s : Same H H') : EvAt C w K H' n intf name va os := by
  obtain ⟨ar, rows, j, row, xs, args, h1, h2, h3, h4, h5, h6, h7, h8, h9, h10, h11, h12, h13, h14, h15, rfl⟩ := h
  exact ⟨ar, rows, j, row, xs, args, h1, h2, h3, h4, h5, h6, s.seq h7, h8, h9, h10, fun i x hx => by obtain ⟨g, k, a1, a2, a3, a4⟩ := h11 i x hx; exact ⟨g, k, a1, a2, a3, a4.to s⟩, h12, h13, h14, h15, rfl⟩
theorem uintOk {i : Int} (h : 0 ≤ i ∧ i ≤ 4294967295) : ArgSpec "uint" (.num i) true (octs (i % 4294967296) 4) := by
  have := ArgSpec.num (i := i) .uint
  rw [decide_eq_true h] at this
  exact this
theorem objOk {i : Int} (h : 1 ≤ i ∧ i ≤ 4294967295) : ArgSpec "object" (.num i) true (octs (i % 4294967296) 4) := by
  have := ArgSpec.num (i := i) .object
  rw [decide_eq_true h] at this
  exact this
theorem intOk {i : Int} (h : -2147483648 ≤ i ∧ i ≤ 2147483647) : ArgSpec "int" (.num i) true (octs (i % 4294967296) 4) := by
  have := ArgSpec.num (i := i) .int
  rw [decide_eq_true h] at this
  exact this
theorem txtOk {s : Str} (h : isText s = true) : ArgSpec "text" (.txt s) true (textOcts s) := by
  have := @ArgSpec.txt s
  rw [h] at this
  exact this
/-- a row of the table of events -/
def EvRow (C : Addr) (w : World) (K : PySem.W.Frag) (intf name : Str) (j : Nat) (ks : List Str) : Prop := ∃ (ar : Addr) (rows : List (Str × List Str)),
  KDct K w C intf (.ref ar) ∧ (∀ H, Dp K H (.ref ar) (evD rows)) ∧ rows.length < 1000 ∧ rows[j]? = some (name, ks) ∧ (∀ (m : Nat) (row' : Str × List Str), m < j → rows[m]? = some row' → row'.1 ≠ name)
def AllAt (K : PySem.W.Frag) (H : Hp) : List V → List Arg → Prop
  | [], [] => True
  | x :: xs, g :: gs => ArgAt K H x g.val ∧ AllAt K H xs gs
  | _, _ => False
theorem AllAt.at {K : PySem.W.Frag} {H : Hp} : ∀ {xs : List V} {gs : List Arg}, AllAt K H xs gs → xs.length = gs.length ∧ ∀ (i : Nat) (x : V), xs[i]? = some x → ∃ g : Arg, gs[i]? = some g ∧ ArgAt K H x g.val
  | [], [], _ => ⟨rfl, fun i x h => by cases h⟩
  | x :: xs, g :: gs, h => by
    obtain ⟨h1, h2⟩ := h
    obtain ⟨e, q⟩ := AllAt.at h2
    refine ⟨congrArg (· + 1) e, fun i y hy => ?_⟩
    cases i with
    | zero => cases hy; exact ⟨g, rfl, h1⟩
    | succ i => exact q i y hy
  | [], _ :: _, h => h.elim
  | _ :: _, [], h => h.elim
theorem EvRow.ev {C : Addr} {w : World} {K : PySem.W.Frag} {intf name : Str} {j : Nat} {ks : List Str} (h : EvRow C w K intf name j ks) {H : Hp} {n : Int} {va : Addr} {xs : List V} (args : List Arg) (hn : 1 ≤ n ∧ n ≤ 4294967295) (hj : j ≤ 1000) (hk : args.map Arg.kind = ks) (h20 : args.length ≤ 20)
    (qx : SqL K H va xs) (hx : AllAt K H xs args) (ok : ∀ g ∈ args, ArgSpec g.kind g.val true g.os) (hb : (bodyOf args).length ≤ 20000) : EvAt C w K H n intf name va (msgOcts n j (bodyOf args)) := by
  obtain ⟨ar, rows, a1, a2, a3, a4, a5⟩ := h
  obtain ⟨e1, e2⟩ := hx.at
  subst hk
  refine ⟨ar, rows, j, _, xs, args, a1, a2, a3, a4, rfl, a5, qx, by rw [e1]; exact (List.length_map ..).symm, (List.length_map ..).symm, by rw [List.length_map]; exact h20, fun i x hi => ?_, ok, by omega, ?_, ?_, rfl⟩
  · obtain ⟨g, hg, ha⟩ := e2 i x hi
    exact ⟨g, g.kind, hg, by rw [List.getElem?_map, hg]; rfl, rfl, ha⟩
  · rintro (z | z | z)
    · exact z hn
    · exact z ⟨by omega, by omega⟩
    · omega
  · unfold encLong; omega
/-! ### fields of instances whose class is known; words that go on by themselves -/
section
open PySem PySem.Spec PyProof.Rows
def tFldC (C : Addr) (ta : TE) (f : Str) : TE := fun σ H Q => ta σ H fun x H1 => ∃ a dx fs v, x = .ref a ∧ H1 a = some (.ins C dx fs) ∧ fs.lookup f = some v ∧ Q v H1
theorem pe_fldC {X : Cx} {e : Expr} {f : Str} {pos : Pos} {ta : TE} {C : Addr} (c : Cls X.K C) (n : NoAttr X.K C f) (he : PE X e ta) (hb : attributeBase e f X.env (eval e X.env) = eval e X.env) : PE X (.Attribute e f pos) (tFldC C ta f) := by
  refine ⟨fun pins s σ H Q I h => ?_⟩
  refine attr_of hb (thn (he.run pins s σ H _ I h) fun u s1 ⟨x, H1, I1, rx, a, dx, fs, v, ex, ea, l, q⟩ => ?_)
  subst ex
  obtain rfl : u = Value.ref a := rx
  exact getattr_ok I1 ea c n l fun u' s2 I2 ru => ⟨v, H1, I2, ru, q⟩
/-- o.f = e: the heap behind it is told by what stands at o, and elsewhere -/
def sFldC (C : Addr) (ta tv : TE) (f : Str) : TS := fun D σ H => tv σ H fun y H1 => ta σ H1 fun x H2 => ∃ a dx fs fs', x = .ref a ∧ H2 a = some (.ins C dx fs) ∧ fs.length < 1000 ∧ putF f y fs = fs' ∧
  ∀ H3 : Hp, H3 a = some (.ins C dx fs') → (∀ b, b ≠ a → H3 b = H2 b) → D.nx σ H3
theorem ps_fldC {X : Cx} {o value : Expr} {f : Str} {pos pos' : Pos} {ta tv : TE} {C : Addr} (c : Cls X.K C) (n : NoAttr X.K C f) (ha : PE X o ta) (hv : PE X value tv) (hs : swapsWith value (some (.Attribute o f pos')) pos.line X.env = pure false) : PS X (.Assign [.Attribute o f pos'] value pos) (sFldC C ta tv f) := by
  refine ⟨fun pins s σ H D I h => ?_⟩
  refine plainObj_wpAny_Assign_Attribute (thn (hv.run pins s σ H _ I h) fun u s1 ⟨y, H1, I1, ry, q⟩ => thn (ha.run pins s1 σ H1 _ I1 q) fun ov s2 ⟨x, H2, I2, rx, a, dx, fs, fs', ex, ea, l, ep, q2⟩ => ?_) hs
  subst ex
  obtain rfl : ov = Value.ref a := rx
  exact setattr_ok I2 ea c n l ry fun s3 I3 => ⟨σ, _, I3, q2 _ (by rw [ep]; exact upd_same) fun b hb => upd_ne hb⟩
end
theorem lk_ne {k k' : Str} {v : V} {r : List (Str × V)} (h : (k == k') = false) : List.lookup k ((k', v) :: r) = List.lookup k r := by rw [List.lookup_cons, h]
theorem pf_nil {f : Str} {v : V} : putF f v [] = [(f, v)] := rfl
theorem pf_eq {f : Str} {v x : V} {r : List (Str × V)} : putF f v ((f, x) :: r) = (f, v) :: r := by
  show (if f = f then _ else _) = _
  rw [if_pos rfl]
theorem pf_ne {f g : Str} {v x : V} {r r' : List (Str × V)} (h : g ≠ f) (e : putF f v r = r') : putF f v ((g, x) :: r) = (g, x) :: r' := by
  show (if g = f then _ else _) = _
  rw [if_neg h, e]
theorem upd_facts {H H2 : Hp} {a : Addr} {o : HO} (h : upd H a o = H2) : H2 a = some o ∧ ∀ b, b ≠ a → H2 b = H b := by
  subst h
  exact ⟨upd_same, fun b hb => upd_ne hb⟩
theorem nn_of {H H' : Hp} (h : ∀ b u, H b = some u → H' b ≠ none) : ∀ b, H' b = none → H b = none := fun b e => by
  cases x : H b with
  | none => rfl
  | some u => exact absurd e (h b u x)
theorem ln_nil {k : Str} : List.lookup k ([] : List (Str × V)) = none := rfl
theorem same_iff {H H' : Hp} : Same H H' ↔ ∀ b, H b ≠ none → H' b = H b :=
  ⟨fun s b h => by
    cases e : H b with
    | none => exact absurd e h
    | some u => exact s b u e, fun s b u e => (s b (by rw [e]; exact fun z => by cases z)).trans e⟩
/-! words for fields and heaps -/
local macro_rules | `(tactic| walk_at "lk") => `(tactic| first
  | exact List.lookup_cons_self
  | (refine (lk_ne (by decide +kernel)).trans ?_; walk_at "lk"))
local macro_rules | `(tactic| walk_at "ln") => `(tactic| first
  | exact ln_nil
  | (refine (lk_ne (by decide +kernel)).trans ?_; walk_at "ln"))
local macro_rules | `(tactic| walk_at "pf") => `(tactic| first
  | exact pf_eq
  | exact pf_nil
  | (apply pf_ne; (focus decide +kernel); walk_at "pf"))
local macro_rules | `(tactic| walk_at "h") => `(tactic| ((try simp only [same_iff] at *); grind [L2.upd]))
local macro_rules | `(tactic| walk_at "gf1") => `(tactic| first
  | refine ⟨_, _, _, _, rfl, (by assumption), (by walk_at "lk"), ?_⟩
  | refine ⟨_, _, _, _, rfl, (by assumption), (by exact Nat.le_of_ble_eq_true rfl), (by walk_at "pf"), ?_⟩
  | refine ⟨_, _, _, rfl, (by assumption), (by walk_at "ln"), ?_⟩
  | refine .inl ⟨rfl, _, SqL.of (by assumption), ?_⟩
  | (refine And.intro (.inl ⟨rfl, _, SqL.of (by assumption)⟩) ?_)
  | walk_at "go2")
local macro_rules | `(tactic| walk_at "gf") => `(tactic| repeat walk_at "gf1")
local macro_rules | `(tactic| walk_at "nn") => `(tactic| walk_at "h")
local macro_rules | `(tactic| walk_at "nl") => `(tactic| ((try unfold L2.tNil); (try dsimp only)))
section
/-! ### o.m(e, ..) within a try, m of an own class, which may raise (our own rule, along the library's for a def) -/
open PySem PySem.Spec PyProof.Rows
def tMethAt (C : Addr) (m : Str) (sp : Sp) (E : L2.St → XK) (ta : TE) (t : TA) : TE := fun σ H Q => ta σ H fun x H1 => ∃ a dx fs, x = .ref a ∧ H1 a = some (.ins C dx fs) ∧ fs.lookup m = none ∧ t σ H1 fun vs H2 => sp (x :: vs) H2 Q (E σ)
theorem pe_methAt {X : Cx} {CX : CXT} {k : Nat} {f C : Addr} {fd : FuncData} {ps : List Str} {sp : Sp} {E : L2.St → XK} {m : Str} {pos apos : Pos} {e o : Expr} {es : List Expr} {ta : TE} {t : TA} {pl : Sem Bool} (he : PE X o ta) (c : Cls X.K C) (hm : Meth X.K C m f) (F : FnOk X.prog X.w X.K X.mg X.base CX k f fd ps sp) (hr : Room k X.A) (hb : Binds X.K fd ps []) (hx : ∀ σ, PassesAt CX X σ (E σ)) (ha : PA X (e :: es) t)
    (hst : starEach (e :: es) X.env = (false, eval e X.env) :: starEach es X.env := by rfl) (hpl : (backTo pos (starEach es X.env)).any (·.1) = false := by rfl)
    (ht : eval (.Call (.Attribute o m apos) (e :: es) [] pos) X.env = (do
      let ov ← eval o X.env
      standAt apos.atName
      let (f, first) ← holding [ov] (getMethod ov m pl)
      callWith pos f first (backTo pos (starEach (e :: es) X.env)) (backToKw pos (keywordEach [] X.env))) := by rfl) :
    PE X (.Call (.Attribute o m apos) (e :: es) [] pos) (tMethAt C m sp E ta t) := by
  refine ⟨fun pins s σ H Q I h => ?_⟩
  refine PySem.W.methodCall_KW (pl := pl) (thn (he.run pins s σ H _ I h) fun u s1 ⟨x, H1, I1, rx, a, dx, fs, ex, ea, l, q⟩ => ?_) ht
  subst ex
  obtain rfl : u = Value.ref a := rx
  refine getmeth_ok I1 ea c hm l ?_
  refine PySem.W.callWith_K (first := [.ref a]) (h₀ := X.base) I.ok.mod.kin hm.kp (thn (ha.run pos pins s1 σ H1 _ I1 q) fun us s2 ⟨vs, H2, I2, r, q2⟩ => ⟨I2.kIn, ?_⟩) hst hpl
  exact run_fnS (us := .ref a :: us) (vs := .ref a :: vs) F hr hb (hx σ) I2 (.cons rfl r) q2
end
section
/-! ### x in t, t a tuple of data (our own rule, along the library's for lists) -/
open PySem PySem.Spec PyProof.Rows
def rInDT (K : PySem.W.Frag) : R2 := fun x y H Q => ∃ d ds, Dp K H x d ∧ Dp K H y (.tuple ds) ∧ SeqAt.shaped d = true ∧ SeqAt.shaped (.tuple ds) = true ∧ Q (.bl (ds.any fun z => PyData.eqv z d)) H
theorem op_inDT {X : Cx} (hu : X.A.units + 65 < cLine) : OpR X (compareOp .In) (rInDT X.K) := by
  intro pins s σ H x y v u Q I rx ry h
  obtain ⟨d, ds, hd, he, sd, se, q⟩ := h
  obtain ⟨as, r1⟩ := Dp.reads I d x v hd rx
  obtain ⟨bs, r2⟩ := Dp.reads I (.tuple ds) y u he ry
  exact SeqAt.in_tuple_reads r2 r1 (SeqAt.canLay_of_shaped se) (SeqAt.canLay_of_shaped sd) (room_in_shaped sd hu) ⟨.bl _, H, I, rfl, q⟩
theorem room65 {k : Nat} {A : Around} (r : Room (k + 1) A) : A.units + 65 < cLine := by have := r.un; omega
end
section
/-! ### xs == [], xs != [] of a list of any items (our own rule, by the library's for lists of unlike lengths) -/
open PySem PySem.Spec PyProof.Rows
def rEqNil (K : PySem.W.Frag) (neg : Bool) : R2 := fun x y H Q => ∃ a b xs, x = .ref a ∧ y = .ref b ∧ SqL K H a xs ∧ SqL K H b [] ∧ Q (.bl (if neg then !xs.isEmpty else xs.isEmpty)) H
theorem op_eqNil {X : Cx} (hu : X.A.units + 64 < cLine) : OpR X (compareOp .Eq) (rEqNil X.K false) := by
  intro pins s σ H x y v u Q I rx ry h
  obtain ⟨a, b, xs, rfl, rfl, ha, hb, q⟩ := h
  cases (show v = Value.ref a from rx)
  cases (show u = Value.ref b from ry)
  obtain ⟨us, r1, p1, _⟩ := I.list ha
  obtain ⟨ws, r2, p2, _⟩ := I.list hb
  cases r2
  cases xs with
  | nil =>
    cases r1
    exact SeqAt.eq_listAt (e := fun _ => true) p1.isList p2.isList rfl (by omega) (fun j h1 h2 => absurd h1 (Nat.not_lt_zero j)) ⟨.bl true, H, I, rfl, q⟩
  | cons z zs =>
    cases r1
    exact SeqAt.eq_list_lengthsAt p1.isList p2.isList (by simp) (by omega) ⟨.bl false, H, I, rfl, q⟩
theorem op_neNil {X : Cx} (hu : X.A.units + 64 < cLine) : OpR X (compareOp .NotEq) (rEqNil X.K true) := by
  intro pins s σ H x y v u Q I rx ry h
  obtain ⟨a, b, xs, rfl, rfl, ha, hb, q⟩ := h
  cases (show v = Value.ref a from rx)
  cases (show u = Value.ref b from ry)
  obtain ⟨us, r1, p1, _⟩ := I.list ha
  obtain ⟨ws, r2, p2, _⟩ := I.list hb
  cases r2
  cases xs with
  | nil =>
    cases r1
    exact SeqAt.RcNeAt.lists (e := fun _ => true) p1.isList p2.isList rfl (by omega) (fun j h1 h2 => absurd h1 (Nat.not_lt_zero j)) _ _ _ _ ⟨.bl false, H, I, rfl, q⟩
  | cons z zs =>
    cases r1
    exact SeqAt.RcNeAt.lists_lengths p1.isList p2.isList (by simp) (by omega) _ _ _ _ ⟨.bl true, H, I, rfl, q⟩
end
/-! ### a heap without some places -/
def hide (H : Hp) (a : Addr) : Hp := fun b => if b = a then none else H b
def paneV : List Int → V
  | [] => .non
  | p :: _ => .int p
def ofF (tr kd : Addr) (on : Bool) : List (Str × V) := [("_transfers", .ref tr), ("_kept", .ref kd), ("_is_hovered", .bl on)]
/-- what is not to be looked at -/
structure Hid (p : Prop) : Prop where
  go : p
/-- where words that go on by themselves stop -/
structure Stop (p : Prop) : Prop where
  go : p
  tr : True
theorem stop {p : Prop} (h : p) : Stop p := ⟨h, trivial⟩
/-! ### small things -/
theorem inV_ints (n : Int) : ∀ ns : List Int, inV (.int n) (ns.map V.int) = decide (n ∈ ns)
  | [] => rfl
  | a :: r => by
    show ((a == n) || inV (.int n) (r.map V.int)) = _
    rw [inV_ints n r]
    by_cases h : a = n
    · subst h; simp
    · have : ¬ n = a := fun z => h z.symm
      simp [this, beq_eq_false_iff_ne.mpr h]
theorem useR {R B C G : Prop} (h : (¬ C → R) → (C → B) → G) (r : ¬ C → R) (b : C → B) : G := h r b
theorem fm_fmap' {α β : Type} (f : α → Option β) (xs : List α) (n : Nat) (h : n = xs.length) (g : Nat → Option β) (hg : ∀ i x, xs[i]? = some x → g i = f x) : fm g n = xs.filterMap f := by
  subst h
  have : ∀ (m : Nat), m ≤ xs.length → fm g m = (xs.take m).filterMap f := by
    intro m
    induction m with
    | zero => intro _; rfl
    | succ m ih =>
      intro hm
      rw [fm_succ, ih (by omega), hg m _ (List.getElem?_eq_getElem (by omega)), List.take_succ_eq_append_getElem (by omega), List.filterMap_append]
      congr 1
  rw [this _ (Nat.le_refl _), List.take_length]
theorem fm_ne (g : Int) (ps : List Int) : (ps.filterMap fun p => if p ≠ g then some (PyData.int p) else none) = (ps.filter fun p => decide (p ≠ g)).map PyData.int := by
  induction ps with
  | nil => rfl
  | cons r t ih =>
    by_cases c : r ≠ g
    · rw [List.filterMap_cons_some (by rw [if_pos c]), List.filter_cons_of_pos (by exact decide_eq_true c), List.map_cons, ih]
    · rw [List.filterMap_cons_none (by rw [if_neg c]), List.filter_cons_of_neg (by simpa using c), ih]
theorem evRow_of {C : Addr} {w : World} {K : PySem.W.Frag} {intf name : Str} {ar : Addr} {ks : List Str} (rows : List (Str × List Str)) (j : Nat) (d : KDct K w C intf (.ref ar)) (dp : ∀ H, Dp K H (.ref ar) (evD rows)) (hl : rows.length < 1000) (hj : rows[j]? = some (name, ks)) (hm : ((rows.take j).all fun r => decide (r.1 ≠ name)) = true) : EvRow C w K intf name j ks := by
  refine ⟨ar, rows, d, dp, hl, hj, fun m row' hlt hr => ?_⟩
  rw [List.all_eq_true] at hm
  have : row' ∈ rows.take j := List.mem_of_getElem? (i := m) (by rw [List.getElem?_take, if_pos hlt]; exact hr)
  exact of_decide_eq_true (hm row' this)
/-! ### what only adds to the view and the heap -/
structure Pu (U H U' H' : Hp) : Prop where
  vv : Same U U'
  vh : Same U' H'
  out : ∀ b, U b = none → H b ≠ none → U' b = none
  nn : ∀ b, H' b = none → H b = none
  kp : ∀ b, H b ≠ none → H' b = H b
theorem Pu.refl {U H : Hp} (s : Same U H) : Pu U H U H := ⟨Same.refl U, s, fun _ h _ => h, fun _ h => h, fun _ _ => rfl⟩
theorem Pu.trans {U H U1 H1 U2 H2 : Hp} (a : Pu U H U1 H1) (b : Pu U1 H1 U2 H2) : Pu U H U2 H2 := by
  obtain ⟨a1, a2, a3, a4, a5⟩ := a
  obtain ⟨b1, b2, b3, b4, b5⟩ := b
  exact ⟨a1.trans b1, b2, by walk_at "h", by walk_at "h", by walk_at "h"⟩
theorem Pu.new {U H : Hp} (s : Same U H) {p : Addr} {o : HO} (h : H p = none) : Pu U H (upd U p o) (upd H p o) :=
  ⟨by walk_at "h", by walk_at "h", by walk_at "h", by walk_at "h", by walk_at "h"⟩
theorem Pu.skip {U H : Hp} (s : Same U H) {p : Addr} {o : HO} (h : H p = none) : Pu U H U (upd H p o) :=
  ⟨Same.refl U, by walk_at "h", fun _ h _ => h, by walk_at "h", by walk_at "h"⟩
theorem _root_.My.Ext.pu {U H U' H' : Hp} (x : Ext U H U' H') : Pu U H U' H' := by
  obtain ⟨x1, x2, x3, x4⟩ := x
  refine ⟨x1, x2, fun b h n => ?_, by walk_at "h", by walk_at "h"⟩
  cases e : U' b with
  | none => rfl
  | some u => exact ((x4 b (by rw [e]; exact fun z => by cases z)).elim (fun z => absurd h z) (fun z => absurd z n))
/-- an object at f is changed, and others added -/
structure Ch (U H U' H' : Hp) (cs : List Addr) : Prop where
  vv : Same U U'
  vh : Same U' H'
  out : ∀ b, U b = none → H b ≠ none → U' b = none
  nn : ∀ b, H' b = none → H b = none
  kp : ∀ b, b ∉ cs → H b ≠ none → H' b = H b
theorem Pu.ch {U H U' H' : Hp} (x : Pu U H U' H') (cs : List Addr) : Ch U H U' H' cs := ⟨x.vv, x.vh, x.out, x.nn, fun b _ h => x.kp b h⟩
theorem Ch.trans {U H U1 H1 U2 H2 : Hp} {cs : List Addr} (a : Ch U H U1 H1 cs) (b : Ch U1 H1 U2 H2 cs) : Ch U H U2 H2 cs := by
  obtain ⟨a1, a2, a3, a4, a5⟩ := a
  obtain ⟨b1, b2, b3, b4, b5⟩ := b
  exact ⟨a1.trans b1, b2, by walk_at "h", by walk_at "h", by walk_at "h"⟩
theorem Ch.mono {U H U' H' : Hp} {cs ds : List Addr} (a : Ch U H U' H' cs) (h : ∀ x ∈ cs, x ∈ ds) : Ch U H U' H' ds := ⟨a.vv, a.vh, a.out, a.nn, fun b hb n => a.kp b (fun z => hb (h b z)) n⟩
theorem Ch.poke {U H : Hp} (s : Same U H) {a : Addr} {o : HO} (hu : U a = none) (cs : List Addr) (h : a ∈ cs) : Ch U H U (upd H a o) cs :=
  ⟨Same.refl U, by walk_at "h", fun _ h _ => h, by walk_at "h", fun b hb n => upd_ne (fun z => hb (by rw [z]; exact h))⟩
/-! ### Fault.__init__, and a Fault that is raised -/
def ffF (n c : Int) (wd : Str) : List (Str × V) := [("words", .str wd), ("code", .int c), ("number", .int n)]
def sp_Fault___init__ (C : Addr) : Sp := fun vs H Q _ => ∃ (a : Addr) (n c : Int) (wd : Str), vs = [.ref a, .int n, .int c, .str wd] ∧ H a = some (exo a C none) ∧
  ∀ (dx : Addr) (H' : Hp), H dx = none → (∀ b, b ≠ a → H b ≠ none → H' b = H b) → (∀ b, H' b = none → H b = none) → ExV H' a C dx (ffF n c wd) → Q .non H'
theorem sc_Fault___init__ : SupScope ["self", "number", "code", "words"] ["self", "number", "code", "words"] (defScope s_Fault___init__) := ⟨rfl, rfl, rfl, by decide +kernel, rfl, by decide +kernel, by decide +kernel, by decide +kernel, rfl, rfl⟩
theorem ok_Fault___init__ (T : Txt0 P K mg A) : FnOk P w K mg base CX0 1 A.fFault___init__ A.dFault___init__ ["self", "number", "code", "words"] (sp_Fault___init__ A.CFault) := by
  refine T.FFault___init__.ok T.prg (ar := _) (rest := _) sc_Fault___init__ (fun vs H Q E h => ?_) rfl rfl rfl T.super (fun _ _ _ => rfl) (fun _ => rfl) (fun _ => rfl) (fun cc cda Ar outer s H vs Q E hr h => ?_)
  · obtain ⟨_, _, _, _, rfl, _⟩ := h
    rfl
  · obtain ⟨a, n, c, wd, rfl, ea, q⟩ := h
    replace q := Hid.mk q
    refine ⟨_, _, a, A.CFault, _, pa_cons (pv 3) pa_nil, pss_cons (ps_ost (pv 0) (pv 1)) (pss_cons (ps_ost (pv 0) (pv 2)) (pss_one (ps_ost (pv 0) (pv 3)))), rfl, ea, T.vFault, ?_⟩
    refine ⟨_, rfl, (by show 1 ≤ 1000; decide), ea, ?_⟩
    refine ⟨_, rfl, _, rfl, a, A.CFault, rfl, T.oFault, T.nFault_number, .inl ⟨ea, fun dx hdx hne => ?_⟩⟩
    have o1 : (upd (upd H dx (exd dx [("number", .int n)])) a (exo a A.CFault (some dx))) a = some (exo a A.CFault (some dx)) := upd_same
    have d1 : (upd (upd H dx (exd dx [("number", .int n)])) a (exo a A.CFault (some dx))) dx = some (exd dx [("number", .int n)]) := by rw [upd_ne hne, upd_same]
    have k1 : ∀ b, b ≠ a → H b ≠ none → (upd (upd H dx (exd dx [("number", .int n)])) a (exo a A.CFault (some dx))) b = H b := by walk_at "h"
    have m1 : ∀ b, (upd (upd H dx (exd dx [("number", .int n)])) a (exo a A.CFault (some dx))) b = none → H b = none := by walk_at "h"
    generalize upd (upd H dx (exd dx [("number", .int n)])) a (exo a A.CFault (some dx)) = H1 at o1 d1 k1 m1 ⊢
    refine ⟨_, rfl, _, rfl, a, A.CFault, rfl, T.oFault, T.nFault_code, .inr ⟨dx, _, o1, d1, (by show 1 ≤ 900; decide), ?_⟩⟩
    have o2 : (upd H1 dx (exd dx [("code", .int c), ("number", .int n)])) a = some (exo a A.CFault (some dx)) := by rw [upd_ne hne.symm]; exact o1
    refine ⟨_, rfl, _, rfl, a, A.CFault, rfl, T.oFault, T.nFault_words, .inr ⟨dx, _, o2, upd_same, (by show 2 ≤ 900; decide), ?_⟩⟩
    refine q.go dx _ hdx ?_ ?_ ⟨by rw [upd_ne hne.symm]; exact o2, upd_same⟩
    · intro b hb hn
      have hbd : b ≠ dx := fun z => hn (by rw [z]; exact hdx)
      rw [upd_ne hbd, upd_ne hbd]; exact k1 b hb hn
    · intro b hb
      by_cases hbd : b = dx
      · rw [hbd]; exact hdx
      · rw [upd_ne hbd, upd_ne hbd] at hb; exact m1 b hb
/-- the raising's reading, told shortly -/
theorem fault_go {C : Addr} {H : Hp} {n c : Int} {wd : Str} {E : XK} (q : ∀ (d : Addr) (H' : Hp), H d = none → H' d = some (.xd (ffF n c wd)) → (∀ b, H b ≠ none → H' b = H b) → (∀ b, b ≠ d → H' b = none → H b = none) → E (.ref C) (some d) H') :
    ∀ a, H a = none → sp_Fault___init__ C [.ref a, .int n, .int c, .str wd] (upd H a (exo a C none)) (fun v H2 => v = .non ∧ ∃ (d : Addr) (fs : List (Str × V)), H2 a = some (exo a C (some d)) ∧ H2 d = some (exd d fs) ∧ H d = none ∧ E (.ref C) (some d) (upd (del H2 a) d (.xd fs))) (fun _ _ _ => False) := by
  intro a ha
  refine ⟨a, n, c, wd, rfl, upd_same, fun dx H' hdx k m ev => ⟨rfl, dx, _, ev.ob, ev.di, ?_, ?_⟩⟩
  · have : dx ≠ a := fun z => by rw [z, upd_same] at hdx; cases hdx
    rw [upd_ne this] at hdx; exact hdx
  · have hda : dx ≠ a := fun z => by rw [z, upd_same] at hdx; cases hdx
    rw [upd_ne hda] at hdx
    refine q dx _ hdx upd_same (fun b hb => ?_) (fun b hbd hb => ?_)
    · have h1 : b ≠ dx := fun z => hb (by rw [z]; exact hdx)
      have h2 : b ≠ a := fun z => hb (by rw [z]; exact ha)
      rw [upd_ne h1, del_ne h2, k b h2 (by rw [upd_ne h2]; exact hb), upd_ne h2]
    · rw [upd_ne hbd] at hb
      by_cases h2 : b = a
      · rw [h2]; exact ha
      · rw [del_ne h2] at hb
        have := m b hb
        rw [upd_ne h2] at this; exact this
/-! ### a Reply -/
def rpF (t e w a : V) : List (Str × V) := [("told", t), ("ended", e), ("wishes", w), ("applied", a)]
def tsD (ts : List (List Int)) : PyData := .list (ts.map pInts)
theorem sh_ts (ts : List (List Int)) : Sh 2 (tsD ts) := sh_list fun d hd => by
  obtain ⟨n, _, rfl⟩ := List.mem_map.mp hd
  exact sh_ints n
structure Rp (C : Addr) (K : PySem.W.Frag) (U H : Hp) (o lt le lw : Addr) (ts : List (List Int)) (es : List Int) (ws : List PyData) : Prop where
  ob : ∃ dx va, H o = some (.ins C dx [("told", .ref lt), ("ended", .ref le), ("wishes", .ref lw), ("applied", va)])
  uo : U o = none
  ut : U lt = none
  ue : U le = none
  uw : U lw = none
  n1 : lt ≠ le
  n2 : lt ≠ lw
  n3 : le ≠ lw
  t : ∃ ys, H lt = some (.lst ys) ∧ DpAll K U ys (ts.map pInts)
  e : H le = some (.lst (es.map V.int))
  w : ∃ ys, H lw = some (.lst ys) ∧ DpAll K U ys ws
theorem Rp.frame {C : Addr} {K : PySem.W.Frag} {U H U' H' : Hp} {o lt le lw : Addr} {ts : List (List Int)} {es : List Int} {ws : List PyData} (h : Rp C K U H o lt le lw ts es ws) (s : Same U U')
    (k : ∀ b, H b ≠ none → U b = none → (b = o ∨ b = lt ∨ b = le ∨ b = lw) → U' b = none ∧ H' b = H b) : Rp C K U' H' o lt le lw ts es ws := by
  obtain ⟨dx, va, e1⟩ := h.ob
  obtain ⟨yt, e2, d2⟩ := h.t
  obtain ⟨yw, e4, d4⟩ := h.w
  have e3 := h.e
  have k1 := k _ (by rw [e1]; exact fun z => by cases z) h.uo (.inl rfl)
  have k1 := (show _ ∧ _ = _ from ⟨k1.1, k1.2.trans e1⟩)
  have k2 := k _ (by rw [e2]; exact fun z => by cases z) h.ut (.inr (.inl rfl))
  have k2 := (show _ ∧ _ = _ from ⟨k2.1, k2.2.trans e2⟩)
  have k3 := k _ (by rw [e3]; exact fun z => by cases z) h.ue (.inr (.inr (.inl rfl)))
  have k3 := (show _ ∧ _ = _ from ⟨k3.1, k3.2.trans e3⟩)
  have k4 := k _ (by rw [e4]; exact fun z => by cases z) h.uw (.inr (.inr (.inr rfl)))
  have k4 := (show _ ∧ _ = _ from ⟨k4.1, k4.2.trans e4⟩)
  exact ⟨⟨dx, va, k1.2⟩, k1.1, k2.1, k3.1, k4.1, h.n1, h.n2, h.n3, ⟨yt, k2.2, d2.to s⟩, k3.2, ⟨yw, k4.2, d4.to s⟩⟩
def sp_Reply_tell (CE : Addr) (w : World) (C : Addr) (K : PySem.W.Frag) : Sp := fun vs H Q _ => ∃ (o lt le lw va : Addr) (n : Int) (intf name : Str) (ts : List (List Int)) (es : List Int) (ws : List PyData) (os : List Int) (U : Hp), vs = [.ref o, .int n, .str intf, .str name, .ref va] ∧ Same U H ∧ Rp C K U H o lt le lw ts es ws ∧ EvAt CE w K H n intf name va os ∧ ts.length ≤ 1000 ∧
  ∀ U' H', Same U U' → Same U' H' → (∀ b, U b = none → H b ≠ none → U' b = none) → (∀ b, H' b = none → H b = none) → (∀ b, b ≠ lt → H b ≠ none → H' b = H b) → Rp C K U' H' o lt le lw (ts ++ [os]) es ws → Q .non H'
theorem sc_Reply_tell : FnScope ["self", "number", "interface", "name", "values"] ["self", "number", "interface", "name", "values"] (defScope s_Reply_tell) := ⟨rfl, rfl, rfl, by decide +kernel, rfl, by decide +kernel, by decide +kernel⟩
theorem ok_Reply_tell (T : Txt0 P K mg A) : FnOk P w K mg base CX0 9 A.fReply_tell A.dReply_tell ["self", "number", "interface", "name", "values"] (sp_Reply_tell A.a_EVENTS w A.CReply K) := by
  refine T.FReply_tell.ok sc_Reply_tell (fun vs H Q E h => ?_) (fun cdv Ar outer s H vs Q E hr h => ?_)
  · obtain ⟨_, _, _, _, _, _, _, _, _, _, _, _, _, rfl, _⟩ := h
    rfl
  · obtain ⟨o, lt, le, lw, va, n, intf, name, ts, es, ws, os, U, rfl, sU, R, ev, hl, q⟩ := h
    obtain ⟨dx, wa, e1⟩ := R.ob
    obtain ⟨yt, et, dt⟩ := R.t
    have hyl : yt.length = ts.length := by rw [dpall_len dt, List.length_map]
    refine ⟨_, (pss_one (ps_expr (pe_bm PySem.F.plainAttrs_list PySem.F.slot_list_append PySem.F.type_list_append mt_append (pe_fldC T.clReply T.nReply_told (pv 0) rfl) (pa_cons (pe_call (ok_event_octets T) (hr.mono (by decide)) rfl T.gevent_octets T.kevent_octets T.bevent_octets .nil passL (pa_cons (pv 1) (pa_cons (pv 2) (pa_cons (pv 3) (pa_cons (pv 4) pa_nil))))) pa_nil)))), ?_⟩
    walk_at "gf"
    unfold tNil
    dsimp only
    refine ev.go fun p H2 n2 => ?_
    have np := n2.new
    have ns := n2.same
    have na := n2.at_
    have no : o ≠ lt := ne_of e1 et (by intro z; cases z)
    have s2 : Same U (upd U p (.lst (os.map V.int))) := by walk_at "h"
    have e2 : H2 lt = some (.lst yt) := ns _ _ et
    refine ⟨lt, _, _, rfl, rfl, e2, Nat.lt_of_lt_of_le (m := 100000) (by omega) (by decide), ?_⟩
    have hu := R.ut
    have k1 : ∀ b, b ≠ lt → H b ≠ none → (upd H2 lt (.lst (yt ++ [.ref p]))) b = H b := by walk_at "h"
    refine q (upd U p (.lst (os.map V.int))) _ s2 (by walk_at "h") (by walk_at "h") (by walk_at "nn") k1 ?_
    have R2 : Rp A.CReply K (upd U p (.lst (os.map V.int))) H2 o lt le lw ts es ws := R.frame s2 (by walk_at "h")
    obtain ⟨wx, e4, d4⟩ := R2.w
    have e3 := R2.e
    exact ⟨⟨dx, wa, by walk_at "h"⟩, R2.uo, R2.ut, R2.ue, R2.uw, R2.n1, R2.n2, R2.n3, ⟨_, upd_same, by rw [List.map_append]; exact dpall_app (dt.to s2) (.cons (dp_ints (SqL.of upd_same)) .nil)⟩, by rw [upd_ne R2.n1.symm]; exact e3, ⟨wx, by rw [upd_ne R2.n2.symm]; exact e4, d4⟩⟩
def sp_Reply___init__ (C : Addr) (K : PySem.W.Frag) : Sp := fun vs H Q _ => ∃ (o dx : Addr) (U : Hp), vs = [.ref o] ∧ H o = some (.ins C dx []) ∧ Same U H ∧ U o = none ∧ ∀ (p1 p2 p3 : Addr) (H' : Hp), Same U H' → (∀ b, b ≠ o → H b ≠ none → H' b = H b) → (∀ b, H' b = none → H b = none) → H p1 = none → H p2 = none → H p3 = none →
  Rp C K U H' o p1 p2 p3 [] [] [] → Q .non H'
theorem sc_Reply___init__ : FnScope ["self"] ["self"] (defScope s_Reply___init__) := ⟨rfl, rfl, rfl, by decide +kernel, rfl, by decide +kernel, by decide +kernel⟩
theorem ok_Reply___init__ (T : Txt0 P K mg A) : FnOk P w K mg base CX0 1 A.fReply___init__ A.dReply___init__ ["self"] (sp_Reply___init__ A.CReply K) := by
  refine T.FReply___init__.ok sc_Reply___init__ (fun vs H Q E h => ?_) (fun cdv Ar outer st H vs Q E hr h => ?_)
  · obtain ⟨_, _, _, rfl, _⟩ := h
    rfl
  · obtain ⟨ob, dx, U, rfl, ho, sU, uo, q⟩ := h
    refine ⟨_, (pss_cons (ps_fldC T.clReply T.nReply_told (pv 0) (pe_lst pa_nil) rfl)
      (pss_cons (ps_fldC T.clReply T.nReply_ended (pv 0) (pe_lst pa_nil) rfl)
      (pss_cons (ps_fldC T.clReply T.nReply_wishes (pv 0) (pe_lst pa_nil) rfl)
      (pss_one (ps_fldC T.clReply T.nReply_applied (pv 0) (pe_lst pa_nil) rfl))))), ?_⟩
    refine ⟨len_line (by show 0 ≤ 100000; decide), fun p1 n1 => ?_⟩
    have e1 : (upd H p1 (.lst [])) ob = some (.ins A.CReply dx []) := by walk_at "h"
    walk_at "gf"
    intro H1 f1 k1
    refine ⟨len_line (by show 0 ≤ 100000; decide), fun p2 n2 => ?_⟩
    have e2 : (upd H1 p2 (.lst [])) ob = some (.ins A.CReply dx _) := (same_upd n2) _ _ f1
    walk_at "gf"
    intro H2 f2 k2
    refine ⟨len_line (by show 0 ≤ 100000; decide), fun p3 n3 => ?_⟩
    have e3 : (upd H2 p3 (.lst [])) ob = some (.ins A.CReply dx _) := (same_upd n3) _ _ f2
    walk_at "gf"
    intro H3 f3 k3
    refine ⟨len_line (by show 0 ≤ 100000; decide), fun p4 n4 => ?_⟩
    have e4 : (upd H3 p4 (.lst [])) ob = some (.ins A.CReply dx _) := (same_upd n4) _ _ f3
    walk_at "gf"
    intro H4 f4 k4
    have z1 : p1 ≠ ob := by walk_at "h"
    have z2 : p2 ≠ ob := by walk_at "h"
    have z3 : p3 ≠ ob := by walk_at "h"
    have z4 : p4 ≠ ob := by walk_at "h"
    have g1 : H1 p1 = some (.lst []) := by walk_at "h"
    have g12 : p1 ≠ p2 := by walk_at "h"
    have g2 : H2 p1 = some (.lst []) ∧ H2 p2 = some (.lst []) := by walk_at "h"
    have g13 : p1 ≠ p3 := by walk_at "h"
    have g23 : p2 ≠ p3 := by walk_at "h"
    have g3 : H3 p1 = some (.lst []) ∧ H3 p2 = some (.lst []) ∧ H3 p3 = some (.lst []) := by walk_at "h"
    have g4 : H4 p1 = some (.lst []) ∧ H4 p2 = some (.lst []) ∧ H4 p3 = some (.lst []) := by walk_at "h"
    have m1 : ∀ b, b ≠ ob → H b ≠ none → H1 b = H b := by walk_at "h"
    have m2 : ∀ b, b ≠ ob → H b ≠ none → H2 b = H b := by walk_at "h"
    have m3 : ∀ b, b ≠ ob → H b ≠ none → H3 b = H b := by walk_at "h"
    have m4 : ∀ b, b ≠ ob → H b ≠ none → H4 b = H b := by walk_at "h"
    have f1' : H p1 = none := by walk_at "h"
    have f2' : H p2 = none := by walk_at "h"
    have f3' : H p3 = none := by walk_at "h"
    have sm : Same U H4 := by walk_at "h"
    refine q p1 p2 p3 H4 sm m4 (by walk_at "nn") f1' f2' f3' ⟨⟨dx, _, f4⟩, uo, sU.free f1', sU.free f2', sU.free f3', g12, g13, g23, ⟨[], g4.1, .nil⟩, g4.2.1, ⟨[], g4.2.2, .nil⟩⟩
/-! ### arguments of events -/
def argU (i : Int) : Arg := ⟨"uint", .num i, octs (i % 4294967296) 4⟩
def argI (i : Int) : Arg := ⟨"int", .num i, octs (i % 4294967296) 4⟩
def argO (i : Int) : Arg := ⟨"object", .num i, octs (i % 4294967296) 4⟩
def argT (s : Str) : Arg := ⟨"text", .txt s, textOcts s⟩
def u32 (i : Int) : Prop := 0 ≤ i ∧ i ≤ 4294967295
def okArgs : List Arg → Prop
  | [] => True
  | g :: r => (ArgSpec g.kind g.val true g.os ∧ g.os.length ≤ 60) ∧ okArgs r
theorem okArgs.at : ∀ {gs : List Arg}, okArgs gs → (∀ g ∈ gs, ArgSpec g.kind g.val true g.os ∧ g.os.length ≤ 60)
  | [], _ => fun g h => by cases h
  | g :: r, h => fun x hx => by
    rcases List.mem_cons.mp hx with rfl | hx
    · exact h.1
    · exact okArgs.at h.2 x hx
theorem okU {i : Int} (h : u32 i) : ArgSpec (argU i).kind (argU i).val true (argU i).os ∧ (argU i).os.length ≤ 60 := ⟨uintOk h, by show (octs _ 4).length ≤ 60; rw [octs_len]; decide⟩
theorem okO {i : Int} (h : 1 ≤ i ∧ i ≤ 4294967295) : ArgSpec (argO i).kind (argO i).val true (argO i).os ∧ (argO i).os.length ≤ 60 := ⟨objOk h, by show (octs _ 4).length ≤ 60; rw [octs_len]; decide⟩
theorem okI {i : Int} (h : -2147483648 ≤ i ∧ i ≤ 2147483647) : ArgSpec (argI i).kind (argI i).val true (argI i).os ∧ (argI i).os.length ≤ 60 := ⟨intOk h, by show (octs _ 4).length ≤ 60; rw [octs_len]; decide⟩
theorem okT {s : Str} (h : isText s = true) (l : s.length ≤ 50) : ArgSpec (argT s).kind (argT s).val true (argT s).os ∧ (argT s).os.length ≤ 60 := ⟨txtOk h, by show (textOcts s).length ≤ 60; have := textOcts_len s; omega⟩
theorem EvRow.evA {C : Addr} {w : World} {K : PySem.W.Frag} {intf name : Str} {j : Nat} {ks : List Str} (h : EvRow C w K intf name j ks) {H : Hp} {n : Int} {va : Addr} {xs : List V} (args : List Arg) (hn : 1 ≤ n ∧ n ≤ 4294967295) (hj : j ≤ 1000) (hk : args.map Arg.kind = ks) (h20 : args.length ≤ 20)
    (e : H va = some (.lst xs)) (hx : AllAt K H xs args) (ok : okArgs args) : EvAt C w K H n intf name va (msgOcts n j (bodyOf args)) := by
  have q := ok.at
  refine h.ev args hn hj hk h20 (SqL.of e) hx (fun g hg => (q g hg).1) ?_
  have := body_len_le (args := args) (c := 60) (fun g hg => (q g hg).2)
  have : 60 * args.length ≤ 60 * 20 := Nat.mul_le_mul_left _ h20
  omega
section
/-! ### a, b, *r = a list (our own rule, along the library's for lists of a known length) -/
open PySem PySem.Spec PySem.Calls PyProof.Rows PySem.W
theorem unpack_star {prog : Program} {w : World} {A : Around} {E : Value → Shared → Prop} {s : Shared} {l : Addr} {items : Array Value} {n : Nat} {Q : List Value → Shared → Prop} (hl : s.heap.IsList l items) (hh : A.handled = none) (hn : n ≤ items.size) (hz : items.size ≤ 16384)
    (h : ∀ (h' : Heap) tk, (∀ b o, s.heap.get? b = some o → h'.get? b = some o) → Q (items.toList.take n ++ [.ref h'.objs.size]) { s with heap := h'.push { cls := .type "list", data := .seq (items.toList.drop n).toArray }, toks := tk }) : wpAny (model prog w) A (unpackItems (.ref l) (n + 1) (some n)) Q E s := by
  have hlt : l ≠ s.heap.objs.size := by obtain ⟨o, ho, _⟩ := hl; exact Nat.ne_of_lt (Heap.lt_size ho)
  unfold unpackItems
  refine wpAny_bind ?_
  unfold notIterableAtAll
  refine wpAny_bind (wpAny_specialOf hl.typeIs slot_list_iter.lookup ?_)
  refine wpAny_pure ?_
  simp only [Bool.false_eq_true, if_false]
  refine wpAny_bind (wpAny_holding (wpAny_pyIter_list hl ?_))
  refine wpAny_bind (wpAny_holding (kun_draw hlt n 0 _ _ ⟨_, Heap.get?_push_size _ rfl, rfl, rfl⟩ (hl.push _) (by omega) fun h₁ hit₁ hs₁ => ?_))
  have hl₁ : h₁.IsList l items := (hl.push _).extBut hs₁.extBut hlt
  rw [Nat.zero_add] at hit₁
  have hit₁' := hit₁
  obtain ⟨oi, hoi, _⟩ := hit₁'
  have hl₁' := hl₁
  obtain ⟨ol, hol, _⟩ := hl₁'
  rw [List.drop_zero]
  have hfl : (items.toList.take n).length = n := by rw [List.length_take, Array.length_toList]; omega
  rw [if_neg (show ¬ ((items.toList.take n).length < n) by rw [hfl]; omega)]
  refine wpAny_bind (wpAny_holding (kun_collect (s := { s with heap := h₁ }) (T := "list_iterator") (.inr (.inr (.inl rfl))) (Walks.list (A := A.in1) hh s.heap.objs.size l hlt items) (fun j u st => st.1.typeIs) (k := n) (by omega) ⟨hit₁, hl₁⟩ (Heap.lt_size hoi) (Heap.lt_size hol) (fun h₂ tk hk => ?_) (by rw [sizeLine_eq]; omega)))
  have hrl : (items.toList.drop n).length = items.size - n := by rw [List.length_drop, Array.length_toList]
  have hmid : (items.toList.drop n).length - (n + 1 - 1 - n) = items.size - n := by rw [hrl]; omega
  show wpAny _ _ (if (items.toList.drop n).length < n + 1 - 1 - n then _ else _) _ _ _
  rw [if_neg (by rw [hrl]; omega)]
  show wpAny _ _ (newList ((items.toList.drop n).take ((items.toList.drop n).length - (n + 1 - 1 - n))) >>= fun d => pure (items.toList.take n ++ [d] ++ (items.toList.drop n).drop ((items.toList.drop n).length - (n + 1 - 1 - n)))) _ _ _
  rw [hmid, show (items.toList.drop n).take (items.size - n) = items.toList.drop n from List.take_of_length_le (by rw [hrl]; omega), show (items.toList.drop n).drop (items.size - n) = [] from List.drop_of_length_le (by rw [hrl]; omega)]
  have he : ∀ b o, s.heap.get? b = some o → h₂.get? b = some o := fun b o e => hk b o (Nat.ne_of_lt (Heap.lt_size e)) (hs₁.extBut b o (Nat.ne_of_lt (Heap.lt_size e)) (Heap.get?_push_of_some _ e))
  refine wpAny_bind (wpAny_newList (wpAny_pure ?_) (by rw [hrl, sizeLine_eq]; omega))
  rw [List.append_nil]
  exact h h₂ tk he
def gUnlS (K : PySem.W.Frag) (n : Nat) (t : TGs) : TG := fun v σ H Q => ∃ a xs, v = .ref a ∧ SqL K H a xs ∧ n ≤ xs.length ∧ xs.length ≤ 1000 ∧ ∀ D, H D = none → t (xs.take n ++ [.ref D]) σ (upd H D (.lst (xs.drop n))) Q
theorem pgs_star {X : Cx} {e : Expr} {p : Pos} {es : List Expr} {t : TG} {u : TGs} (h1 : PG X e t) (h2 : PGs X es u)
    (hs : (assignEach (.Starred e p :: es) X.env).map (·.2) = assign e X.env :: (assignEach es X.env).map (·.2) := by rfl) : PGs X (.Starred e p :: es) (gCons t u) := by
  refine ⟨fun pins s σ H vs us Q I r h => ?_⟩
  obtain ⟨v, vr, e1, h⟩ := h
  subst e1
  cases r with
  | cons r rr =>
    rw [hs]
    refine assignInOrder_cons (thn (h1.run pins s σ H _ _ _ I r h) fun _ s1 ⟨σ1, H1, I1, q1⟩ => ?_)
    exact h2.run pins s1 σ1 H1 _ _ Q I1 rr q1
theorem pg_unlS {X : Cx} {pos : Pos} {es : List Expr} {k : Nat} {t : TGs} {n : Nat} (hc : X.calm = true) (h : PGs X es t)
    (hn : (assignEach es X.env).length = n + 1 := by rfl) (hst : (assignEach es X.env).findIdx? (·.1) = some n := by rfl) : PG X (.Tuple es k pos) (gUnlS X.K n t) := by
  refine ⟨fun pins s σ H v u Q I r hw => ?_⟩
  obtain ⟨a, xs, e1, hq, hl, hl2, hw⟩ := hw
  subst e1
  cases r
  obtain ⟨its, rv, pl, hz⟩ := I.list hq
  have hl' : s.heap.IsList a its.toArray := by
    obtain ⟨o, m, e, c, d, q⟩ := pl
    exact ⟨o, e, c, m, q⟩
  have hlen := rv.length
  rw [PyProof.Rows.assign_Tuple]
  refine wpAny_bind (wpAny_standAt ?_)
  unfold unpack
  rw [hn, hst]
  refine wpAny_bind (wpAny_holding (unpack_star hl' (I.ok.hd hc) (by rw [List.size_toArray]; omega) (by rw [List.size_toArray]; omega) fun h' tk hx => ?_))
  have I1 : Inv X pins σ H { s with heap := h', toks := tk } := I.kept (t' := tk) fun b o e => hx b o e
  have hf := I1.hok.fresh (Nat.le_refl _)
  have I2 := I1.laid (t' := tk) (o := .lst (xs.drop n)) (fun b u e => Heap.get?_push_of_some _ e) (Nat.le_refl _) ⟨Nat.le_trans (by rw [List.length_drop]; omega) (len_line (n := 1000) (by decide)), its.drop n, 0, rv.drop n, Heap.get?_push_size _ rfl⟩
  exact h.run pins _ σ _ _ _ Q I2 (by
    rw [List.toList_toArray]
    exact (rv.take n).append (.cons rfl .nil)) (hw _ hf)
end
section
/-! ### several dicts are held while an expression is read (our own rule, of the library's for one) -/
open PySem PySem.Spec PyProof.Rows
def tLk (t : TE) : Nat → TE
  | 0 => t
  | n + 1 => tLockE (tLk t n)
theorem pe_lk {X : Cx} {e : Expr} {t : TE} (h : PE X e t) : ∀ n, PE X e (tLk t n)
  | 0 => h
  | n + 1 => pe_lock (pe_lk h n)
def tLocks (t : TE) : TE := fun σ H Q => ∃ n, tLk t n σ H Q
theorem pe_locks {X : Cx} {e : Expr} {t : TE} (h : PE X e t) : PE X e (tLocks t) := by
  refine ⟨fun pins s σ H Q I hw => ?_⟩
  obtain ⟨n, hw⟩ := hw
  exact (pe_lk h n).run pins s σ H Q I hw
/-- the heap with some dicts held -/
structure Held (ds : List (Addr × HO)) (H H' : Hp) : Prop where
  on : ∀ p ∈ ds, ∃ od, H' p.1 = some (.frz od p.2)
  off : ∀ b, b ∉ ds.map Prod.fst → H' b = H b
/-- the heap with them let go -/
structure Freed (ds : List (Addr × HO)) (H H' : Hp) : Prop where
  on : ∀ p ∈ ds, H' p.1 = some p.2
  off : ∀ b, b ∉ ds.map Prod.fst → H' b = H b
theorem locks_go {t : TE} {σ : L2.St} (R : V → Hp → Prop) : ∀ (ds : List (Addr × HO)) (H : Hp) (Q : VK), (ds.map Prod.fst).Nodup → (∀ p ∈ ds, H p.1 = some p.2 ∧ Mut (some p.2)) →
    (∀ (H' : Hp) (Q2 : VK), Held ds H H' → (∀ v H2, (∀ p ∈ ds, H2 p.1 = H' p.1) → R v H2 → Q2 v H2) → t σ H' Q2) →
    (∀ v H2 H3, R v H2 → Freed ds H2 H3 → Q v H3) → tLk t ds.length σ H Q
  | [], H, Q, _, _, h, q => by
    refine h H Q ⟨fun p hp => (by cases hp), fun b _ => rfl⟩ fun v H2 _ r => q v H2 H2 r ⟨fun p hp => (by cases hp), fun b _ => rfl⟩
  | d :: ds, H, Q, nd, hd, h, q => by
    rw [List.map_cons, List.nodup_cons] at nd
    obtain ⟨e, mu⟩ := hd d List.mem_cons_self
    refine ⟨d.1, d.2, e, mu, fun od => ?_⟩
    refine locks_go (fun v H2 => R v H2 ∧ H2 d.1 = some (.frz od d.2)) ds _ _ nd.2 (fun p hp => ?_) (fun H' Q2 hh hq => ?_) (fun v H2 H3 r f => ?_)
    · have : p.1 ≠ d.1 := fun z => nd.1 (by rw [← z]; exact List.mem_map_of_mem hp)
      rw [upd_ne this]
      exact hd p (List.mem_cons_of_mem _ hp)
    · have ed : H' d.1 = some (.frz od d.2) := by rw [hh.off _ nd.1, upd_same]
      refine h H' Q2 ⟨fun p hp => ?_, fun b hb => ?_⟩ fun v H2 k r => hq v H2 (fun p hp => k p (List.mem_cons_of_mem _ hp)) ⟨r, (k d List.mem_cons_self).trans ed⟩
      · rcases List.mem_cons.mp hp with rfl | hp
        · exact ⟨od, ed⟩
        · exact hh.on p hp
      · rw [List.map_cons, List.mem_cons, not_or] at hb
        rw [hh.off b hb.2, upd_ne hb.1]
    · obtain ⟨r1, r2⟩ := r
      have e3 : H3 d.1 = some (.frz od d.2) := by rw [f.off _ nd.1]; exact r2
      refine ⟨e3, q v H2 _ r1 ⟨fun p hp => ?_, fun b hb => ?_⟩⟩
      · rcases List.mem_cons.mp hp with rfl | hp
        · exact upd_same
        · have : p.1 ≠ d.1 := fun z => nd.1 (by rw [← z]; exact List.mem_map_of_mem hp)
          rw [upd_ne this]; exact f.on p hp
      · rw [List.map_cons, List.mem_cons, not_or] at hb
        rw [upd_ne hb.1, f.off b hb.2]
end
/-! ### a request; a fault that goes up -/
def sp_Request___init__ (C : Addr) : Sp := fun vs H Q _ => ∃ (a dx : Addr) (n : Int) (i m : Str) (va : V) (e : Bool), vs = [.ref a, .int n, .str i, .str m, va, .bl e] ∧ H a = some (.ins C dx []) ∧ ∀ H' : Hp, H' a = some (.ins C dx [("number", .int n), ("interface", .str i), ("name", .str m), ("arguments", va), ("ends", .bl e)]) → (∀ b, b ≠ a → H' b = H b) → Q .non H'
theorem sc_Request___init__ : FnScope ["self", "number", "interface", "name", "arguments", "ends"] ["self", "number", "interface", "name", "arguments", "ends"] (defScope s_Request___init__) := ⟨rfl, rfl, rfl, by decide +kernel, rfl, by decide +kernel, by decide +kernel⟩
theorem ok_Request___init__ (T : Txt0 P K mg A) : FnOk P w K mg base CX0 1 A.fRequest___init__ A.dRequest___init__ ["self", "number", "interface", "name", "arguments", "ends"] (sp_Request___init__ A.CRequest) := by
  refine T.FRequest___init__.ok sc_Request___init__ (fun vs H Q E h => ?_) (fun cdv Ar outer st H vs Q E hr h => ?_)
  · obtain ⟨_, _, _, _, _, _, _, rfl, _⟩ := h
    rfl
  · obtain ⟨a, dx, n, i, m, va, e, rfl, ho, q⟩ := h
    replace q := Hid.mk q
    refine ⟨_, (pss_cons (ps_fldC T.clRequest T.nRequest_number (pv 0) (pv 1) rfl)
      (pss_cons (ps_fldC T.clRequest T.nRequest_interface (pv 0) (pv 2) rfl)
      (pss_cons (ps_fldC T.clRequest T.nRequest_name (pv 0) (pv 3) rfl)
      (pss_cons (ps_fldC T.clRequest T.nRequest_arguments (pv 0) (pv 4) rfl)
      (pss_one (ps_fldC T.clRequest T.nRequest_ends (pv 0) (pv 5) rfl)))))), ?_⟩
    walk_at "gf"
    intro H1 f1 k1
    walk_at "gf"
    intro H2 f2 k2
    walk_at "gf"
    intro H3 f3 k3
    walk_at "gf"
    intro H4 f4 k4
    walk_at "gf"
    intro H5 f5 k5
    exact q.go H5 f5 (fun b hb => by rw [k5 b hb, k4 b hb, k3 b hb, k2 b hb, k1 b hb])
structure Rq (C : Addr) (H : Hp) (r : Addr) (n : Int) (i m : Str) (va : V) : Prop where
  ob : ∃ dx e, H r = some (.ins C dx [("number", .int n), ("interface", .str i), ("name", .str m), ("arguments", va), ("ends", .bl e)])
/-- a Fault goes up -/
def FaultTo (A : Adr) (H : Hp) (E : XK) (n c : Int) (wd : Str) : Prop := ∀ dd H', H dd = none → H' dd = some (.xd (ffF n c wd)) → (∀ b, H b ≠ none → H' b = H b) → (∀ b, b ≠ dd → H' b = none → H b = none) → E (.ref A.CFault) (some dd) H'
def rListOf (K : PySem.W.Frag) : List V → Hp → VK → Prop := fun xs H Q => ∃ p ys, xs = [V.ref p] ∧ (SqL K H p ys ∨ SqT K H p ys) ∧ ∀ l, H l = none → Q (V.ref l) (upd H l (HO.lst ys))
theorem call_len_lst {X : Cx} {K : PySem.W.Frag} (h : X.K = K) : CallR X (.builtin "len") (fun xs H Q => ∃ p ys, xs = [V.ref p] ∧ (SqL K H p ys ∨ SqT K H p ys) ∧ Q (V.int (ys.length : Int)) H) := h ▸ call_len_seq
/-! ### sources -/
structure Src where
  n : Int
  used : Bool
  ps : List (Str × List Int)
def srcF (pd : Addr) (u : Bool) : List (Str × V) := [("pieces", .ref pd), ("is_used", .bl u)]
def kvS (as : List (Addr × Addr)) (ss : List Src) : List (Key × V) := (as.zip ss).map fun z => ((.inl z.2.n : Key), V.ref z.1.1)
def frV (as : List (Addr × Addr)) (ss : List Src) : List V := ((as.zip ss).filter fun z => !z.2.used).map fun z => V.ref z.1.1
def fresh (ss : List Src) : List Src := ss.filter fun s => !s.used
theorem kvS_len {as : List (Addr × Addr)} {ss : List Src} (h : as.length = ss.length) : (kvS as ss).length = ss.length := by
  unfold kvS; rw [List.length_map, List.length_zip]; omega
theorem frV_len : ∀ {as : List (Addr × Addr)} {ss : List Src}, as.length = ss.length → (frV as ss).length = (fresh ss).length
  | [], [], _ => rfl
  | a :: as, s :: ss, h => by
    have ih := frV_len (as := as) (ss := ss) (by simpa using h)
    unfold frV fresh at ih ⊢
    rw [List.zip_cons_cons]
    by_cases c : s.used = true
    · rw [List.filter_cons_of_neg (by simp [c]), List.filter_cons_of_neg (by simp [c])]; exact ih
    · rw [List.filter_cons_of_pos (by simp [c]), List.filter_cons_of_pos (by simp [c]), List.map_cons, List.length_cons, List.length_cons, ih]
  | [], _ :: _, h => by cases h
  | _ :: _, [], h => by cases h
/-- what is looked up under a number -/
theorem kvS_val {n : Int} : ∀ {as : List (Addr × Addr)} {ss : List Src}, as.length = ss.length → (valV (kvS as ss) (.inl n) = none ∧ ∀ s ∈ ss, s.n ≠ n) ∨ ∃ (i : Nat) (p : Addr × Addr) (s : Src), as[i]? = some p ∧ ss[i]? = some s ∧ s.n = n ∧ valV (kvS as ss) (.inl n) = some (.ref p.1)
  | [], [], _ => .inl ⟨rfl, fun s hs => by cases hs⟩
  | a :: as, s :: ss, h => by
    have e : kvS (a :: as) (s :: ss) = (.inl s.n, V.ref a.1) :: kvS as ss := rfl
    rw [e]
    by_cases c : s.n = n
    · exact .inr ⟨0, a, s, rfl, rfl, c, valV_pos (by rw [c])⟩
    · rw [valV_neg (fun z => c (by injection z))]
      rcases kvS_val (n := n) (as := as) (ss := ss) (by simpa using h) with ⟨h1, h2⟩ | ⟨i, p, s', h1, h2, h3, h4⟩
      · exact .inl ⟨h1, fun x hx => (List.mem_cons.mp hx).elim (fun z => by rw [z]; exact c) (h2 x)⟩
      · exact .inr ⟨i + 1, p, s', h1, h2, h3, h4⟩
  | [], _ :: _, h => by cases h
  | _ :: _, [], h => by cases h
theorem kvS_none {n : Int} : ∀ {as : List (Addr × Addr)} {ss : List Src}, (∀ s ∈ ss, s.n ≠ n) → valV (kvS as ss) (.inl n) = none
  | [], ss, _ => by unfold kvS; rfl
  | _ :: _, [], _ => rfl
  | a :: as, s :: ss, h => by
    have e : kvS (a :: as) (s :: ss) = (.inl s.n, V.ref a.1) :: kvS as ss := rfl
    rw [e, valV_neg (fun z => h s List.mem_cons_self (by injection z))]
    exact kvS_none fun x hx => h x (List.mem_cons_of_mem _ hx)
/-- the number's own source -/
theorem kvS_at {n : Int} : ∀ {as : List (Addr × Addr)} {ss : List Src} {i : Nat} {p : Addr × Addr} {s : Src}, (ss.map Src.n).Nodup → as[i]? = some p → ss[i]? = some s → s.n = n → valV (kvS as ss) (.inl n) = some (.ref p.1)
  | a :: as, s :: ss, 0, p, t, nd, h1, h2, e => by cases h1; cases h2; exact valV_pos (by show Sum.inl _ = _; rw [e])
  | a :: as, s :: ss, i + 1, p, t, nd, h1, h2, e => by
    rw [List.map_cons, List.nodup_cons] at nd
    have h2' : ss[i]? = some t := h2
    have : s.n ≠ n := fun z => nd.1 (by rw [z, ← e]; exact List.mem_map_of_mem (List.mem_of_getElem? h2'))
    have e' : kvS (a :: as) (s :: ss) = (.inl s.n, V.ref a.1) :: kvS as ss := rfl
    rw [e', valV_neg (fun z => this (by injection z))]
    exact kvS_at nd.2 h1 h2 e
  | [], _, _, _, _, _, h1, _, _ => by cases h1
  | _ :: _, [], _, _, _, _, _, h2, _ => by cases h2
theorem kvS_snoc {as : List (Addr × Addr)} {ss : List Src} (h : as.length = ss.length) (p : Addr × Addr) (s : Src) : kvS (as ++ [p]) (ss ++ [s]) = kvS as ss ++ [(.inl s.n, .ref p.1)] := by
  unfold kvS; rw [List.zip_append h, List.map_append]; rfl
theorem kvS_set {as : List (Addr × Addr)} : ∀ {ss : List Src} {i : Nat} {s t : Src}, ss[i]? = some s → t.n = s.n → kvS as (ss.set i t) = kvS as ss := by
  induction as with
  | nil => intro ss i s t _ _; unfold kvS; rfl
  | cons a as ih =>
    intro ss i s t h e
    cases ss with
    | nil => cases h
    | cons b ss =>
      cases i with
      | zero => cases h; show ((.inl t.n, V.ref a.1) :: kvS as ss : List (Key × V)) = (.inl s.n, V.ref a.1) :: kvS as ss; rw [e]
      | succ i =>
        have h' : ss[i]? = some s := h
        have := ih h' e
        show ((.inl b.n, V.ref a.1) :: kvS as (ss.set i t) : List (Key × V)) = (.inl b.n, V.ref a.1) :: kvS as ss
        rw [this]
/-- a source's own object, without its pieces -/
def SrcI (C : Addr) (H : Hp) (p : Addr × Addr) (s : Src) : Prop := ∃ dx, H p.1 = some (.ins C dx (srcF p.2 s.used))
/-- the pieces -/
def PcR (U : Hp) : List (Key × V) → List (Str × List Int) → Prop
  | [], [] => True
  | kv :: r, p :: s => kv.1 = .inr p.1 ∧ (∃ b, kv.2 = .ref b ∧ U b = some (.lst (p.2.map V.int))) ∧ PcR U r s
  | _, _ => False
theorem PcR.to {U U' : Hp} (s : Same U U') : ∀ {kvs : List (Key × V)} {ps : List (Str × List Int)}, PcR U kvs ps → PcR U' kvs ps
  | [], [], _ => trivial
  | _ :: _, _ :: _, ⟨a, ⟨b, e, eb⟩, c⟩ => ⟨a, ⟨b, e, s _ _ eb⟩, PcR.to s c⟩
  | [], _ :: _, h => h.elim
  | _ :: _, [], h => h.elim
theorem PcR.len {U : Hp} : ∀ {kvs : List (Key × V)} {ps : List (Str × List Int)}, PcR U kvs ps → kvs.length = ps.length
  | [], [], _ => rfl
  | _ :: _, _ :: _, ⟨_, _, c⟩ => by rw [List.length_cons, List.length_cons, PcR.len c]
  | [], _ :: _, h => h.elim
  | _ :: _, [], h => h.elim
theorem PcR.get {U : Hp} : ∀ {kvs : List (Key × V)} {ps : List (Str × List Int)} {i : Nat} {kv : Key × V}, PcR U kvs ps → kvs[i]? = some kv → ∃ p b, ps[i]? = some p ∧ kv = (.inr p.1, .ref b) ∧ U b = some (.lst (p.2.map V.int))
  | [], [], i, kv, _, e => by cases e
  | kv :: _, p :: _, 0, _, ⟨a, ⟨b, e, eb⟩, _⟩, z => by cases z; exact ⟨p, b, rfl, Prod.ext a e, eb⟩
  | _ :: _, _ :: _, i + 1, kv, ⟨_, _, c⟩, z => PcR.get (i := i) c z
  | [], _ :: _, _, _, h, _ => h.elim
  | _ :: _, [], _, _, h, _ => h.elim
def pcFind (ps : List (Str × List Int)) (k : Str) : Option (List Int) := (ps.find? fun p => decide (p.1 = k)).map Prod.snd
theorem PcR.val {U : Hp} (k : Str) : ∀ {kvs : List (Key × V)} {ps : List (Str × List Int)}, PcR U kvs ps → (valV kvs (.inr k) = none ∧ pcFind ps k = none) ∨ ∃ b os, valV kvs (.inr k) = some (.ref b) ∧ pcFind ps k = some os ∧ U b = some (.lst (os.map V.int))
  | [], [], _ => .inl ⟨rfl, rfl⟩
  | kv :: r, p :: s, ⟨a, ⟨b, e, eb⟩, c⟩ => by
    by_cases h : p.1 = k
    · exact .inr ⟨b, p.2, by rw [valV_pos (by rw [a, h]), e], by unfold pcFind; rw [List.find?_cons_of_pos (by exact decide_eq_true h)]; rfl, eb⟩
    · rw [valV_neg (fun z => h (by rw [a] at z; injection z)), show pcFind (p :: s) k = pcFind s k from by unfold pcFind; rw [List.find?_cons_of_neg (by simpa using h)]]
      exact c.val k
  | [], _ :: _, h => h.elim
  | _ :: _, [], h => h.elim
/-- octets more under a kind -/
def putP (ps : List (Str × List Int)) (k : Str) (os : List Int) : List (Str × List Int) := match pcFind ps k with
  | none => ps ++ [(k, os)]
  | some _ => ps.map fun p => if p.1 = k then (p.1, p.2 ++ os) else p
theorem PcR.app {U : Hp} {k : Str} {b : Addr} {os : List Int} (hb : U b = some (.lst (os.map V.int))) : ∀ {kvs : List (Key × V)} {ps : List (Str × List Int)}, PcR U kvs ps → PcR U (kvs ++ [(.inr k, .ref b)]) (ps ++ [(k, os)])
  | [], [], _ => ⟨rfl, ⟨b, rfl, hb⟩, trivial⟩
  | _ :: _, _ :: _, ⟨a, e, c⟩ => ⟨a, e, c.app hb⟩
  | [], _ :: _, h => h.elim
  | _ :: _, [], h => h.elim
theorem PcR.map {U : Hp} {k : Str} {b : Addr} {os0 os : List Int} (hb : U b = some (.lst ((os0 ++ os).map V.int))) : ∀ {kvs : List (Key × V)} {ps : List (Str × List Int)}, (∀ p ∈ ps, p.1 = k → p.2 = os0) → PcR U kvs ps → PcR U (kvs.map fun kv => if kv.1 = (.inr k : Key) then (kv.1, .ref b) else kv) (ps.map fun p => if p.1 = k then (p.1, p.2 ++ os) else p)
  | [], [], _, _ => trivial
  | kv :: r, p :: s, u, ⟨a, e, c⟩ => by
    have ih := PcR.map (k := k) (os := os) hb (fun q hq => u q (List.mem_cons_of_mem _ hq)) c
    rw [List.map_cons, List.map_cons]
    by_cases h : p.1 = k
    · rw [if_pos (by rw [a, h]), if_pos h]
      exact ⟨a, ⟨b, rfl, by rw [u p List.mem_cons_self h]; exact hb⟩, ih⟩
    · rw [if_neg (fun z => h (by rw [a] at z; injection z)), if_neg h]
      exact ⟨a, e, ih⟩
  | [], _ :: _, _, h => h.elim
  | _ :: _, [], _, h => h.elim
theorem pcFind_uniq {k : Str} {os : List Int} : ∀ {ps : List (Str × List Int)}, (ps.map Prod.fst).Nodup → pcFind ps k = some os → ∀ p ∈ ps, p.1 = k → p.2 = os
  | [], _, h, _, hp, _ => by cases hp
  | q :: r, nd, h, p, hp, e => by
    rw [List.map_cons, List.nodup_cons] at nd
    unfold pcFind at h
    by_cases c : q.1 = k
    · rw [List.find?_cons_of_pos (by exact decide_eq_true c)] at h
      rcases List.mem_cons.mp hp with rfl | hp
      · exact Option.some.inj h
      · exact absurd (by rw [c, ← e]; exact List.mem_map_of_mem hp) nd.1
    · rw [List.find?_cons_of_neg (by simpa using c)] at h
      rcases List.mem_cons.mp hp with rfl | hp
      · exact absurd e c
      · exact pcFind_uniq nd.2 h p hp e
theorem PcR.put {U : Hp} {k : Str} {b : Addr} {os : List Int} {kvs : List (Key × V)} {ps : List (Str × List Int)} (h : PcR U kvs ps) (nd : (ps.map Prod.fst).Nodup) (hb : U b = some (.lst (((pcFind ps k).getD [] ++ os).map V.int))) : PcR U (putK kvs (.inr k) (.ref b)) (putP ps k os) := by
  unfold putP
  rcases h.val k with ⟨h1, h2⟩ | ⟨b', os', h1, h2, _⟩
  · rw [putK_new _ h1]
    rw [h2] at hb ⊢
    exact h.app hb
  · rw [h2] at hb ⊢
    unfold putK
    rw [if_pos (by rw [valV_any, h1]; rfl)]
    exact h.map hb (pcFind_uniq nd h2)
theorem putP_keys {ps : List (Str × List Int)} {k : Str} {os : List Int} (nd : (ps.map Prod.fst).Nodup) : ((putP ps k os).map Prod.fst).Nodup := by
  unfold putP
  cases h : pcFind ps k with
  | none =>
    dsimp only
    rw [List.map_append, List.nodup_append]
    refine ⟨nd, List.nodup_cons.mpr ⟨by simp, List.nodup_nil⟩, fun x hx y hy => ?_⟩
    obtain ⟨p, hp, rfl⟩ := List.mem_map.mp hx
    have hy' : y = k := by simpa using hy
    subst hy'
    unfold pcFind at h
    have := List.find?_eq_none.mp (Option.map_eq_none_iff.mp h) p hp
    simpa using this
  | some o =>
    dsimp only
    rw [List.map_map]
    have : (Prod.fst ∘ fun p : Str × List Int => if p.1 = k then (p.1, p.2 ++ os) else p) = Prod.fst := funext fun p => by
      show (if p.1 = k then (p.1, p.2 ++ os) else p).1 = p.1
      split <;> rfl
    rw [this]; exact nd
/-- the sources, as they stand -/
structure Ss (A : Adr) (U H : Hp) (so sd : Addr) (as : List (Addr × Addr)) (ss : List Src) : Prop where
  ob : ∃ dx, U so = some (.ins A.CSources dx [("_sources", .ref sd)])
  e : H sd = some (.dK (kvS as ss))
  u : U sd = none
  len : as.length = ss.length
  nd : (ss.map Src.n).Nodup
  n1 : (as.map Prod.fst).Nodup
  n2 : (as.map Prod.snd).Nodup
  n3 : sd ∉ as.map Prod.snd
  uu : ∀ p ∈ as, U p.1 = none ∧ U p.2 = none
  io : ∀ (i : Nat) (p : Addr × Addr) (s : Src), as[i]? = some p → ss[i]? = some s → SrcI A.CSource H p s
  po : ∀ (i : Nat) (p : Addr × Addr) (s : Src), as[i]? = some p → ss[i]? = some s → ∃ kvs, H p.2 = some (.dK kvs) ∧ PcR U kvs s.ps
  pk : ∀ s ∈ ss, (s.ps.map Prod.fst).Nodup
def foot (sd : Addr) (as : List (Addr × Addr)) (b : Addr) : Prop := b = sd ∨ ∃ p ∈ as, b = p.1 ∨ b = p.2
theorem Ss.frame {A : Adr} {U H U' H' : Hp} {so sd : Addr} {as : List (Addr × Addr)} {ss : List Src} (h : Ss A U H so sd as ss) (s : Same U U') (k : ∀ b, H b ≠ none → U b = none → foot sd as b → U' b = none ∧ H' b = H b) : Ss A U' H' so sd as ss := by
  obtain ⟨dx, e⟩ := h.ob
  have k1 := k sd (by rw [h.e]; exact fun z => by cases z) h.u (.inl rfl)
  have hp : ∀ p ∈ as, ∃ i s, as[i]? = some p ∧ ss[i]? = some s := fun p hp => by
    obtain ⟨i, hi⟩ := List.getElem?_of_mem hp
    have hl : i < ss.length := by have := (List.getElem?_eq_some_iff.mp hi).1; have := h.len; omega
    exact ⟨i, _, hi, List.getElem?_eq_getElem hl⟩
  have kk : ∀ p ∈ as, (U' p.1 = none ∧ H' p.1 = H p.1) ∧ (U' p.2 = none ∧ H' p.2 = H p.2) := fun p hpm => by
    obtain ⟨i, s, h1, h2⟩ := hp p hpm
    obtain ⟨dx, e1⟩ := h.io i p s h1 h2
    obtain ⟨kvs, e2, _⟩ := h.po i p s h1 h2
    exact ⟨k _ (by rw [e1]; exact fun z => by cases z) (h.uu p hpm).1 (.inr ⟨p, hpm, .inl rfl⟩), k _ (by rw [e2]; exact fun z => by cases z) (h.uu p hpm).2 (.inr ⟨p, hpm, .inr rfl⟩)⟩
  refine ⟨⟨dx, s _ _ e⟩, k1.2.trans h.e, k1.1, h.len, h.nd, h.n1, h.n2, h.n3, fun p hpm => ⟨(kk p hpm).1.1, (kk p hpm).2.1⟩, fun i p t h1 h2 => ?_, fun i p t h1 h2 => ?_, h.pk⟩
  · obtain ⟨dx, e1⟩ := h.io i p t h1 h2
    exact ⟨dx, (kk p (List.mem_of_getElem? h1)).1.2.trans e1⟩
  · obtain ⟨kvs, e2, r⟩ := h.po i p t h1 h2
    exact ⟨kvs, (kk p (List.mem_of_getElem? h1)).2.2.trans e2, r.to s⟩
/-- what is a list, a tuple or another class's is none of the sources' -/
theorem Ss.out {A : Adr} {U H : Hp} {so sd : Addr} {as : List (Addr × Addr)} {ss : List Src} (h : Ss A U H so sd as ss) {b : Addr} {u : HO} (e : H b = some u) (n1 : ∀ k, u ≠ .dK k) (n2 : ∀ dx f, u ≠ .ins A.CSource dx f) : ¬ foot sd as b := by
  rintro (rfl | ⟨p, hp, rfl | rfl⟩)
  · rw [h.e] at e; cases e; exact n1 _ rfl
  · obtain ⟨i, hi⟩ := List.getElem?_of_mem hp
    have hl : i < ss.length := by have := (List.getElem?_eq_some_iff.mp hi).1; have := h.len; omega
    obtain ⟨dx, e1⟩ := h.io i p _ hi (List.getElem?_eq_getElem hl)
    rw [e1] at e; cases e; exact n2 _ _ rfl
  · obtain ⟨i, hi⟩ := List.getElem?_of_mem hp
    have hl : i < ss.length := by have := (List.getElem?_eq_some_iff.mp hi).1; have := h.len; omega
    obtain ⟨kvs, e1, _⟩ := h.po i p _ hi (List.getElem?_eq_getElem hl)
    rw [e1] at e; cases e; exact n1 _ rfl
/-! ### comprehensions over a dict's pairs -/
theorem lc_items {d : Addr} {od : Obj} {kvs : List (Key × V)} {K : PySem.W.Frag} {V0 H0 : Hp} {D : Addr} {g : TG} {tt : TT} {te : TE} {vs : List Nat} {σ : L2.St} {Qd : Hp → Prop} (f : Nat → Option PyData) (σ0 : L2.St) (hσ : wipe σ vs = σ0) (s0 : Same V0 H0) (hD : H0 D = none) (e : H0 d = some (.frz od (.dK kvs))) (hn : kvs.length < 100000)
    (hs : ∀ (i : Nat) (k : Key) (v : V) (U H : Hp) (T : Addr), kvs[i]? = some (k, v) → Ext V0 H0 U H → H T = some (.tup [kV k, v]) → ∀ (Qy : VK) (Qn : Hp → Prop), (∀ dd y V' H', f i = some dd → Ext U H V' H' → Dp K V' y dd → Qy y H') → (f i = none → ∀ V' H', Ext U H V' H' → Qn H') →
      g (.ref T) σ0 H fun σ2 H2 => wipe σ2 vs = σ0 ∧ tt σ2 H2 fun b H3 => if b = true then te σ2 H3 Qy else Qn H3)
    (hd : ∀ (U H : Hp) (xs : List V), Ext V0 H0 U H → U D = some (.lst xs) → DpAll K U xs (fm f kvs.length) → Dp K U (.ref D) (.list (fm f kvs.length)) → Qd H) :
    ∃ W : Nat → Nat → Hp → Prop, (∃ m, W 0 m (upd H0 D (.lst []))) ∧ ∀ i m H, W i m H →
      ((Iti d od kvs).stop i H ∧ Qd H) ∨ ((Iti d od kvs).go i H ∧ ∃ Nx : Hp → Prop, (∀ H', Nx H' → ∃ m', m' < m ∧ W (i + 1) m' H') ∧ ∀ x H', (Iti d od kvs).yld i H x H' → g x (wipe σ vs) H' fun σ2 H2 => wipe σ2 vs = wipe σ vs ∧ tt σ2 H2 fun b H3 =>
        if b = true then te σ2 H3 fun y H4 => ∃ acc, H4 D = some (.lst acc) ∧ acc.length < sizeLine ∧ Nx (upd H4 D (.lst (acc ++ [y]))) else Nx H3) := by
  subst hσ
  refine lc_it (walk_items (d := d) (o := od) (kvs := kvs)) (fun i H => LcInv K V0 H0 D (fm f i) H) (LcInv.start s0 hD) (fun i H _ p => ?_) (fun i x H H' hi p y => ?_) (fun H p => ?_)
  · obtain ⟨U, xs, x, _⟩ := p.ex
    exact x.hh _ _ e
  · obtain ⟨U, xs, x0, hv, hdd, dp⟩ := p.ex
    obtain ⟨T, kx, vx, rfl, hT, rfl, hk, hvx⟩ := y
    obtain ⟨kv, hkv⟩ : ∃ kv, kvs[i]? = some kv := ⟨_, List.getElem?_eq_getElem hi⟩
    dsimp only at hk hvx
    rw [hkv] at hk hvx
    obtain rfl : kV kv.1 = kx := Option.some.inj hk
    obtain rfl : kv.2 = vx := Option.some.inj hvx
    have x1 := Ext.skip (o := .tup [kV kv.1, kv.2]) x0.vh hT
    have hTD : D ≠ T := fun z => by rw [z, hT] at hdd; cases hdd
    refine hs i kv.1 kv.2 U _ T hkv (x0.trans x1) upd_same _ _ (fun dd y' V' H4 ef x2 dy => ?_) (fun ef V' H4 x2 => ?_)
    · have hl : (fm f i).length < 100000 := Nat.lt_of_le_of_lt (fm_len f i) (Nat.lt_trans hi hn)
      obtain ⟨acc', a1, a2, a3⟩ := LcInv.push hD (x0.trans x1) hv ((upd_ne hTD).trans hdd) dp x2 dy hl
      refine ⟨acc', a1, a2, ?_⟩
      rw [fm_succ, ef]
      exact a3
    · have hv' : V' D = none := x2.keepOut hv (by rw [upd_ne hTD, hdd]; exact fun z => by cases z)
      rw [fm_succ, ef]
      show LcInv K V0 H0 D (fm f i ++ []) H4
      rw [List.append_nil]
      exact ⟨V', xs, (x0.trans x1).trans x2, hv', x2.hh _ _ ((upd_ne hTD).trans hdd), dp.to x2.vv⟩
  · obtain ⟨U, xs, x, hv, hdd, dp⟩ := p.ex
    exact hd _ H xs (x.take hD hv hdd) upd_same (dp.to (same_upd hv)) (.lst (SqL.of upd_same) (dp.to (same_upd hv)))
/-! ### what sources do -/
/-- a comprehension that keeps some of a dict's values, whatever they are -/
theorem lc_keepD {d : Addr} {od : Obj} {kvs : List (Key × V)} {α : Type} (zs : List α) (f : α → V) (p : α → Bool) {H0 : Hp} {D : Addr} {g : TG} {tt : TT} {te : TE} {vs : List Nat} {σ : L2.St} {Qd : Hp → Prop} (σ0 : L2.St) (hσ : wipe σ vs = σ0) (hD : H0 D = none) (e : H0 d = some (.frz od (.dK kvs))) (hx : kvs.map Prod.snd = zs.map f) (hn : zs.length < 100000)
    (hs : ∀ (i : Nat) (z : α) (H : Hp), zs[i]? = some z → (∀ b, b ≠ D → H b = H0 b) → ∀ (Qy : VK) (Qn : Hp → Prop), (p z = true → Qy (f z) H) → (p z = false → Qn H) →
      g (f z) σ0 H fun σ2 H2 => wipe σ2 vs = σ0 ∧ tt σ2 H2 fun b H3 => if b = true then te σ2 H3 Qy else Qn H3)
    (hd : ∀ H, H D = some (.lst ((zs.filter p).map f)) → (∀ b, b ≠ D → H b = H0 b) → Qd H) :
    ∃ W : Nat → Nat → Hp → Prop, (∃ m, W 0 m (upd H0 D (.lst []))) ∧ ∀ i m H, W i m H →
      ((Itd d od kvs).stop i H ∧ Qd H) ∨ ((Itd d od kvs).go i H ∧ ∃ Nx : Hp → Prop, (∀ H', Nx H' → ∃ m', m' < m ∧ W (i + 1) m' H') ∧ ∀ x H', (Itd d od kvs).yld i H x H' → g x (wipe σ vs) H' fun σ2 H2 => wipe σ2 vs = wipe σ vs ∧ tt σ2 H2 fun b H3 =>
        if b = true then te σ2 H3 fun y H4 => ∃ acc, H4 D = some (.lst acc) ∧ acc.length < sizeLine ∧ Nx (upd H4 D (.lst (acc ++ [y]))) else Nx H3) := by
  subst hσ
  have haD : d ≠ D := fun z => by rw [← z, e] at hD; cases hD
  have hkl : kvs.length = zs.length := by have := congrArg List.length hx; simpa using this
  refine lc_it (walk_values (d := d) (o := od) (kvs := kvs)) (fun i H => H D = some (.lst (((zs.take i).filter p).map f)) ∧ ∀ b, b ≠ D → H b = H0 b) ⟨upd_same, fun b hb => upd_ne hb⟩ (fun i H _ ⟨_, h⟩ => (h d haD).trans e) (fun i x H H' hi ⟨h1, h2⟩ y => ?_) (fun H ⟨h1, h2⟩ => ?_)
  · obtain ⟨rfl, kx, hy⟩ := y
    have hy2 : (kvs.map Prod.snd)[i]? = some x := by rw [List.getElem?_map, hy]; rfl
    rw [hx, List.getElem?_map] at hy2
    obtain ⟨z, hz, rfl⟩ := Option.map_eq_some_iff.mp hy2
    have htk : zs.take (i + 1) = zs.take i ++ [z] := by
      obtain ⟨g1, g2⟩ := List.getElem?_eq_some_iff.mp hz
      rw [List.take_succ_eq_append_getElem g1, g2]
    refine hs i z H' hz h2 _ _ (fun hp => ⟨_, h1, ?_, ?_, fun b hb => (upd_ne hb).trans (h2 b hb)⟩) (fun hp => ⟨?_, h2⟩)
    · refine lt_line (Nat.lt_of_le_of_lt ?_ hn)
      rw [List.length_map]
      exact Nat.le_trans (List.length_filter_le _ _) (by rw [List.length_take]; omega)
    · rw [upd_same, htk, List.filter_append, List.filter_cons_of_pos hp, List.map_append]; rfl
    · rw [htk, List.filter_append, List.filter_cons_of_neg (by rw [hp]; exact fun z => by cases z), List.filter_nil, List.append_nil]; exact h1
  · rw [hkl, List.take_length] at h1
    exact hd H h1 h2
def sp_Source___init__ (C : Addr) : Sp := fun vs H Q _ => ∃ (o dx : Addr), vs = [.ref o] ∧ H o = some (.ins C dx []) ∧ ∀ (p : Addr) (H' : Hp), H p = none → H' o = some (.ins C dx (srcF p false)) → H' p = some (.dK []) → (∀ b, b ≠ o → H b ≠ none → H' b = H b) → (∀ b, H' b = none → H b = none) → Q .non H'
theorem sc_Source___init__ : FnScope ["self"] ["self"] (defScope s_Source___init__) := ⟨rfl, rfl, rfl, by decide +kernel, rfl, by decide +kernel, by decide +kernel⟩
theorem ok_Source___init__ (T : Txt0 P K mg A) : FnOk P w K mg base CX0 1 A.fSource___init__ A.dSource___init__ ["self"] (sp_Source___init__ A.CSource) := by
  refine T.FSource___init__.ok sc_Source___init__ (fun vs H Q E h => ?_) (fun cdv Ar outer st H vs Q E hr h => ?_)
  · obtain ⟨_, _, rfl, _⟩ := h
    rfl
  · obtain ⟨o, dx, rfl, ho, q⟩ := h
    replace q := Hid.mk q
    refine ⟨_, (pss_cons (ps_fldC T.clSource T.nSource_pieces (pv 0) pe_dnewK rfl)
      (pss_one (ps_fldC T.clSource T.nSource_is_used (pv 0) pe_bl rfl))), ?_⟩
    intro p hp
    have e1 : (upd H p (.dK [])) o = some (.ins A.CSource dx []) := by walk_at "h"
    walk_at "gf"
    intro H1 f1 k1
    walk_at "gf"
    intro H2 f2 k2
    exact q.go p H2 hp f2 (by walk_at "h") (by walk_at "h") (by walk_at "h")
def sp_Sources__fresh (A : Adr) : Sp := fun vs H Q _ => ∃ (so dx sd : Addr) (as : List (Addr × Addr)) (ss : List Src), vs = [.ref so] ∧ H so = some (.ins A.CSources dx [("_sources", .ref sd)]) ∧ H sd = some (.dK (kvS as ss)) ∧ as.length = ss.length ∧ ss.length ≤ 1000 ∧ (∀ (i : Nat) (p : Addr × Addr) (s : Src), as[i]? = some p → ss[i]? = some s → SrcI A.CSource H p s) ∧
  ∀ p H', H p = none → H' p = some (.lst (frV as ss)) → (∀ b, b ≠ p → H' b = H b) → Q (.ref p) H'
theorem sc_Sources__fresh : FnScope ["self", "source"] ["self"] (defScope s_Sources__fresh) := ⟨rfl, rfl, rfl, by decide +kernel, rfl, by decide +kernel, by decide +kernel⟩
theorem ok_Sources__fresh (T : Txt0 P K mg A) : FnOk P w K mg base CX0 1 A.fSources__fresh A.dSources__fresh ["self"] (sp_Sources__fresh A) := by
  refine T.FSources__fresh.ok sc_Sources__fresh (fun vs H Q E h => ?_) (fun cdv Ar outer st H vs Q E hr h => ?_)
  · obtain ⟨_, _, _, _, _, rfl, _⟩ := h
    rfl
  · obtain ⟨so, dx, sd, as, ss, rfl, eo, ed, hl, hn, io, q⟩ := h
    replace q := Hid.mk q
    refine ⟨_, (pss_one (ps_ret (pe_lock (pe_lc (own := [("source", 1)]) (g := (gName 1)) (tt := tNot (tB (tFld K (tVar 1) "is_used"))) rfl sc_Sources__fresh.nd (pi_values (pe_fldC T.clSources T.nSources__sources (pv 0) rfl)) (blkOk_by (own := [("source", 1)]) (N := ["self", "source"]) (sc := defScope s_Sources__fresh) (by decide +kernel)) (fun _ _ _ _ _ => (pg_name (i := 1) sc_Sources__fresh.nd rfl (Or.inl rfl))) (fun _ _ _ _ _ => by exact (pts_one (pt_not (pt_val (pe_fld (pv 1) rfl))))) (fun _ _ _ _ _ => by exact (pv 1)))))), ?_⟩
    refine ⟨sd, _, ed, trivial, fun od => ?_⟩
    have nso : so ≠ sd := ne_of eo ed (by intro z; cases z)
    have eoF : (upd H sd (.frz od (.dK (kvS as ss)))) so = some (.ins A.CSources dx [("_sources", .ref sd)]) := (upd_ne nso).trans eo
    have edF : (upd H sd (.frz od (.dK (kvS as ss)))) sd = some (.frz od (.dK (kvS as ss))) := upd_same
    walk_at "gf"
    refine ⟨sd, od, kvS as ss, rfl, edF, fun D hD => ?_⟩
    have hDs : D ≠ sd := fun z => by rw [z, edF] at hD; cases hD
    have hDH : H D = none := by rw [upd_ne hDs] at hD; exact hD
    refine lc_keepD (as.zip ss) (fun z => V.ref z.1.1) (fun z => !z.2.used) _ rfl hD edF (by unfold kvS; rw [List.map_map]; rfl) (by rw [List.length_zip]; omega) ?_ ?_
    · rintro i ⟨p, s⟩ H2 hz k2 Qy Qn hy hno
      rw [List.getElem?_zip_eq_some] at hz
      obtain ⟨dx2, e2⟩ := io i p s hz.1 hz.2
      have np : p.1 ≠ sd := ne_of e2 ed (by intro z; cases z)
      have npD : p.1 ≠ D := fun z => by rw [z, hDH] at e2; cases e2
      have e3 : H2 p.1 = some (.ins A.CSource dx2 (srcF p.2 s.used)) := (k2 _ npD).trans ((upd_ne np).trans e2)
      refine ⟨rfl, _, rfl, p.1, A.CSource, dx2, _, .bl s.used, rfl, e3, T.clSource, T.nSource_is_used, by unfold srcF; walk_at "lk", s.used, rfl, ?_⟩
      refine if_b (fun hb => ?_) (fun hb => ?_)
      · exact ⟨_, rfl, hy hb⟩
      · exact hno hb
    · intro H2 eD k2
      refine ⟨(k2 sd hDs.symm).trans edF, q.go D _ hDH ?_ fun b hb => ?_⟩
      · rw [upd_ne hDs]; exact eD
      · by_cases c : b = sd
        · rw [c, upd_same, ed]
        · rw [upd_ne c, k2 b hb, upd_ne c]
theorem FaultTo.up {A : Adr} {H H1 : Hp} {E : XK} {n c : Int} {wd : Str} (h : FaultTo A H E n c wd) (k : ∀ b, H b ≠ none → H1 b = H b) (m : ∀ b, H1 b = none → H b = none) : FaultTo A H1 E n c wd := fun dd H' h1 h2 h3 h4 =>
  h dd H' (m dd h1) h2 (fun b hb => (h3 b (by rw [k b hb]; exact hb)).trans (k b hb)) (fun b hb hn => m b (h4 b hb hn))
def sp_Sources_make (A : Adr) : Sp := fun vs H Q E => ∃ (so sd r la : Addr) (n0 number : Int) (i m : Str) (as : List (Addr × Addr)) (ss : List Src) (U : Hp), vs = [.ref so, .ref r] ∧ Same U H ∧ Ss A U H so sd as ss ∧ ss.length ≤ 1000 ∧ Rq A.CRequest H r n0 i m (.ref la) ∧ H la = some (.lst [.int number]) ∧ (∀ s ∈ ss, s.n ≠ number) ∧
  (8 ≤ (fresh ss).length → FaultTo A H E n0 2 "too much") ∧
  ((fresh ss).length < 8 → ∀ p H', H p.1 = none → H p.2 = none → Ch U H U H' [sd] → Ss A U H' so sd (as ++ [p]) (ss ++ [⟨number, false, []⟩]) → Q .non H')
theorem sc_Sources_make : FnScope ["self", "request"] ["self", "request"] (defScope s_Sources_make) := ⟨rfl, rfl, rfl, by decide +kernel, rfl, by decide +kernel, by decide +kernel⟩
theorem ok_Sources_make (T : Txt0 P K mg A) : FnOk P w K mg base (L2.CX P w) 3 A.fSources_make A.dSources_make ["self", "request"] (sp_Sources_make A) := by
  refine T.FSources_make.okX sc_Sources_make (fun vs H Q E h => ?_) (fun cdv Ar outer st H vs Q E hr h => ?_)
  · obtain ⟨_, _, _, _, _, _, _, _, _, _, _, rfl, _⟩ := h
    rfl
  · obtain ⟨so, sd, r, la, n0, number, i, m, as, ss, U, rfl, sU, S, hn, ⟨dxr, er, erq⟩, ela, hf, q1, q2⟩ := h
    replace q1 := Hid.mk q1
    replace q2 := Hid.mk q2
    obtain ⟨dxs, eso⟩ := S.ob
    have esoH := sU _ _ eso
    refine ⟨_, (pss_cons (ps_if (pt_cmpR op_ge (pe_callB call_len_seq (by rfl) T.len PySem.boot_len (pa_cons (pe_meth0 (pv 0) T.clSources T.mSources__fresh (ok_Sources__fresh T) (hr.mono (by decide)) T.bSources__fresh .nil pass0) pa_nil)) (pe_glob (v := .int (8)) rfl T.gMOST_SOURCES ⟨_, rfl⟩) (nomark _))
      (pss_one (ps_raise rfl (takes_of rfl rfl rfl rfl) (pmk_oex T.oFault T.MFault T.TFault (ok_Fault___init__ T) (hr.mono (by decide)) T.bFault___init__ .nil pass0 (by rfl) T.gFault (pa_cons (pe_fldC T.clRequest T.nRequest_number (pv 1) rfl) (pa_cons pe_int (pa_cons pe_str pa_nil))))))
      pss_nil)
      (pss_one (ps_dput (hu_of hr) (pe_fldC T.clSources T.nSources__sources (pv 0) rfl) (pe_ix (r := rIxL K) ix_list (pe_fldC T.clRequest T.nRequest_arguments (pv 1) rfl) pe_int (fun _ _ => rfl)) (pe_make0 T.MSource (ok_Source___init__ T) (hr.mono (by decide)) rfl T.gSource T.bSource___init__ .nil pass0) rfl))), ?_⟩
    walk_at "gf"
    refine ⟨so, dxs, sd, as, ss, rfl, esoH, S.e, S.len, hn, S.io, fun p H1 hp ep kp => ?_⟩
    have k1 : ∀ b, H b ≠ none → H1 b = H b := fun b hb => kp b (fun z => hb (by rw [z]; exact hp))
    have m1 : ∀ b, H1 b = none → H b = none := fun b hb => by
      by_cases c : b = p
      · rw [c]; exact hp
      · rw [← kp b c]; exact hb
    have s1 : Same H H1 := by walk_at "h"
    have er1 := s1 _ _ erq
    have ela1 := s1 _ _ ela
    have eso1 := s1 _ _ esoH
    have fl := frV_len S.len
    walk_at "gf"
    refine iteP (fun c => ?_) (fun c => ?_)
    · walk_at "gf"
      exact ⟨by show 3 ≤ 1000; decide, fault_go (FaultTo.up (q1.go (by omega)) k1 m1)⟩
    · have hlt : (fresh ss).length < 8 := by omega
      clear eso1 er1 ela1
      intro a dx ha hdx hne
      refine ⟨a, dx, rfl, upd_same, fun pd H2 hpd ea epd k2 m2 => ⟨rfl, ?_⟩⟩
      have haH : H a = none := m1 a ha
      have kH : ∀ b, H b ≠ none → H2 b = H b := by walk_at "h"
      have mH : ∀ b, H2 b = none → H b = none := by walk_at "h"
      have pdH : H pd = none := by walk_at "h"
      have npd : a ≠ pd := ne_of ea epd (by intro z; cases z)
      clear k2 m2 hpd ha hdx hne kp k1 m1 s1
      have sH : Same H H2 := by walk_at "h"
      have er2 := sH _ _ erq
      have ela2 := sH _ _ ela
      have eso2 := sH _ _ esoH
      have esd2 := sH _ _ S.e
      walk_at "gf"
      have nsd : sd ≠ a := ne_of esd2 ea (by intro z; cases z)
      have nsp : sd ≠ pd := fun z => by have := S.e; rw [z, pdH] at this; cases this
      refine ⟨sd, _, rfl, DPut.k (k := .inl number) esd2 (Nat.lt_of_lt_of_le (m := 100000) (by rw [kvS_len S.len]; omega) (by decide)), ?_⟩
      rw [putK_new _ (kvS_none hf)]
      have keep : ∀ b, b ≠ sd → H b ≠ none → (upd H2 sd (.dK (kvS as ss ++ [(.inl number, .ref a)]))) b = H b := fun b hb hn => (upd_ne hb).trans (kH b hn)
      have old : ∀ p ∈ as, p.1 ≠ a ∧ p.2 ≠ pd ∧ p.1 ≠ sd ∧ p.2 ≠ sd ∧ H p.1 ≠ none ∧ H p.2 ≠ none := fun p hp => by
        obtain ⟨i, hi⟩ := List.getElem?_of_mem hp
        have hl : i < ss.length := by have := (List.getElem?_eq_some_iff.mp hi).1; have := S.len; omega
        obtain ⟨dx1, e1⟩ := S.io i p _ hi (List.getElem?_eq_getElem hl)
        obtain ⟨kvs, e2, _⟩ := S.po i p _ hi (List.getElem?_eq_getElem hl)
        refine ⟨fun z => (by rw [z, haH] at e1; cases e1), fun z => (by rw [z, pdH] at e2; cases e2), ne_of e1 S.e (by intro z; cases z), fun z => S.n3 (by rw [← z]; exact List.mem_map_of_mem hp), (by rw [e1]; exact fun z => by cases z), (by rw [e2]; exact fun z => by cases z)⟩
      refine q2.go hlt (a, pd) _ haH pdH ⟨Same.refl _, ?_, fun _ h _ => h, ?_, fun b hb hn => keep b (by simpa using hb) hn⟩ ?_
      · have := S.u
        exact fun b u e => by rw [upd_ne (fun z => by rw [z, this] at e; cases e)]; exact sH _ _ (sU _ _ e)
      · exact fun b hb => by
          by_cases c : b = sd
          · rw [c, upd_same] at hb; cases hb
          · rw [upd_ne c] at hb; exact mH b hb
      · refine ⟨S.ob, by rw [kvS_snoc S.len]; exact upd_same, S.u, by rw [List.length_append, List.length_append, S.len]; rfl, ?_, ?_, ?_, ?_, ?_, ?_, ?_, ?_⟩
        · rw [List.map_append, List.nodup_append]
          refine ⟨S.nd, List.nodup_cons.mpr ⟨by simp, List.nodup_nil⟩, fun x hx y hy => ?_⟩
          obtain ⟨s, hs, rfl⟩ := List.mem_map.mp hx
          have hy' : y = number := by simpa using hy
          rw [hy']; exact hf s hs
        · rw [List.map_append, List.nodup_append]
          refine ⟨S.n1, List.nodup_cons.mpr ⟨by simp, List.nodup_nil⟩, fun x hx y hy => ?_⟩
          obtain ⟨p, hp, rfl⟩ := List.mem_map.mp hx
          have hy' : y = a := by simpa using hy
          rw [hy']; exact (old p hp).1
        · rw [List.map_append, List.nodup_append]
          refine ⟨S.n2, List.nodup_cons.mpr ⟨by simp, List.nodup_nil⟩, fun x hx y hy => ?_⟩
          obtain ⟨p, hp, rfl⟩ := List.mem_map.mp hx
          have hy' : y = pd := by simpa using hy
          rw [hy']; exact (old p hp).2.1
        · rw [List.map_append, List.mem_append]
          rintro (z | z)
          · exact S.n3 z
          · exact nsp (by simpa using z)
        · intro p hp
          rcases List.mem_append.mp hp with hp | hp
          · exact S.uu p hp
          · rw [List.mem_singleton.mp hp]; exact ⟨sU.free haH, sU.free pdH⟩
        · intro i p s h1 h2
          by_cases c : i < as.length
          · rw [List.getElem?_append_left c] at h1
            rw [List.getElem?_append_left (by rw [← S.len]; exact c)] at h2
            obtain ⟨dx1, e1⟩ := S.io i p s h1 h2
            have o := old p (List.mem_of_getElem? h1)
            exact ⟨dx1, (keep _ o.2.2.1 o.2.2.2.2.1).trans e1⟩
          · have hl := S.len
            rw [List.getElem?_append_right (by omega)] at h1 h2
            have ci : i = as.length := by
              have := (List.getElem?_eq_some_iff.mp h1).1
              simp at this; omega
            subst ci
            rw [Nat.sub_self] at h1
            rw [hl, Nat.sub_self] at h2
            cases h1; cases h2
            exact ⟨dx, (upd_ne nsd.symm).trans ea⟩
        · intro i p s h1 h2
          by_cases c : i < as.length
          · rw [List.getElem?_append_left c] at h1
            rw [List.getElem?_append_left (by rw [← S.len]; exact c)] at h2
            obtain ⟨kvs, e2, r⟩ := S.po i p s h1 h2
            have o := old p (List.mem_of_getElem? h1)
            exact ⟨kvs, (keep _ o.2.2.2.1 o.2.2.2.2.2).trans e2, r⟩
          · have hl := S.len
            rw [List.getElem?_append_right (by omega)] at h1 h2
            have ci : i = as.length := by
              have := (List.getElem?_eq_some_iff.mp h1).1
              simp at this; omega
            subst ci
            rw [Nat.sub_self] at h1
            rw [hl, Nat.sub_self] at h2
            cases h1; cases h2
            exact ⟨[], (upd_ne nsp.symm).trans epd, trivial⟩
        · intro s hs
          rcases List.mem_append.mp hs with hs | hs
          · exact S.pk s hs
          · rw [List.mem_singleton.mp hs]; exact List.nodup_nil
theorem dget_of {H : Hp} {a : Addr} {kvs : List (Key × V)} {k : Key} {v : V} (e : H a = some (.dK kvs)) (h : valV kvs k = some v) : DGet H a (kV k) (some v) := by rw [← h]; exact DGet.k e
def sp_Sources_is_used (A : Adr) : Sp := fun vs H Q _ => ∃ (so sd : Addr) (n : Int) (as : List (Addr × Addr)) (ss : List Src) (U : Hp) (i : Nat) (p : Addr × Addr) (s : Src), vs = [.ref so, .int n] ∧ Same U H ∧ Ss A U H so sd as ss ∧ as[i]? = some p ∧ ss[i]? = some s ∧ s.n = n ∧ Q (.bl s.used) H
theorem sc_Sources_is_used : FnScope ["self", "number"] ["self", "number"] (defScope s_Sources_is_used) := ⟨rfl, rfl, rfl, by decide +kernel, rfl, by decide +kernel, by decide +kernel⟩
theorem ok_Sources_is_used (T : Txt0 P K mg A) : FnOk P w K mg base CX0 1 A.fSources_is_used A.dSources_is_used ["self", "number"] (sp_Sources_is_used A) := by
  refine T.FSources_is_used.ok sc_Sources_is_used (fun vs H Q E h => ?_) (fun cdv Ar outer st H vs Q E hr h => ?_)
  · obtain ⟨_, _, _, _, _, _, _, _, _, rfl, _⟩ := h
    rfl
  · obtain ⟨so, sd, n, as, ss, U, i, p, s, rfl, sU, S, h1, h2, e, q⟩ := h
    obtain ⟨dxs, eso⟩ := S.ob
    have esoH := sU _ _ eso
    obtain ⟨dx, ea⟩ := S.io i p s h1 h2
    refine ⟨_, (pss_one (ps_ret (pe_fld (pe_dget (hu_of hr) (pe_fldC T.clSources T.nSources__sources (pv 0) rfl) (pv 1) (fun _ _ => rfl)) rfl))), ?_⟩
    walk_at "gf"
    refine ⟨sd, .ref p.1, rfl, dget_of S.e (kvS_at S.nd h1 h2 e), ?_⟩
    refine ⟨p.1, A.CSource, dx, _, .bl s.used, rfl, ea, T.clSource, T.nSource_is_used, by unfold srcF; walk_at "lk", q⟩
def goodsD (ps : List (Str × List Int)) : PyData := .list (ps.map fun p => .tuple [.str p.1, pInts p.2])
theorem Ss.put {A : Adr} {U H U' H' : Hp} {so sd : Addr} {as : List (Addr × Addr)} {ss : List Src} (h : Ss A U H so sd as ss) (sU : Same U U') {i : Nat} {p : Addr × Addr} {s t : Src} (h1 : as[i]? = some p) (h2 : ss[i]? = some s) (hn : t.n = s.n) (k : ∀ b, H b ≠ none → U b = none → foot sd as b → b ≠ p.1 → b ≠ p.2 → U' b = none ∧ H' b = H b)
    (u : U' p.1 = none ∧ U' p.2 = none) (io : SrcI A.CSource H' p t) (po : ∃ kvs, H' p.2 = some (.dK kvs) ∧ PcR U' kvs t.ps) (pk : (t.ps.map Prod.fst).Nodup) : Ss A U' H' so sd as (ss.set i t) := by
  obtain ⟨dx, e⟩ := h.ob
  obtain ⟨dxp, ep⟩ := h.io i p s h1 h2
  obtain ⟨kvp, ekp, _⟩ := h.po i p s h1 h2
  have hpm := List.mem_of_getElem? h1
  have ns1 : sd ≠ p.1 := ne_of h.e ep (by intro z; cases z)
  have ns2 : sd ≠ p.2 := fun z => h.n3 (by rw [z]; exact List.mem_map_of_mem hpm)
  have k1 := k sd (by rw [h.e]; exact fun z => by cases z) h.u (.inl rfl) ns1 ns2
  have oth : ∀ (j : Nat) (q : Addr × Addr) (x : Src), j ≠ i → as[j]? = some q → ss[j]? = some x → (U' q.1 = none ∧ H' q.1 = H q.1) ∧ (U' q.2 = none ∧ H' q.2 = H q.2) := fun j q x hj hq hx => by
    have hqm := List.mem_of_getElem? hq
    obtain ⟨dxq, eq⟩ := h.io j q x hq hx
    obtain ⟨kvq, ekq, _⟩ := h.po j q x hq hx
    have d1 : q.1 ≠ p.1 := fun z => hj ((List.getElem?_inj (by have := (List.getElem?_eq_some_iff.mp hq).1; rw [List.length_map]; exact this) h.n1).mp (by rw [List.getElem?_map, List.getElem?_map, hq, h1]; exact congrArg some z))
    have d2 : q.2 ≠ p.2 := fun z => hj ((List.getElem?_inj (by have := (List.getElem?_eq_some_iff.mp hq).1; rw [List.length_map]; exact this) h.n2).mp (by rw [List.getElem?_map, List.getElem?_map, hq, h1]; exact congrArg some z))
    exact ⟨k _ (by rw [eq]; exact fun z => by cases z) (h.uu q hqm).1 (.inr ⟨q, hqm, .inl rfl⟩) d1 (ne_of eq ekp (by intro z; cases z)), k _ (by rw [ekq]; exact fun z => by cases z) (h.uu q hqm).2 (.inr ⟨q, hqm, .inr rfl⟩) (ne_of ekq ep (by intro z; cases z)) d2⟩
  have idx : ∀ q ∈ as, ∃ (j : Nat) (x : Src), as[j]? = some q ∧ ss[j]? = some x := fun q hq => by
    obtain ⟨j, hj⟩ := List.getElem?_of_mem hq
    have hl : j < ss.length := by have := (List.getElem?_eq_some_iff.mp hj).1; have := h.len; omega
    exact ⟨j, _, hj, List.getElem?_eq_getElem hl⟩
  have hi : i < ss.length := (List.getElem?_eq_some_iff.mp h2).1
  refine ⟨⟨dx, sU _ _ e⟩, by rw [kvS_set h2 hn]; exact k1.2.trans h.e, k1.1, by rw [List.length_set]; exact h.len, ?_, h.n1, h.n2, h.n3, fun q hq => ?_, fun j q x h3 h4 => ?_, fun j q x h3 h4 => ?_, fun x hx => ?_⟩
  · rw [List.map_set, hn]
    have e3 : (ss.map Src.n)[i]? = some s.n := by rw [List.getElem?_map, h2]; rfl
    obtain ⟨g1, g2⟩ := List.getElem?_eq_some_iff.mp e3
    rw [← g2, List.set_getElem_self]; exact h.nd
  · obtain ⟨j, x, hj, hx⟩ := idx q hq
    by_cases c : j = i
    · subst c
      cases h1.symm.trans hj
      exact u
    · exact ⟨(oth j q x c hj hx).1.1, (oth j q x c hj hx).2.1⟩
  · by_cases c : j = i
    · subst c
      cases h1.symm.trans h3
      rw [List.getElem?_set_self hi] at h4
      cases h4; exact io
    · rw [List.getElem?_set_ne (Ne.symm c)] at h4
      obtain ⟨dxq, eq⟩ := h.io j q x h3 h4
      exact ⟨dxq, (oth j q x c h3 h4).1.2.trans eq⟩
  · by_cases c : j = i
    · subst c
      cases h1.symm.trans h3
      rw [List.getElem?_set_self hi] at h4
      cases h4; exact po
    · rw [List.getElem?_set_ne (Ne.symm c)] at h4
      obtain ⟨kvs, eq, r⟩ := h.po j q x h3 h4
      exact ⟨kvs, (oth j q x c h3 h4).2.2.trans eq, r.to sU⟩
  · rcases List.mem_or_eq_of_mem_set hx with hx | rfl
    · exact h.pk x hx
    · exact pk
def sp_Sources_use_up (A : Adr) (K : PySem.W.Frag) : Sp := fun vs H Q _ => ∃ (so sd : Addr) (n : Int) (as : List (Addr × Addr)) (ss : List Src) (U : Hp) (i : Nat) (p : Addr × Addr) (s : Src), vs = [.ref so, .int n] ∧ Same U H ∧ Ss A U H so sd as ss ∧ as[i]? = some p ∧ ss[i]? = some s ∧ s.n = n ∧ s.ps.length ≤ 1000 ∧ (∀ x ∈ s.ps, x.2.length ≤ 90000) ∧
  ∀ v U' H', Ch U H U' H' [p.1] → Ss A U' H' so sd as (ss.set i { s with used := true }) → Dp K U' v (goodsD s.ps) → Q v H'
theorem sc_Sources_use_up : FnScope ["self", "number", "source", "kind", "octets"] ["self", "number"] (defScope s_Sources_use_up) := ⟨rfl, rfl, rfl, by decide +kernel, rfl, by decide +kernel, by decide +kernel⟩
theorem ok_Sources_use_up (T : Txt0 P K mg A) : FnOk P w K mg base CX0 1 A.fSources_use_up A.dSources_use_up ["self", "number"] (sp_Sources_use_up A K) := by
  refine T.FSources_use_up.ok sc_Sources_use_up (fun vs H Q E h => ?_) (fun cdv Ar outer st H vs Q E hr h => ?_)
  · obtain ⟨_, _, _, _, _, _, _, _, _, rfl, _⟩ := h
    rfl
  · obtain ⟨so, sd, n, as, ss, U, i, p, s, rfl, sU, S, h1, h2, e, hpl, hol, q⟩ := h
    replace q := Hid.mk q
    obtain ⟨dxs, eso⟩ := S.ob
    have esoH := sU _ _ eso
    obtain ⟨dx, ea⟩ := S.io i p s h1 h2
    obtain ⟨kvs, ek, r⟩ := S.po i p s h1 h2
    have hpm := List.mem_of_getElem? h1
    have uu := S.uu p hpm
    refine ⟨_, (pss_cons (ps_set (i := 2) sc_Sources_use_up.nd rfl (Or.inl rfl) (pe_dget (hu_of hr) (pe_fldC T.clSources T.nSources__sources (pv 0) rfl) (pv 1) (fun _ _ => rfl)))
      (pss_cons (ps_fldC T.clSource T.nSource_is_used (pv 2) pe_bl rfl)
      (pss_one (ps_ret (pe_lock (pe_lc (own := [("kind", 3), ("octets", 4)]) (g := (gTup K 2 (gCons (gName 3) (gCons (gName 4) gNil)))) (tt := tYes) rfl sc_Sources_use_up.nd (pi_items (pe_fldC T.clSource T.nSource_pieces (pv 2) rfl)) (blkOk_by (own := [("kind", 3), ("octets", 4)]) (N := ["self", "number", "source", "kind", "octets"]) (sc := defScope s_Sources_use_up) (by decide +kernel)) (fun _ _ _ _ _ => by exact (pg_tup rfl (pgs_cons (pg_name (i := 3) sc_Sources_use_up.nd rfl (Or.inl rfl)) (pgs_cons (pg_name (i := 4) sc_Sources_use_up.nd rfl (Or.inl rfl)) pgs_nil)))) (fun _ _ _ _ _ => pts_nil) (fun _ _ _ _ _ => by exact (pe_tup (pa_cons (pv 3) (pa_cons (pe_callTy (r := rListOf K) call_list_of (by rfl) T.list (by decide +kernel) (pa_cons (pv 4) pa_nil)) pa_nil)))))))))), ?_⟩
    walk_at "gf"
    refine ⟨sd, .ref p.1, rfl, dget_of S.e (kvS_at S.nd h1 h2 e), ?_⟩
    walk_at "gf"
    intro H3 f3 k3
    have ek3 : H3 p.2 = some (.dK kvs) := (k3 _ (ne_of ek ea (by intro z; cases z))).trans ek
    have nps : p.2 ≠ p.1 := ne_of ek ea (by intro z; cases z)
    have s3 : Same U H3 := fun b u e => (k3 b (fun z => by rw [z, uu.1] at e; cases e)).trans (sU b u e)
    refine ⟨p.2, _, ek3, trivial, fun od => ?_⟩
    have eaF : (upd H3 p.2 (.frz od (.dK kvs))) p.1 = some (.ins A.CSource dx (srcF p.2 true)) := (upd_ne nps.symm).trans f3
    have ekF : (upd H3 p.2 (.frz od (.dK kvs))) p.2 = some (.frz od (.dK kvs)) := upd_same
    have sF : Same U (upd H3 p.2 (.frz od (.dK kvs))) := fun b u e => (upd_ne (fun z => by rw [z, uu.2] at e; cases e)).trans (s3 b u e)
    have kF : ∀ b, b ≠ p.2 → (upd H3 p.2 (.frz od (.dK kvs))) b = H3 b := fun b hb => upd_ne hb
    generalize upd H3 p.2 (.frz od (.dK kvs)) = HF at eaF ekF sF kF ⊢
    unfold srcF at eaF
    walk_at "gf"
    refine ⟨p.2, od, kvs, rfl, ekF, fun D hD => ?_⟩
    have hkl := r.len
    refine lc_items (K := K) (V0 := U) (fun j => (s.ps[j]?).map fun x => PyData.tuple [.str x.1, pInts x.2]) _ rfl sF hD ekF (by omega) ?_ ?_
    · rintro j kx vx V1 H4 T hj x4 eT Qy Qn hy _
      obtain ⟨x, b, hx, ekv, eb⟩ := r.get hj
      cases ekv
      have hxm := List.mem_of_getElem? hx
      have hol' := hol x hxm
      have ebV := x4.vv _ _ eb
      have ebH := x4.vh _ _ ebV
      refine ⟨T, _, rfl, SqT.of eT, rfl, ?_⟩
      walk_at "gf"
      intro l hl
      have x5 := Ext.new (o := .lst (x.2.map V.int)) x4.vh hl
      walk_at "nl"
      refine ⟨len_line (by show 2 ≤ 100000; decide), fun t ht => ?_⟩
      have x6 := x5.trans (Ext.new (o := .tup [kV (.inr x.1), .ref l]) x5.vh ht)
      have dl : Dp K (upd V1 l (.lst (x.2.map V.int))) (.ref l) (pInts x.2) := dp_ints (SqL.of upd_same)
      have d2 := dl.to (x5.trans (Ext.new (o := .tup [kV (.inr x.1), .ref l]) x5.vh ht) |> fun _ => (Ext.new (o := .tup [kV (.inr x.1), .ref l]) x5.vh ht).vv)
      exact hy _ _ _ _ (by rw [hx]; rfl) x6 (.tup (SqT.of upd_same) (.cons (.str _) (.cons d2 .nil)))
    · intro V1 H4 xs x4 eD da dl
      rw [hkl, fm_map] at dl
      have hDF : HF D = none := hD
      have p5 := x4.pu
      have ek4 : H4 p.2 = some (.frz od (.dK kvs)) := x4.hh _ _ ekF
      have ea4 := x4.hh _ _ eaF
      have s4 := x4.vh
      have v4 := x4.vv
      have uv1 : V1 p.1 = none := p5.out _ uu.1 (by rw [eaF]; exact fun z => by cases z)
      have uv2 : V1 p.2 = none := p5.out _ uu.2 (by rw [ekF]; exact fun z => by cases z)
      have kk : ∀ b, b ≠ p.1 → H b ≠ none → (upd H4 p.2 (.dK kvs)) b = H b := fun b hb hn => by
        by_cases c : b = p.2
        · rw [c, upd_same, ek]
        · rw [upd_ne c, p5.kp b (by rw [kF b c, k3 b hb]; exact hn), kF b c, k3 b hb]
      have nnH : ∀ b, (upd H4 p.2 (.dK kvs)) b = none → H b = none := fun b hb => by
        by_cases c : b = p.2
        · rw [c, upd_same] at hb; cases hb
        · rw [upd_ne c] at hb
          have h1 := p5.nn b hb
          rw [kF b c] at h1
          by_cases c2 : b = p.1
          · rw [c2, f3] at h1; cases h1
          · rw [k3 b c2] at h1; exact h1
      have outs : ∀ b, U b = none → H b ≠ none → V1 b = none := fun b hb hn => p5.out b hb (by
        by_cases c : b = p.2
        · rw [c, ekF]; exact fun z => by cases z
        · rw [kF b c]
          by_cases c2 : b = p.1
          · rw [c2, f3]; exact fun z => by cases z
          · rw [k3 b c2]; exact hn)
      have sv : Same V1 (upd H4 p.2 (.dK kvs)) := fun b u e => (upd_ne (fun z => by rw [z, uv2] at e; cases e)).trans (s4 b u e)
      refine ⟨ek4, q.go _ V1 _ ⟨v4, sv, outs, nnH, fun b hb hn => kk b (by simpa using hb) hn⟩ ?_ ?_⟩
      · exact S.put (t := { s with used := true }) v4 h1 h2 rfl (fun b hb hu _ n1 n2 => ⟨outs b hu hb, kk b n1 hb⟩) ⟨uv1, uv2⟩ ⟨dx, (upd_ne nps.symm).trans ea4⟩ ⟨kvs, upd_same, r.to v4⟩ (S.pk s (List.mem_of_getElem? h2))
      · unfold goodsD
        exact dl
/-! ### octets written -/
def lens (s : Src) : List Int := s.ps.map fun p => (p.2.length : Int)
def total (ss : List Src) : Int := ((fresh ss).flatMap lens).sum
def zfr (as : List (Addr × Addr)) (ss : List Src) : List ((Addr × Addr) × Src) := (as.zip ss).filter fun z => !z.2.used
theorem zfr_snd : ∀ {as : List (Addr × Addr)} {ss : List Src}, as.length = ss.length → (zfr as ss).map Prod.snd = fresh ss
  | [], [], _ => rfl
  | a :: as, s :: ss, h => by
    have ih := zfr_snd (as := as) (ss := ss) (by simpa using h)
    unfold zfr fresh at ih ⊢
    rw [List.zip_cons_cons]
    by_cases c : s.used = true
    · rw [List.filter_cons_of_neg (by simp [c]), List.filter_cons_of_neg (by simp [c])]; exact ih
    · rw [List.filter_cons_of_pos (by simp [c]), List.filter_cons_of_pos (by simp [c]), List.map_cons, ih]
  | [], _ :: _, h => by cases h
  | _ :: _, [], h => by cases h
theorem choose_nat {α : Type} : ∀ (n : Nat) {P : Nat → α → Prop}, (∀ i, i < n → ∃ a, P i a) → ∃ l : List α, l.length = n ∧ ∀ i a, l[i]? = some a → P i a
  | 0, P, _ => ⟨[], rfl, fun i a h => by cases h⟩
  | n + 1, P, h => by
    obtain ⟨a, ha⟩ := h 0 (Nat.succ_pos _)
    obtain ⟨l, hl, hp⟩ := choose_nat n (P := fun i a => P (i + 1) a) fun i hi => h (i + 1) (Nat.succ_lt_succ hi)
    refine ⟨a :: l, by rw [List.length_cons, hl], fun i b e => ?_⟩
    cases i with
    | zero => cases e; exact ha
    | succ i => exact hp i b e
theorem flat_len {α β : Type} (f : α → List β) (c : Nat) : ∀ l : List α, (∀ x ∈ l, (f x).length ≤ c) → (l.flatMap f).length ≤ l.length * c
  | [], _ => by rw [List.flatMap_nil]; exact Nat.zero_le _
  | a :: l, h => by
    rw [List.flatMap_cons, List.length_append, List.length_cons, Nat.succ_mul]
    have := flat_len f c l fun x hx => h x (List.mem_cons_of_mem _ hx)
    have := h a List.mem_cons_self
    omega
def wrF (ss : List Src) (s : Src) (kind : Str) (os : List Int) : Option (Int × Str) :=
  if 128 < kind.length then some (3, "text too long") else if 32768 < total ss + (os.length : Int) ∨ (pcFind s.ps kind = none ∧ 16 ≤ s.ps.length) then some (2, "too much") else none
def sp_Sources_write (A : Adr) : Sp := fun vs H Q E => ∃ (so sd r la ob : Addr) (n : Int) (ii m kind : Str) (os : List Int) (as : List (Addr × Addr)) (ss : List Src) (U : Hp) (i : Nat) (p : Addr × Addr) (s : Src), vs = [.ref so, .ref r] ∧ Same U H ∧ Ss A U H so sd as ss ∧ Rq A.CRequest H r n ii m (.ref la) ∧ H la = some (.lst [.str kind, .ref ob]) ∧ H ob = some (.lst (os.map V.int)) ∧
  as[i]? = some p ∧ ss[i]? = some s ∧ s.n = n ∧ ss.length ≤ 1000 ∧ (∀ s ∈ ss, s.ps.length ≤ 16 ∧ ∀ x ∈ s.ps, x.2.length ≤ 40000) ∧ os.length ≤ 40000 ∧ kind.length ≤ 1000 ∧
  (s.used = true → Q .non H) ∧
  (s.used = false → ∀ c wd, wrF ss s kind os = some (c, wd) → FaultTo A H E n c wd) ∧
  (s.used = false → wrF ss s kind os = none → ∀ U' H', Ch U H U' H' [p.2] → Ss A U' H' so sd as (ss.set i { s with ps := putP s.ps kind os }) → Q .non H')
theorem sc_Sources_write : FnScope ["self", "request", "kind", "octets", "source", "written", "fresh", "piece"] ["self", "request"] (defScope s_Sources_write) := ⟨rfl, rfl, rfl, by decide +kernel, rfl, by decide +kernel, by decide +kernel⟩
set_option maxHeartbeats 4000000 in
theorem ok_Sources_write (T : Txt0 P K mg A) : FnOk P w K mg base (L2.CX P w) 3 A.fSources_write A.dSources_write ["self", "request"] (sp_Sources_write A) := by
  refine T.FSources_write.okX sc_Sources_write (fun vs H Q E h => ?_) (fun cdv Ar outer st H vs Q E hr h => ?_)
  · obtain ⟨_, _, _, _, _, _, _, _, _, _, _, _, _, _, _, _, rfl, _⟩ := h
    rfl
  · obtain ⟨so, sd, r, la, ob, n, ii, m, kind, os, as, ss, U, i, p, s, rfl, sU, S, ⟨dxr, er, erq⟩, ela, eob, h1, h2, e, hsl, hpl, hol, hkl, q1, q2, q3⟩ := h
    replace q1 := Hid.mk q1
    replace q2 := Hid.mk q2
    replace q3 := Hid.mk q3
    obtain ⟨dxs, eso⟩ := S.ob
    have esoH := sU _ _ eso
    obtain ⟨dx, ea⟩ := S.io i p s h1 h2
    have ea' := ea
    unfold srcF at ea'
    refine ⟨_, (pss_cons (ps_asg (pe_fldC T.clRequest T.nRequest_arguments (pv 1) rfl) (pg_unl rfl (pgs_cons (pg_name (i := 2) sc_Sources_write.nd rfl (Or.inl rfl)) (pgs_cons (pg_name (i := 3) sc_Sources_write.nd rfl (Or.inl rfl)) pgs_nil))))
      (pss_cons (ps_set (i := 4) sc_Sources_write.nd rfl (Or.inl rfl) (pe_dget (hu_of hr) (pe_fldC T.clSources T.nSources__sources (pv 0) rfl) (pe_fldC T.clRequest T.nRequest_number (pv 1) rfl) (fun _ _ => rfl)))
      (pss_cons (ps_if (pt_val (pe_fldC T.clSource T.nSource_is_used (pv 4) rfl))
      (pss_one ps_retN)
      pss_nil)
      (pss_cons (ps_if (pt_cmpR op_gt (pe_callB call_len_str (by rfl) T.len PySem.boot_len (pa_cons (pv 2) pa_nil)) (pe_glob (v := .int (128)) rfl T.gLONGEST_TEXT_sources ⟨_, rfl⟩) (nomark _))
      (pss_one (ps_raise rfl (takes_of rfl rfl rfl rfl) (pmk_oex T.oFault T.MFault T.TFault (ok_Fault___init__ T) (hr.mono (by decide)) T.bFault___init__ .nil pass0 (by rfl) T.gFault (pa_cons (pe_fldC T.clRequest T.nRequest_number (pv 1) rfl) (pa_cons pe_int (pa_cons pe_str pa_nil))))))
      pss_nil)
      (C8.pss_cut (ps_set (i := 5) sc_Sources_write.nd rfl (Or.inl rfl) (pe_callB (cr_sum rfl) (by rfl) T.sum (by decide +kernel) (pa_cons (pe_locks (pe_lc2 (own := [("fresh", 6), ("piece", 7)]) (g := (gName 6)) (tt := tYes) (tt1 := tYes) (g1 := (gName 7)) (vs1 := [7]) (wi1 := iVals (tFld K (tVar 6) "pieces")) rfl sc_Sources_write.nd (pi_list (pe_meth0 (pv 0) T.clSources T.mSources__fresh (ok_Sources__fresh T) (hr.mono (by decide)) T.bSources__fresh .nil pass0)) (blkOk_by (own := [("fresh", 6), ("piece", 7)]) (N := ["self", "request", "kind", "octets", "source", "written", "fresh", "piece"]) (sc := defScope s_Sources_write) (by decide +kernel)) (by decide) (fun _ _ _ _ _ => (pg_name (i := 6) sc_Sources_write.nd rfl (Or.inl rfl))) (fun _ _ _ _ _ => pts_nil) (fun _ _ _ _ _ => by exact (pi_values (pe_fld (pv 6) rfl))) (fun _ _ _ _ _ => (pg_name (i := 7) sc_Sources_write.nd rfl (Or.inl rfl))) (fun _ _ _ _ _ => pts_nil) (fun _ _ _ _ _ => by exact (pe_callB (call_len_lst (K := K) rfl) (by rfl) T.len PySem.boot_len (pa_cons (pv 7) pa_nil))))) pa_nil)))
      (pss_cons (ps_if (pt_cmpR op_gt (pe_op op_add (pv 5) (pe_callB call_len_seq (by rfl) T.len PySem.boot_len (pa_cons (pv 3) pa_nil))) (pe_glob (v := .int (32768)) rfl T.gMOST_OCTETS_sources ⟨_, rfl⟩) (nomark _))
      (pss_one (ps_raise rfl (takes_of rfl rfl rfl rfl) (pmk_oex T.oFault T.MFault T.TFault (ok_Fault___init__ T) (hr.mono (by decide)) T.bFault___init__ .nil pass0 (by rfl) T.gFault (pa_cons (pe_fldC T.clRequest T.nRequest_number (pv 1) rfl) (pa_cons pe_int (pa_cons pe_str pa_nil))))))
      pss_nil)
      (pss_cons (ps_if (PW.pt (pw_and (pt_cmp (pc_dnotin (hu_of hr) (pv 2) (pe_fldC T.clSource T.nSource_pieces (pv 4) rfl))) (pw_and1 (pt_cmpR op_ge (pe_callB call_lenD (by rfl) T.len PySem.boot_len (pa_cons (pe_fldC T.clSource T.nSource_pieces (pv 4) rfl) pa_nil)) (pe_glob (v := .int (16)) rfl T.gMOST_KINDS ⟨_, rfl⟩) (nomark _)))))
      (pss_one (ps_raise rfl (takes_of rfl rfl rfl rfl) (pmk_oex T.oFault T.MFault T.TFault (ok_Fault___init__ T) (hr.mono (by decide)) T.bFault___init__ .nil pass0 (by rfl) T.gFault (pa_cons (pe_fldC T.clRequest T.nRequest_number (pv 1) rfl) (pa_cons pe_int (pa_cons pe_str pa_nil))))))
      pss_nil)
      (pss_one (ps_dput (hu_of hr) (pe_fldC T.clSource T.nSource_pieces (pv 4) rfl) (pv 2) (pe_op op_cat (pe_dget2 (hu_of hr) (pe_fldC T.clSource T.nSource_pieces (pv 4) rfl) (pv 2) (pe_lst pa_nil) ⟨rfl, rfl, rfl, rfl⟩) (pv 3)) rfl))))))))), ?_⟩
    walk_at "gf"
    refine ⟨sd, .ref p.1, rfl, dget_of (k := .inl n) S.e (kvS_at S.nd h1 h2 e), ?_⟩
    walk_at "gf"
    cases hu : s.used with
    | true =>
      refine if_t rfl ?_
      walk_at "gf"
      exact q1.go hu
    | false =>
      refine if_f rfl ?_
      walk_at "gf"
      refine ⟨len_line (by omega), ?_⟩
      walk_at "gf"
      refine iteP (fun c1 => ?_) (fun c1 => ?_)
      · walk_at "gf"
        exact ⟨by show 3 ≤ 1000; decide, fault_go (q2.go hu _ _ (by unfold wrF; rw [if_pos (by omega)]))⟩
      have c1' : ¬ 128 < kind.length := by omega
      refine ⟨fun σ' H' => ∃ v6 v7, σ' = [some (.ref so), some (.ref r), some (.str kind), some (.ref ob), some (.ref p.1), some (.int (total ss)), v6, v7] ∧ (∀ b, H b ≠ none → H' b = H b) ∧ ∀ b, H' b = none → H b = none, ?_, ?_⟩
      · obtain ⟨ks, hks, hkp⟩ := choose_nat as.length (P := fun i (kvs : List (Key × V)) => ∃ p s, as[i]? = some p ∧ ss[i]? = some s ∧ H p.2 = some (.dK kvs) ∧ PcR U kvs s.ps) fun i hi => by
          have hl : i < ss.length := by have := S.len; omega
          obtain ⟨kvs, e1, e2⟩ := S.po i _ _ (List.getElem?_eq_getElem hi) (List.getElem?_eq_getElem hl)
          exact ⟨kvs, _, _, List.getElem?_eq_getElem hi, List.getElem?_eq_getElem hl, e1, e2⟩
        have hds : ((as.zip ks).map fun z => (z.1.2, HO.dK z.2)).map Prod.fst = as.map Prod.snd := by
          rw [List.map_map, show (Prod.fst ∘ fun z : (Addr × Addr) × List (Key × V) => (z.1.2, HO.dK z.2)) = Prod.snd ∘ Prod.fst from rfl, ← List.map_map, List.map_fst_zip (by omega)]
        refine ⟨((as.zip ks).map fun z => (z.1.2, HO.dK z.2)).length, locks_go (fun v H2 => ∃ D, v = .ref D ∧ H D = none ∧ H2 D = some (.lst (((fresh ss).flatMap lens).map V.int)) ∧ (∀ b, H b ≠ none → b ∉ as.map Prod.snd → H2 b = H b) ∧ ∀ b, H2 b = none → H b = none) _ H _ (by rw [hds]; exact S.n2) (fun x hx => ?_) (fun H1 Q2 hh hq => ?_) (fun v H2 H3 rr ff => ?_)⟩
        · obtain ⟨⟨pp, kvs⟩, hz, rfl⟩ := List.mem_map.mp hx
          obtain ⟨j, hj⟩ := List.getElem?_of_mem hz
          rw [List.getElem?_zip_eq_some] at hj
          obtain ⟨p', s', g1, g2, g3, g4⟩ := hkp j kvs hj.2
          cases hj.1.symm.trans g1
          exact ⟨g3, trivial⟩
        · have off : ∀ b, b ∉ as.map Prod.snd → H1 b = H b := fun b hb => hh.off b (by rw [hds]; exact hb)
          have notp : ∀ {b : Addr} {u : HO}, H b = some u → (∀ k, u ≠ .dK k) → b ∉ as.map Prod.snd := fun {b u} hb hn z => by
            obtain ⟨pp, hpp, rfl⟩ := List.mem_map.mp z
            obtain ⟨j, hj⟩ := List.getElem?_of_mem hpp
            have hl : j < ss.length := by have := (List.getElem?_eq_some_iff.mp hj).1; have := S.len; omega
            obtain ⟨kvs, e1, _⟩ := S.po j _ _ hj (List.getElem?_eq_getElem hl)
            rw [e1] at hb; cases hb; exact hn _ rfl
          have eso1 : H1 so = _ := (off so (notp esoH (fun k z => by cases z))).trans esoH
          have esd1 : H1 sd = _ := (off sd S.n3).trans S.e
          have lkd : ∀ (j : Nat) (p : Addr × Addr) (s : Src), as[j]? = some p → ss[j]? = some s → ∃ od kvs, H1 p.2 = some (.frz od (.dK kvs)) ∧ PcR U kvs s.ps := fun j pp s' g1 g2 => by
            have hj : j < ks.length := by have := (List.getElem?_eq_some_iff.mp g1).1; omega
            obtain ⟨p', s'', g3, g4, g5, g6⟩ := hkp j _ (List.getElem?_eq_getElem hj)
            cases g1.symm.trans g3
            cases g2.symm.trans g4
            obtain ⟨od, ho⟩ := hh.on (pp.2, .dK ks[j]) (List.mem_map.mpr ⟨(pp, ks[j]), List.mem_of_getElem? (i := j) (List.getElem?_zip_eq_some.mpr ⟨g1, List.getElem?_eq_getElem hj⟩), rfl⟩)
            exact ⟨od, _, ho, g6⟩
          have io1 : ∀ (j : Nat) (p : Addr × Addr) (s : Src), as[j]? = some p → ss[j]? = some s → SrcI A.CSource H1 p s := fun j pp s' g1 g2 => by
            obtain ⟨dx', e'⟩ := S.io j pp s' g1 g2
            exact ⟨dx', (off _ (notp e' (fun k z => by cases z))).trans e'⟩
          walk_at "gf"
          refine ⟨so, dxs, sd, as, ss, rfl, eso1, esd1, S.len, hsl, io1, fun pf H2 hpf epf kpf => ?_⟩
          walk_at "gf"
          have uas : ∀ b, b ∈ as.map Prod.snd → U b = none := fun b hb => by
            obtain ⟨pp, hpp, rfl⟩ := List.mem_map.mp hb
            exact (S.uu pp hpp).2
          have s12 : Same H1 H2 := fun b u e => (kpf b (fun z => by rw [z, hpf] at e; cases e)).trans e
          have sU1 : Same U H1 := fun b u e => (off b (fun z => by rw [uas b z] at e; cases e)).trans (sU b u e)
          have sU2 : Same U H2 := sU1.trans s12
          refine ⟨⟨_, SqL.of epf⟩, fun D hD => ?_⟩
          refine lc2_outer (K := K) (V0 := U) (walk_list (K := K) (a := pf) (xs := frV as ss)) (fun i => ((zfr as ss).take i).flatMap fun z => (lens z.2).map PyData.int) _ rfl sU2 hD rfl (fun H' s => s.seq (SqL.of epf)) (fun i x H H' y => y.1) ?_ ?_
          · rintro j v H3 hj inv ⟨_, hv⟩ Nx hN
            have s23 : Same H2 H3 := by obtain ⟨_, _, x, _⟩ := inv.ex; exact x.hh
            have hv' : ((zfr as ss).map fun z => V.ref z.1.1)[j]? = some v := hv
            rw [List.getElem?_map] at hv'
            obtain ⟨⟨pp, s'⟩, hz, rfl⟩ := Option.map_eq_some_iff.mp hv'
            have hzm : (pp, s') ∈ as.zip ss := (List.mem_filter.mp (List.mem_of_getElem? hz)).1
            obtain ⟨jj, hjj⟩ := List.getElem?_of_mem hzm
            rw [List.getElem?_zip_eq_some] at hjj
            obtain ⟨dx', e'⟩ := io1 jj pp s' hjj.1 hjj.2
            obtain ⟨od, kvs, ek, rk⟩ := lkd jj pp s' hjj.1 hjj.2
            have e3 := s23 _ _ (s12 _ _ e')
            have ek3 := s23 _ _ (s12 _ _ ek)
            have hps := (hpl s' (List.mem_of_getElem? hjj.2)).1
            have e1 := fl_take' (fun z : (Addr × Addr) × Src => (lens z.2).map PyData.int) (zfr as ss) j (pp, s') hz
            have l1 := fl_le' (fun z : (Addr × Addr) × Src => (lens z.2).map PyData.int) (zfr as ss) (j + 1)
            have l2 := flat_len (fun z : (Addr × Addr) × Src => (lens z.2).map PyData.int) 16 (zfr as ss) fun z hz => by
              have hz2 : z ∈ as.zip ss := (List.mem_filter.mp hz).1
              obtain ⟨jz, hjz⟩ := List.getElem?_of_mem hz2
              rw [show z = (z.1, z.2) from rfl, List.getElem?_zip_eq_some] at hjz
              unfold lens
              rw [List.length_map, List.length_map]
              exact (hpl z.2 (List.mem_of_getElem? hjz.2)).1
            have l3 : (zfr as ss).length ≤ 1000 := by
              have := List.length_filter_le (fun z : (Addr × Addr) × Src => !z.2.used) (as.zip ss)
              unfold zfr
              rw [List.length_zip] at this; omega
            have hkl := rk.len
            have ll : ((lens s').map PyData.int).length = kvs.length := by unfold lens; rw [List.length_map, List.length_map]; omega
            rw [e1, List.length_append] at l1
            refine ⟨rfl, ?_⟩
            refine ⟨_, rfl, pp.1, A.CSource, dx', _, .ref pp.2, rfl, e3, T.clSource, T.nSource_pieces, by unfold srcF; walk_at "lk", pp.2, od, kvs, rfl, ek3, ?_⟩
            refine lc2_inner (K := K) (walk_values (d := pp.2) (o := od) (kvs := kvs)) (fun m => ((lens s').map PyData.int)[m]?) _ rfl hD inv (by dsimp only at l1; omega) (fun H' s => s _ _ (s12 _ _ ek)) (fun i x H H' y => y.1) ?_ ?_
            · rintro m x U2 H4 hm xx ⟨_, kx, hkx⟩ Qy Qn hy _
              obtain ⟨q, b, hq, ekv, eb⟩ := rk.get hkx
              cases ekv
              refine ⟨rfl, _, rfl, b, _, rfl, .inl (SqL.of (xx.vh _ _ (xx.vv _ _ eb))), ?_⟩
              refine hy _ _ _ _ (by unfold lens; rw [List.getElem?_map, List.getElem?_map, hq]; rfl) (Ext.refl xx.vh) ?_
              rw [List.length_map]
              exact .int _
            · intro H4 inv2
              refine hN H4 ?_
              have e3 : ∀ L : List PyData, fm (fun m => L[m]?) L.length = L := fun L => by
                have := fm_map (fun d : PyData => d) L
                simpa using this
              rw [← ll, e3] at inv2
              rw [e1]; exact inv2
          · intro U5 H5 xs xx eD da dl
            have flen : (frV as ss).length = (zfr as ss).length := by unfold frV zfr; rw [List.length_map]
            rw [flen, List.take_length, show ((zfr as ss).flatMap fun z => (lens z.2).map PyData.int) = ((fresh ss).flatMap lens).map PyData.int from by rw [← zfr_snd S.len, List.flatMap_map, List.map_flatMap]] at da
            have exs := dp_intsV da
            subst exs
            have s25 := xx.hh
            have frzs : ∀ b ∈ as.map Prod.snd, ∃ u, H1 b = some u := fun b hb => by
              obtain ⟨pp, hpp, rfl⟩ := List.mem_map.mp hb
              obtain ⟨j, hj⟩ := List.getElem?_of_mem hpp
              have hl : j < ss.length := by have := (List.getElem?_eq_some_iff.mp hj).1; have := S.len; omega
              obtain ⟨od, kvs, ek, _⟩ := lkd j pp _ hj (List.getElem?_eq_getElem hl)
              exact ⟨_, ek⟩
            have k5 : ∀ b, H b ≠ none → b ∉ as.map Prod.snd → H5 b = H b := fun b hb hn => by
              cases e0 : H b with
              | none => exact absurd e0 hb
              | some u => exact s25 _ _ (s12 _ _ ((off b hn).trans e0))
            have m5 : ∀ b, H5 b = none → H b = none := fun b hb => by
              by_cases c : b ∈ as.map Prod.snd
              · obtain ⟨u, e0⟩ := frzs b c
                have := s25 _ _ (s12 _ _ e0)
                rw [hb] at this; cases this
              · cases e0 : H b with
                | none => rfl
                | some u => have := k5 b (by rw [e0]; exact fun z => by cases z) c; rw [hb, e0] at this; cases this
            have hDH : H D = none := by
              have hD1 : H1 D = none := by
                cases e0 : H1 D with
                | none => rfl
                | some u => have := s12 _ _ e0; rw [hD] at this; cases this
              rw [off D (fun z => by obtain ⟨u, e0⟩ := frzs D z; rw [hD1] at e0; cases e0)] at hD1
              exact hD1
            refine hq _ _ (fun x hx => ?_) ⟨D, rfl, hDH, xx.vh _ _ eD, k5, m5⟩
            obtain ⟨od, ho⟩ := hh.on x hx
            rw [ho]
            exact s25 _ _ (s12 _ _ ho)
        · obtain ⟨D, rfl, hD, eD, kD, mD⟩ := rr
          have hDn : D ∉ as.map Prod.snd := fun z => by
            obtain ⟨pp, hpp, rfl⟩ := List.mem_map.mp z
            obtain ⟨j, hj⟩ := List.getElem?_of_mem hpp
            have hl : j < ss.length := by have := (List.getElem?_eq_some_iff.mp hj).1; have := S.len; omega
            obtain ⟨kvs, e1, _⟩ := S.po j _ _ hj (List.getElem?_eq_getElem hl)
            rw [e1] at hD; cases hD
          have eD3 : H3 D = some (.lst (((fresh ss).flatMap lens).map V.int)) := (ff.off D (by rw [hds]; exact hDn)).trans eD
          refine ⟨D, (fresh ss).flatMap lens, rfl, SqL.of eD3, _, _, rfl, fun b hb => ?_, fun b hb => ?_⟩
          · by_cases c : b ∈ as.map Prod.snd
            · obtain ⟨pp, hpp, rfl⟩ := List.mem_map.mp c
              obtain ⟨j, hj⟩ := List.getElem?_of_mem hpp
              have hjk : j < ks.length := by have := (List.getElem?_eq_some_iff.mp hj).1; omega
              obtain ⟨p', s'', g3, g4, g5, g6⟩ := hkp j _ (List.getElem?_eq_getElem hjk)
              cases hj.symm.trans g3
              rw [ff.on (pp.2, .dK ks[j]) (List.mem_map.mpr ⟨(pp, ks[j]), List.mem_of_getElem? (i := j) (List.getElem?_zip_eq_some.mpr ⟨hj, List.getElem?_eq_getElem hjk⟩), rfl⟩), g5]
            · rw [ff.off b (by rw [hds]; exact c)]; exact kD b hb c
          · by_cases c : b ∈ as.map Prod.snd
            · obtain ⟨pp, hpp, rfl⟩ := List.mem_map.mp c
              obtain ⟨j, hj⟩ := List.getElem?_of_mem hpp
              have hjk : j < ks.length := by have := (List.getElem?_eq_some_iff.mp hj).1; omega
              rw [ff.on (pp.2, .dK ks[j]) (List.mem_map.mpr ⟨(pp, ks[j]), List.mem_of_getElem? (i := j) (List.getElem?_zip_eq_some.mpr ⟨hj, List.getElem?_eq_getElem hjk⟩), rfl⟩)] at hb
              cases hb
            · rw [ff.off b (by rw [hds]; exact c)] at hb; exact mD b hb
      rintro σ' H1 ⟨v6, v7, rfl, k1, m1⟩
      have s1 : Same H H1 := fun b u e => (k1 b (by rw [e]; exact fun z => by cases z)).trans e
      have S1 : Ss A U H1 so sd as ss := S.frame (Same.refl _) (fun b hb hu _ => ⟨hu, k1 b hb⟩)
      have eob1 := s1 _ _ eob
      have erq1 := s1 _ _ erq
      have ea1 := s1 _ _ ea'
      walk_at "gf"
      have up := fun {c : Int} {wd : Str} (h : FaultTo A H E n c wd) => FaultTo.up h k1 m1
      obtain ⟨kvs, ek, r⟩ := S1.po i p s h1 h2
      have hkv := r.len
      have hpm := List.mem_of_getElem? h1
      have uu := S1.uu p hpm
      have eap := ne_of ek ea1 (by intro z; cases z)
      have hs := hpl s (List.mem_of_getElem? h2)
      refine iteP (fun c2 => ?_) (fun c2 => ?_)
      · walk_at "gf"
        exact ⟨by show 3 ≤ 1000; decide, fault_go (up (q2.go hu _ _ (by unfold wrF; rw [if_neg c1', if_pos (.inl (by rw [List.length_map] at c2; omega))])))⟩
      have c2' : ¬ 32768 < total ss + (os.length : Int) := by rw [List.length_map] at c2; omega
      walk_at "gf"
      refine ⟨p.2, _, rfl, DGet.k (k := .inr kind) ek, ?_⟩
      apply useR (C := pcFind s.ps kind = none ∧ 16 ≤ s.ps.length)
      · intro rr bb
        rcases r.val kind with ⟨hv, hf⟩ | ⟨b0, os0, hv, hf, hb0⟩
        · rw [hv]
          refine ⟨_, rfl, if_t rfl ?_⟩
          walk_at "gf"
          refine ⟨p.2, kvs, rfl, ek, ?_⟩
          walk_at "gf"
          exact iteP (fun c3 => bb ⟨hf, by omega⟩) (fun c3 => rr (fun z => by omega))
        · rw [hv]
          exact ⟨_, rfl, if_f rfl (if_f rfl (rr (fun z => by rw [hf] at z; cases z.1)))⟩
      · intro hn
        have hw : wrF ss s kind os = none := by
          unfold wrF
          rw [if_neg c1', if_neg (fun z => z.elim c2' hn)]
        walk_at "gf"
        refine ⟨.inl ⟨kvs, .inl ek⟩, ?_⟩
        walk_at "gf"
        rename_i pl hpl
        have sU1 := sU.trans s1
        have sl := same_upd (o := .lst []) hpl
        have kl : ∀ b, H1 b ≠ none → (upd H1 pl (.lst [])) b = H1 b := fun b hb => upd_ne (fun z => hb (by rw [z]; exact hpl))
        have ml : ∀ b, (upd H1 pl (.lst [])) b = none → H1 b = none := fun b hb => by
          by_cases c : b = pl
          · rw [c]; exact hpl
          · rw [upd_ne c] at hb; exact hb
        have epl : (upd H1 pl (.lst [])) pl = some (.lst []) := upd_same
        have ek2 := sl _ _ ek
        have eob2 := sl _ _ eob1
        have ea2 := sl _ _ ea1
        generalize upd H1 pl (.lst []) = H2 at sl ek2 eob2 ea2 kl ml epl ⊢
        refine ⟨_, DGet.k (k := .inr kind) ek2, ?_⟩
        obtain ⟨l, hl, el, hll⟩ : ∃ l, (valV kvs (.inr kind)).getD (.ref pl) = .ref l ∧ H2 l = some (.lst (((pcFind s.ps kind).getD []).map V.int)) ∧ ((pcFind s.ps kind).getD []).length ≤ 40000 := by
          rcases r.val kind with ⟨hv, hf⟩ | ⟨b0, os0, hv, hf, hb0⟩
          · rw [hv, hf]; exact ⟨pl, rfl, epl, by show 0 ≤ 40000; decide⟩
          · rw [hv, hf]
            refine ⟨b0, rfl, sl _ _ (sU1 _ _ hb0), ?_⟩
            unfold pcFind at hf
            obtain ⟨x, hx, rfl⟩ := Option.map_eq_some_iff.mp hf
            exact hs.2 x (List.mem_of_find?_eq_some hx)
        rw [hl]
        walk_at "gf"
        refine ⟨l, ob, _, _, rfl, rfl, el, eob2, len_line (by rw [List.length_map, List.length_map]; omega), fun pn hpn => ?_⟩
        have sn := same_upd (o := .lst (((pcFind s.ps kind).getD []).map V.int ++ os.map V.int)) hpn
        have en : (upd H2 pn (.lst (((pcFind s.ps kind).getD []).map V.int ++ os.map V.int))) pn = some (.lst (((pcFind s.ps kind).getD [] ++ os).map V.int)) := by rw [List.map_append]; exact upd_same
        have kn : ∀ b, H2 b ≠ none → (upd H2 pn (.lst (((pcFind s.ps kind).getD []).map V.int ++ os.map V.int))) b = H2 b := fun b hb => upd_ne (fun z => hb (by rw [z]; exact hpn))
        have mn : ∀ b, (upd H2 pn (.lst (((pcFind s.ps kind).getD []).map V.int ++ os.map V.int))) b = none → H2 b = none := fun b hb => by
          by_cases c : b = pn
          · rw [c]; exact hpn
          · rw [upd_ne c] at hb; exact hb
        have ek3 := sn _ _ ek2
        have ea3 := sn _ _ ea2
        generalize upd H2 pn (.lst (((pcFind s.ps kind).getD []).map V.int ++ os.map V.int)) = H3 at sn en kn mn ek3 ea3 ⊢
        have hpnH : H pn = none := m1 _ (ml _ hpn)
        have hupn : U pn = none := sU.free hpnH
        walk_at "gf"
        refine ⟨p.2, _, rfl, DPut.k (k := .inr kind) ek3 (Nat.lt_of_lt_of_le (m := 100000) (by omega) (by decide)), ?_⟩
        have kH : ∀ b, H b ≠ none → H3 b = H b := fun b hb => by
          have h1' := k1 b hb
          have h2' := kl b (by rw [h1']; exact hb)
          rw [kn b (by rw [h2', h1']; exact hb), h2', h1']
        have mH : ∀ b, H3 b = none → H b = none := fun b hb => m1 b (ml b (mn b hb))
        have np2 : pn ≠ p.2 := fun z => by rw [← z, hpn] at ek2; cases ek2
        have vv : Same U (upd U pn (.lst (((pcFind s.ps kind).getD [] ++ os).map V.int))) := same_upd hupn
        have out : ∀ b, U b = none → H b ≠ none → (upd U pn (.lst (((pcFind s.ps kind).getD [] ++ os).map V.int))) b = none := fun b hb hn => (upd_ne (fun z => hn (by rw [z]; exact hpnH))).trans hb
        have kp : ∀ b, b ≠ p.2 → H b ≠ none → (upd H3 p.2 (.dK (putK kvs (.inr kind) (.ref pn)))) b = H b := fun b hb hn => (upd_ne hb).trans (kH b hn)
        have s3 : Same U H3 := fun b u e => (kH b (by rw [sU b u e]; exact fun z => by cases z)).trans (sU b u e)
        have vh : Same (upd U pn (.lst (((pcFind s.ps kind).getD [] ++ os).map V.int))) (upd H3 p.2 (.dK (putK kvs (.inr kind) (.ref pn)))) := fun b u e => by
          by_cases c : b = pn
          · rw [c, upd_same] at e
            rw [c, upd_ne np2, ← e]; exact en
          · rw [upd_ne c] at e
            rw [upd_ne (fun z => by rw [z, uu.2] at e; cases e)]
            exact s3 b u e
        refine q3.go hu hw _ _ ⟨vv, vh, out, fun b hb => ?_, fun b hb hn => kp b (by simpa using hb) hn⟩ ?_
        · by_cases c : b = p.2
          · rw [c, upd_same] at hb; cases hb
          · rw [upd_ne c] at hb; exact mH b hb
        · refine S.put (t := { s with ps := putP s.ps kind os }) vv h1 h2 rfl (fun b hb hu _ n1 n2 => ⟨out b hu hb, kp b n2 hb⟩) ⟨out _ uu.1 (by rw [ea]; exact fun z => by cases z), out _ uu.2 (by obtain ⟨kk, e0, _⟩ := S.po i p s h1 h2; rw [e0]; exact fun z => by cases z)⟩ ⟨dx, (upd_ne (ne_of ea3 ek3 (by intro z; cases z))).trans ea3⟩ ⟨_, upd_same, (r.to vv).put (S.pk s (List.mem_of_getElem? h2)) upd_same⟩ (putP_keys (S.pk s (List.mem_of_getElem? h2)))
      · intro hc
        walk_at "gf"
        exact ⟨by show 3 ≤ 1000; decide, fault_go (up (q2.go hu _ _ (by unfold wrF; rw [if_neg c1', if_pos (.inr hc)])))⟩
/-! ### a wish -/
def sp_Reply_wish (C : Addr) (K : PySem.W.Frag) : Sp := fun vs H Q _ => ∃ (o lt le lw : Addr) (v : V) (pd : PyData) (ts : List (List Int)) (es : List Int) (ws : List PyData) (U : Hp), vs = [.ref o, v] ∧ Same U H ∧ Rp C K U H o lt le lw ts es ws ∧ Dp K U v pd ∧ ws.length ≤ 1000 ∧
  ∀ H', Ch U H U H' [lw] → Rp C K U H' o lt le lw ts es (ws ++ [pd]) → Q .non H'
theorem sc_Reply_wish : FnScope ["self", "deed"] ["self", "deed"] (defScope s_Reply_wish) := ⟨rfl, rfl, rfl, by decide +kernel, rfl, by decide +kernel, by decide +kernel⟩
theorem ok_Reply_wish (T : Txt0 P K mg A) : FnOk P w K mg base CX0 1 A.fReply_wish A.dReply_wish ["self", "deed"] (sp_Reply_wish A.CReply K) := by
  refine T.FReply_wish.ok sc_Reply_wish (fun vs H Q E h => ?_) (fun cdv Ar outer s H vs Q E hr h => ?_)
  · obtain ⟨_, _, _, _, _, _, _, _, _, _, rfl, _⟩ := h
    rfl
  · obtain ⟨o, lt, le, lw, v, pd, ts, es, ws, U, rfl, sU, R, dv, hl, q⟩ := h
    obtain ⟨dx, wa, e1⟩ := R.ob
    obtain ⟨yt, e2, d2⟩ := R.t
    have e3 := R.e
    obtain ⟨yw, e4, d4⟩ := R.w
    have hyl := dpall_len d4
    refine ⟨_, (pss_one (ps_expr (pe_bm PySem.F.plainAttrs_list PySem.F.slot_list_append PySem.F.type_list_append mt_append (pe_fldC T.clReply T.nReply_wishes (pv 0) rfl) (pa_cons (pv 1) pa_nil)))), ?_⟩
    walk_at "gf"
    refine ⟨lw, _, _, rfl, rfl, e4, Nat.lt_of_lt_of_le (m := 100000) (by omega) (by decide), ?_⟩
    have no : o ≠ lw := ne_of e1 e4 (by intro z; cases z)
    exact q _ (Ch.poke sU R.uw _ (List.mem_singleton.mpr rfl)) ⟨⟨dx, wa, by rw [upd_ne no]; exact e1⟩, R.uo, R.ut, R.ue, R.uw, R.n1, R.n2, R.n3, ⟨yt, by rw [upd_ne R.n2]; exact e2, d2⟩, by rw [upd_ne R.n3]; exact e3, ⟨_, upd_same, dpall_app d4 (.cons dv .nil)⟩⟩
/-- never called here -/
def spF : Sp := fun _ _ _ _ => False
theorem sc_Offers_read : FnScope ["self", "request", "reply", "goods", "kind", "begin", "length"] ["self", "request", "reply"] (defScope s_Offers_read) := ⟨rfl, rfl, rfl, by decide +kernel, rfl, by decide +kernel, by decide +kernel⟩
theorem ok_Offers_read (T : Txt0 P K mg A) : FnOk P w K mg base (L2.CX P w) 3 A.fOffers_read A.dOffers_read ["self", "request", "reply"] spF := T.FOffers_read.okX sc_Offers_read (fun _ _ _ _ h => h.elim) (fun _ _ _ _ _ _ _ _ _ h => h.elim)
theorem sc_Fetches_read : FnScope ["self", "request", "reply", "begin", "length", "octets"] ["self", "request", "reply"] (defScope s_Fetches_read) := ⟨rfl, rfl, rfl, by decide +kernel, rfl, by decide +kernel, by decide +kernel⟩
theorem ok_Fetches_read (T : Txt0 P K mg A) : FnOk P w K mg base (L2.CX P w) 3 A.fFetches_read A.dFetches_read ["self", "request", "reply"] spF := T.FFetches_read.okX sc_Fetches_read (fun _ _ _ _ h => h.elim) (fun _ _ _ _ _ _ _ _ _ h => h.elim)
theorem sc_Fetches_make_fetch : FnScope ["self", "request", "number", "name"] ["self", "request"] (defScope s_Fetches_make_fetch) := ⟨rfl, rfl, rfl, by decide +kernel, rfl, by decide +kernel, by decide +kernel⟩
theorem ok_Fetches_make_fetch (T : Txt0 P K mg A) : FnOk P w K mg base (L2.CX P w) 3 A.fFetches_make_fetch A.dFetches_make_fetch ["self", "request"] spF := T.FFetches_make_fetch.okX sc_Fetches_make_fetch (fun _ _ _ _ h => h.elim) (fun _ _ _ _ _ _ _ _ _ h => h.elim)
theorem sc_Fetches_make_watch : FnScope ["self", "request", "number", "label"] ["self", "request"] (defScope s_Fetches_make_watch) := ⟨rfl, rfl, rfl, by decide +kernel, rfl, by decide +kernel, by decide +kernel⟩
theorem ok_Fetches_make_watch (T : Txt0 P K mg A) : FnOk P w K mg base (L2.CX P w) 3 A.fFetches_make_watch A.dFetches_make_watch ["self", "request"] spF := T.FFetches_make_watch.okX sc_Fetches_make_watch (fun _ _ _ _ h => h.elim) (fun _ _ _ _ _ _ _ _ _ h => h.elim)
theorem sc_Holdings__send : FnScope ["self", "request", "reply", "name", "octets", "is_new"] ["self", "request", "reply"] (defScope s_Holdings__send) := ⟨rfl, rfl, rfl, by decide +kernel, rfl, by decide +kernel, by decide +kernel⟩
theorem ok_Holdings__send (T : Txt0 P K mg A) : FnOk P w K mg base (L2.CX P w) 3 A.fHoldings__send A.dHoldings__send ["self", "request", "reply"] spF := T.FHoldings__send.okX sc_Holdings__send (fun _ _ _ _ h => h.elim) (fun _ _ _ _ _ _ _ _ _ h => h.elim)
theorem sc_Holdings__unsend : FnScope ["self", "request", "reply", "name"] ["self", "request", "reply"] (defScope s_Holdings__unsend) := ⟨rfl, rfl, rfl, by decide +kernel, rfl, by decide +kernel, by decide +kernel⟩
theorem ok_Holdings__unsend (T : Txt0 P K mg A) : FnOk P w K mg base CX0 3 A.fHoldings__unsend A.dHoldings__unsend ["self", "request", "reply"] spF := T.FHoldings__unsend.ok sc_Holdings__unsend (fun _ _ _ _ h => h.elim) (fun _ _ _ _ _ _ _ _ _ h => h.elim)
theorem sc_Captures_make : FnScope ["self", "request", "number", "_", "width", "height"] ["self", "request"] (defScope s_Captures_make) := ⟨rfl, rfl, rfl, by decide +kernel, rfl, by decide +kernel, by decide +kernel⟩
theorem ok_Captures_make (T : Txt0 P K mg A) : FnOk P w K mg base (L2.CX P w) 3 A.fCaptures_make A.dCaptures_make ["self", "request"] spF := T.FCaptures_make.okX sc_Captures_make (fun _ _ _ _ h => h.elim) (fun _ _ _ _ _ _ _ _ _ h => h.elim)
theorem sc_Captures_read : FnScope ["self", "request", "reply", "row", "rows", "picture", "width", "height", "octets", "size"] ["self", "request", "reply"] (defScope s_Captures_read) := ⟨rfl, rfl, rfl, by decide +kernel, rfl, by decide +kernel, by decide +kernel⟩
theorem ok_Captures_read (T : Txt0 P K mg A) : FnOk P w K mg base (L2.CX P w) 3 A.fCaptures_read A.dCaptures_read ["self", "request", "reply"] spF := T.FCaptures_read.okX sc_Captures_read (fun _ _ _ _ h => h.elim) (fun _ _ _ _ _ _ _ _ _ h => h.elim)
/-! ### forget of what is empty -/
def spNo (C : Addr) (n1 : Str) : Sp := fun vs H Q _ => ∃ (o dx d : Addr) (n : Int), H o = some (.ins C dx [(n1, .ref d)]) ∧ vs = [.ref o, .int n] ∧ H d = some (.dK []) ∧ Q .non H
theorem sc_Captures_forget : FnScope ["self", "number"] ["self", "number"] (defScope s_Captures_forget) := ⟨rfl, rfl, rfl, by decide +kernel, rfl, by decide +kernel, by decide +kernel⟩
theorem ok_Captures_forget (T : Txt0 P K mg A) : FnOk P w K mg base CX0 1 A.fCaptures_forget A.dCaptures_forget ["self", "number"] (spNo A.CCaptures "_pictures") := by
  refine T.FCaptures_forget.ok sc_Captures_forget (fun vs H Q E h => ?_) (fun cdv Ar outer st H vs Q E hr h => ?_)
  · obtain ⟨_, _, _, _, _, rfl, _⟩ := h
    rfl
  · obtain ⟨o, dx, d, n, e1, rfl, e2, q⟩ := h
    refine ⟨_, (pss_one (ps_if (pt_cmp (pc_din (hu_of hr) (pv 1) (pe_fldC T.clCaptures T.nCaptures__pictures (pv 0) rfl)))
      (pss_one (ps_ddel (pe_fldC T.clCaptures T.nCaptures__pictures (pv 0) rfl) (pv 1)))
      pss_nil)), ?_⟩
    walk_at "gf"
    refine ⟨d, _, rfl, DGet.k (k := .inl n) e2, ?_⟩
    exact ⟨_, rfl, if_f rfl q⟩
def sp_Fetches_forget (C : Addr) : Sp := fun vs H Q _ => ∃ (o dx d d2 : Addr) (n : Int), vs = [.ref o, .int n] ∧ H o = some (.ins C dx [("_fetches", .ref d), ("_watches", .ref d2)]) ∧ H d = some (.dK []) ∧ H d2 = some (.dK []) ∧ Q .non H
theorem sc_Fetches_forget : FnScope ["self", "number"] ["self", "number"] (defScope s_Fetches_forget) := ⟨rfl, rfl, rfl, by decide +kernel, rfl, by decide +kernel, by decide +kernel⟩
theorem ok_Fetches_forget (T : Txt0 P K mg A) : FnOk P w K mg base CX0 1 A.fFetches_forget A.dFetches_forget ["self", "number"] (sp_Fetches_forget A.CFetches) := by
  refine T.FFetches_forget.ok sc_Fetches_forget (fun vs H Q E h => ?_) (fun cdv Ar outer st H vs Q E hr h => ?_)
  · obtain ⟨_, _, _, _, _, rfl, _⟩ := h
    rfl
  · obtain ⟨o, dx, d, d2, n, rfl, e1, e2, e3, q⟩ := h
    refine ⟨_, (pss_cons (ps_if (pt_cmp (pc_din (hu_of hr) (pv 1) (pe_fldC T.clFetches T.nFetches__fetches (pv 0) rfl)))
      (pss_one (ps_ddel (pe_fldC T.clFetches T.nFetches__fetches (pv 0) rfl) (pv 1)))
      pss_nil)
      (pss_one (ps_if (pt_cmp (pc_din (hu_of hr) (pv 1) (pe_fldC T.clFetches T.nFetches__watches (pv 0) rfl)))
      (pss_one (ps_ddel (pe_fldC T.clFetches T.nFetches__watches (pv 0) rfl) (pv 1)))
      pss_nil))), ?_⟩
    walk_at "gf"
    refine ⟨d, _, rfl, DGet.k (k := .inl n) e2, ?_⟩
    refine ⟨_, rfl, if_f rfl ?_⟩
    walk_at "gf"
    refine ⟨d2, _, rfl, DGet.k (k := .inl n) e3, ?_⟩
    exact ⟨_, rfl, if_f rfl q⟩
def sp_Offers_forget (C : Addr) : Sp := fun vs H Q _ => ∃ (o dx tr kd : Addr) (n : Int), vs = [.ref o, .int n] ∧ H o = some (.ins C dx [("_transfers", .ref tr), ("_kept", .ref kd), ("_is_hovered", .bl false)]) ∧ H tr = some (.lst []) ∧ H kd = some (.dK []) ∧ Q .non H
theorem sc_Offers_forget : FnScope ["self", "number"] ["self", "number"] (defScope s_Offers_forget) := ⟨rfl, rfl, rfl, by decide +kernel, rfl, by decide +kernel, by decide +kernel⟩
theorem ok_Offers_forget (T : Txt0 P K mg A) : FnOk P w K mg base CX0 1 A.fOffers_forget A.dOffers_forget ["self", "number"] (sp_Offers_forget A.COffers) := by
  refine T.FOffers_forget.ok sc_Offers_forget (fun vs H Q E h => ?_) (fun cdv Ar outer st H vs Q E hr h => ?_)
  · obtain ⟨_, _, _, _, _, rfl, _⟩ := h
    rfl
  · obtain ⟨o, dx, tr, kd, n, rfl, e1, e2, e3, q⟩ := h
    refine ⟨_, (pss_cons (ps_if (pt_cmpR op_in_seq (pv 1) (pe_fldC T.clOffers T.nOffers__transfers (pv 0) rfl) (by rfl))
      (pss_one (ps_expr (pe_bm PySem.F.plainAttrs_list PySem.F.slot_list_remove PySem.F.type_list_remove mt_remove (pe_fldC T.clOffers T.nOffers__transfers (pv 0) rfl) (pa_cons (pv 1) pa_nil))))
      pss_nil)
      (pss_one (ps_if (pt_cmp (pc_din (hu_of hr) (pv 1) (pe_fldC T.clOffers T.nOffers__kept (pv 0) rfl)))
      (pss_one (ps_ddel (pe_fldC T.clOffers T.nOffers__kept (pv 0) rfl) (pv 1)))
      pss_nil))), ?_⟩
    walk_at "gf"
    refine ⟨kd, _, rfl, DGet.k (k := .inl n) e3, ?_⟩
    exact ⟨_, rfl, if_f rfl q⟩
/-! ### holdings with sources only -/
theorem kvS_drop {n : Int} : ∀ {as : List (Addr × Addr)} {ss : List Src}, as.length = ss.length → dropK (kvS as ss) (.inl n) = kvS (((as.zip ss).filter fun z => decide (z.2.n ≠ n)).map Prod.fst) (ss.filter fun s => decide (s.n ≠ n))
  | [], [], _ => rfl
  | a :: as, s :: ss, h => by
    have ih := kvS_drop (n := n) (as := as) (ss := ss) (by simpa using h)
    have e : kvS (a :: as) (s :: ss) = (.inl s.n, V.ref a.1) :: kvS as ss := rfl
    rw [e, List.zip_cons_cons]
    by_cases c : s.n = n
    · rw [dropK_pos (by show Sum.inl _ = _; rw [c]), List.filter_cons_of_neg (by simp [c]), List.filter_cons_of_neg (by simp [c]), ih]
    · rw [dropK_neg (fun z => c (by injection z)), List.filter_cons_of_pos (by simp [c]), List.filter_cons_of_pos (by simp [c]), ih]
      rfl
  | [], _ :: _, h => by cases h
  | _ :: _, [], h => by cases h
structure HdS (A : Adr) (U : Hp) (h so : Addr) : Prop where
  ex : ∃ (dx f cp a3 tr kd d d3 d4 xf xc x3 : Addr) (v : V), U h = some (.ins A.CHoldings dx [("_sources", .ref so), ("_offers", .ref f), ("_captures", .ref cp), ("_fetches", .ref a3), ("_sent_names", v)]) ∧
    U f = some (.ins A.COffers xf [("_transfers", .ref tr), ("_kept", .ref kd), ("_is_hovered", .bl false)]) ∧ U tr = some (.lst []) ∧ U kd = some (.dK []) ∧
    U cp = some (.ins A.CCaptures xc [("_pictures", .ref d)]) ∧ U d = some (.dK []) ∧ U a3 = some (.ins A.CFetches x3 [("_fetches", .ref d3), ("_watches", .ref d4)]) ∧ U d3 = some (.dK []) ∧ U d4 = some (.dK [])
theorem HdS.to {A : Adr} {U U' : Hp} {h so : Addr} (x : HdS A U h so) (s : Same U U') : HdS A U' h so := by
  obtain ⟨dx, f, cp, a3, tr, kd, d, d3, d4, xf, xc, x3, v, z1, z2, z3, z4, z5, z6, z7, z8, z9⟩ := x.ex
  exact ⟨dx, f, cp, a3, tr, kd, d, d3, d4, xf, xc, x3, v, s _ _ z1, s _ _ z2, s _ _ z3, s _ _ z4, s _ _ z5, s _ _ z6, s _ _ z7, s _ _ z8, s _ _ z9⟩
/-- the sources without a number's -/
def dropA (as : List (Addr × Addr)) (ss : List Src) (n : Int) : List (Addr × Addr) := ((as.zip ss).filter fun z => decide (z.2.n ≠ n)).map Prod.fst
def dropS (ss : List Src) (n : Int) : List Src := ss.filter fun s => decide (s.n ≠ n)
theorem drop_len {n : Int} : ∀ {as : List (Addr × Addr)} {ss : List Src}, as.length = ss.length → (dropA as ss n).length = (dropS ss n).length
  | [], [], _ => rfl
  | a :: as, s :: ss, h => by
    have ih := drop_len (n := n) (as := as) (ss := ss) (by simpa using h)
    unfold dropA dropS at ih ⊢
    rw [List.zip_cons_cons]
    by_cases c : s.n = n
    · rw [List.filter_cons_of_neg (by simp [c]), List.filter_cons_of_neg (by simp [c])]; exact ih
    · rw [List.filter_cons_of_pos (by simp [c]), List.filter_cons_of_pos (by simp [c]), List.map_cons, List.length_cons, List.length_cons, ih]
  | [], _ :: _, h => by cases h
  | _ :: _, [], h => by cases h
theorem drop_at {n : Int} : ∀ {as : List (Addr × Addr)} {ss : List Src}, as.length = ss.length → ∀ (i : Nat) (p : Addr × Addr) (s : Src), (dropA as ss n)[i]? = some p → (dropS ss n)[i]? = some s → ∃ j : Nat, as[j]? = some p ∧ ss[j]? = some s
  | [], [], _, i, p, s, h1, _ => by cases h1
  | a :: as, t :: ss, h, i, p, s, h1, h2 => by
    have ih := drop_at (n := n) (as := as) (ss := ss) (by simpa using h)
    unfold dropA dropS at ih
    unfold dropA at h1
    unfold dropS at h2
    rw [List.zip_cons_cons] at h1
    by_cases c : t.n = n
    · rw [List.filter_cons_of_neg (by simp [c])] at h1 h2
      obtain ⟨j, g1, g2⟩ := ih i p s h1 h2
      exact ⟨j + 1, g1, g2⟩
    · rw [List.filter_cons_of_pos (by simp [c])] at h1 h2
      cases i with
      | zero => cases h1; cases h2; exact ⟨0, rfl, rfl⟩
      | succ i =>
        obtain ⟨j, g1, g2⟩ := ih i p s h1 h2
        exact ⟨j + 1, g1, g2⟩
  | [], _ :: _, h, _, _, _, _, _ => by cases h
  | _ :: _, [], h, _, _, _, _, _ => by cases h
theorem dropA_sub {n : Int} {as : List (Addr × Addr)} {ss : List Src} (h : as.length = ss.length) : (dropA as ss n).Sublist as := by
  unfold dropA
  have := (List.filter_sublist (p := fun z : (Addr × Addr) × Src => decide (z.2.n ≠ n)) (l := as.zip ss)).map Prod.fst
  rwa [List.map_fst_zip (by omega)] at this
def sp_Sources_forget (A : Adr) : Sp := fun vs H Q _ => ∃ (so sd : Addr) (n : Int) (as : List (Addr × Addr)) (ss : List Src) (U : Hp), vs = [.ref so, .int n] ∧ Same U H ∧ Ss A U H so sd as ss ∧ ∀ H', Ch U H U H' [sd] → Ss A U H' so sd (dropA as ss n) (dropS ss n) → Q .non H'
theorem sc_Sources_forget : FnScope ["self", "number"] ["self", "number"] (defScope s_Sources_forget) := ⟨rfl, rfl, rfl, by decide +kernel, rfl, by decide +kernel, by decide +kernel⟩
theorem ok_Sources_forget (T : Txt0 P K mg A) : FnOk P w K mg base CX0 1 A.fSources_forget A.dSources_forget ["self", "number"] (sp_Sources_forget A) := by
  refine T.FSources_forget.ok sc_Sources_forget (fun vs H Q E h => ?_) (fun cdv Ar outer st H vs Q E hr h => ?_)
  · obtain ⟨_, _, _, _, _, _, rfl, _⟩ := h
    rfl
  · obtain ⟨so, sd, n, as, ss, U, rfl, sU, S, q⟩ := h
    replace q := Hid.mk q
    obtain ⟨dxs, eso⟩ := S.ob
    have esoH := sU _ _ eso
    refine ⟨_, (pss_one (ps_if (pt_cmp (pc_din (hu_of hr) (pv 1) (pe_fldC T.clSources T.nSources__sources (pv 0) rfl)))
      (pss_one (ps_ddel (pe_fldC T.clSources T.nSources__sources (pv 0) rfl) (pv 1)))
      pss_nil)), ?_⟩
    walk_at "gf"
    refine ⟨sd, _, rfl, DGet.k (k := .inl n) S.e, ?_⟩
    have keep : ∀ H' : Hp, (∀ b, b ≠ sd → H' b = H b) → H' sd = some (.dK (dropK (kvS as ss) (.inl n))) → Q .non H' := fun H' k e => by
      have sub := dropA_sub (n := n) S.len
      refine q.go H' ⟨Same.refl _, fun b u eb => (k b (fun z => by rw [z, S.u] at eb; cases eb)).trans (sU b u eb), fun _ h _ => h, fun b hb => ?_, fun b hb _ => k b (by simpa using hb)⟩ ⟨S.ob, by rw [e, kvS_drop S.len]; rfl, S.u, drop_len S.len, ?_, (sub.map Prod.fst).nodup S.n1, (sub.map Prod.snd).nodup S.n2, fun z => S.n3 ((sub.map Prod.snd).subset z), fun p hp => S.uu p (sub.subset hp), fun i p s h1 h2 => ?_, fun i p s h1 h2 => ?_, fun s hs => S.pk s (List.mem_filter.mp hs).1⟩
      · by_cases c : b = sd
        · rw [c, e] at hb; cases hb
        · rw [← k b c]; exact hb
      · exact (List.filter_sublist.map Src.n).nodup S.nd
      · obtain ⟨j, g1, g2⟩ := drop_at S.len i p s h1 h2
        obtain ⟨dx, e1⟩ := S.io j p s g1 g2
        exact ⟨dx, (k _ (ne_of e1 S.e (by intro z; cases z))).trans e1⟩
      · obtain ⟨j, g1, g2⟩ := drop_at S.len i p s h1 h2
        obtain ⟨kvs, e1, r⟩ := S.po j p s g1 g2
        exact ⟨kvs, (k _ (fun z => S.n3 (by rw [← z]; exact List.mem_map_of_mem (List.mem_of_getElem? g1)))).trans e1, r⟩
    rcases kvS_val (n := n) S.len with ⟨hv, hno⟩ | ⟨i, p, s, h1, h2, e, hv⟩
    · rw [hv]
      refine ⟨_, rfl, if_f rfl ?_⟩
      walk_at "gf"
      refine keep H (fun _ _ => rfl) ?_
      rw [S.e]
      congr 2
      unfold dropK
      refine (List.filter_eq_self.mpr fun kv hkv => ?_).symm
      unfold kvS at hkv
      obtain ⟨z, hz, rfl⟩ := List.mem_map.mp hkv
      have := hno z.2 (List.of_mem_zip hz).2
      exact decide_eq_true (fun y => this (by injection y))
    · rw [hv]
      refine ⟨_, rfl, if_t rfl ?_⟩
      walk_at "gf"
      refine ⟨sd, kvS as ss, .inl n, rfl, S.e, rfl, by rw [hv]; rfl, ?_⟩
      exact keep _ (fun b hb => upd_ne hb) upd_same
def sp_Holdings_ended (A : Adr) : Sp := fun vs H Q _ => ∃ (h so sd : Addr) (n : Int) (as : List (Addr × Addr)) (ss : List Src) (U : Hp), vs = [.ref h, .int n] ∧ HdS A U h so ∧ Same U H ∧ Ss A U H so sd as ss ∧ ∀ H', Ch U H U H' [sd] → Ss A U H' so sd (dropA as ss n) (dropS ss n) → Q .non H'
theorem sc_Holdings_ended : FnScope ["self", "number"] ["self", "number"] (defScope s_Holdings_ended) := ⟨rfl, rfl, rfl, by decide +kernel, rfl, by decide +kernel, by decide +kernel⟩
theorem ok_Holdings_ended (T : Txt0 P K mg A) : FnOk P w K mg base CX0 2 A.fHoldings_ended A.dHoldings_ended ["self", "number"] (sp_Holdings_ended A) := by
  refine T.FHoldings_ended.ok sc_Holdings_ended (fun vs H Q E h => ?_) (fun cdv Ar outer st H vs Q E hr h => ?_)
  · obtain ⟨_, _, _, _, _, _, _, rfl, _⟩ := h
    rfl
  · obtain ⟨h, so, sd, n, as, ss, U, rfl, hd, sU, S, q⟩ := h
    obtain ⟨dx, f, cp, a3, tr, kd, d, d3, d4, xf, xc, x3, v, z1, z2, z3, z4, z5, z6, z7, z8, z9⟩ := (hd.to sU).ex
    obtain ⟨dxs, eso⟩ := S.ob
    have esoH := sU _ _ eso
    refine ⟨_, (pss_cons (ps_expr (pe_meth (pe_fldC T.clHoldings T.nHoldings__sources (pv 0) rfl) T.clSources T.mSources_forget (ok_Sources_forget T) (hr.mono (by decide)) T.bSources_forget .nil pass0 (pa_cons (pv 1) pa_nil)))
      (pss_cons (ps_expr (pe_meth (pe_fldC T.clHoldings T.nHoldings__offers (pv 0) rfl) T.clOffers T.mOffers_forget (ok_Offers_forget T) (hr.mono (by decide)) T.bOffers_forget .nil pass0 (pa_cons (pv 1) pa_nil)))
      (pss_cons (ps_expr (pe_meth (pe_fldC T.clHoldings T.nHoldings__captures (pv 0) rfl) T.clCaptures T.mCaptures_forget (ok_Captures_forget T) (hr.mono (by decide)) T.bCaptures_forget .nil pass0 (pa_cons (pv 1) pa_nil)))
      (pss_one (ps_expr (pe_meth (pe_fldC T.clHoldings T.nHoldings__fetches (pv 0) rfl) T.clFetches T.mFetches_forget (ok_Fetches_forget T) (hr.mono (by decide)) T.bFetches_forget .nil pass0 (pa_cons (pv 1) pa_nil))))))), ?_⟩
    walk_at "gf"
    refine ⟨so, sd, n, as, ss, U, rfl, sU, S, fun H1 c1 S1 => ?_⟩
    obtain ⟨dx', f', cp', a3', tr', kd', d', d3', d4', xf', xc', x3', v', y1, y2, y3, y4, y5, y6, y7, y8, y9⟩ := (hd.to c1.vh).ex
    walk_at "gf"
    refine ⟨f', xf', tr', kd', n, rfl, y2, y3, y4, ?_⟩
    walk_at "gf"
    refine ⟨cp', xc', d', n, y5, rfl, y6, ?_⟩
    walk_at "gf"
    exact ⟨a3', x3', d3', d4', n, rfl, y7, y8, y9, q H1 c1 S1⟩
theorem iteStr {s t : Str} {A B : Prop} (h1 : s = t → A) (h2 : s ≠ t → B) : if decide (V.str s = V.str t) = true then A else B := by
  by_cases h : s = t
  · rw [if_pos (by simp [h])]; exact h1 h
  · rw [if_neg (by simp [h])]; exact h2 h
def spendD : PyData := .tuple [.str "spend"]
def gvD (m : Str) (ps : List (Str × List Int)) (pr : Int) : PyData := if m = Str.ofString "give" then .tuple [.str "give", goodsD ps, .bool (decide (pr ≠ 0))] else .tuple [.str "drag", goodsD ps]
def sp_Holdings__give (A : Adr) (K : PySem.W.Frag) : Sp := fun vs H Q _ => ∃ (h so sd r la o lt le lw : Addr) (n0 n serial pr : Int) (i m : Str) (rest : List V) (vg : V) (as : List (Addr × Addr)) (ss : List Src) (U : Hp) (ix : Nat) (p : Addr × Addr) (s : Src) (ts : List (List Int)) (es : List Int) (ws : List PyData), vs = [.ref h, .ref r, vg, .ref o] ∧ HdS A U h so ∧ Same U H ∧ Ss A U H so sd as ss ∧ Rq A.CRequest H r n0 i m (.ref la) ∧ H la = some (.lst (.int n :: .int serial :: rest)) ∧ rest.length ≤ 10 ∧ (m = Str.ofString "give" → rest = [.int pr]) ∧ (vg = .non ∨ ∃ g, vg = .int g) ∧
  as[ix]? = some p ∧ ss[ix]? = some s ∧ s.n = n ∧ s.ps.length ≤ 1000 ∧ (∀ x ∈ s.ps, x.2.length ≤ 90000) ∧ Rp A.CReply K U H o lt le lw ts es ws ∧ ws.length ≤ 100 ∧ ¬ foot sd as o ∧ ¬ foot sd as r ∧
  ((vg ≠ .int serial ∨ s.used = true) → ∀ H', Ch U H U H' [] → Q .non H') ∧
  (vg = .int serial → s.used = false → ∀ U' H', Ch U H U' H' [p.1, lw] → Ss A U' H' so sd as (ss.set ix { s with used := true }) → Rp A.CReply K U' H' o lt le lw ts es (ws ++ [spendD] ++ [gvD m s.ps pr]) → Q .non H')
theorem sc_Holdings__give : FnScope ["self", "request", "grant", "reply", "source", "serial", "rest", "goods"] ["self", "request", "grant", "reply"] (defScope s_Holdings__give) := ⟨rfl, rfl, rfl, by decide +kernel, rfl, by decide +kernel, by decide +kernel⟩
theorem ok_Holdings__give (T : Txt0 P K mg A) : FnOk P w K mg base CX0 3 A.fHoldings__give A.dHoldings__give ["self", "request", "grant", "reply"] (sp_Holdings__give A K) := by
  refine T.FHoldings__give.ok sc_Holdings__give (fun vs H Q E h => ?_) (fun cdv Ar outer st H vs Q E hr h => ?_)
  · obtain ⟨_, _, _, _, _, _, _, _, _, _, _, _, _, _, _, _, _, _, _, _, _, _, _, _, _, _, rfl, _⟩ := h
    rfl
  · obtain ⟨h, so, sd, r, la, o, lt, le, lw, n0, n, serial, pr, i, m, rest, vg, as, ss, U, ix, p, s, ts, es, ws, rfl, hd, sU, S, ⟨dxr, er, erq⟩, ela, hrl, hrest, hvg, h1, h2, e, hpl, hol, R, hwl, nfo, nfr, q1, q2⟩ := h
    replace q1 := Hid.mk q1
    replace q2 := Hid.mk q2
    refine ⟨_, (pss_cons (ps_asg (pe_fldC T.clRequest T.nRequest_arguments (pv 1) rfl) (pg_unlS (n := 2) rfl (pgs_cons (pg_name (i := 4) sc_Holdings__give.nd rfl (Or.inl rfl)) (pgs_cons (pg_name (i := 5) sc_Holdings__give.nd rfl (Or.inl rfl)) (pgs_star (pg_name (i := 6) sc_Holdings__give.nd rfl (Or.inl rfl)) pgs_nil)))))
      (pss_cons (ps_if (PW.pt (pw_or (pt_cmpR (op_neD hr.units) (pv 5) (pv 2) (nomark _)) (pw_or1 (pt_val (pe_meth (pe_fldC T.clHoldings T.nHoldings__sources (pv 0) rfl) T.clSources T.mSources_is_used (ok_Sources_is_used T) (hr.mono (by decide)) T.bSources_is_used .nil pass0 (pa_cons (pv 4) pa_nil))))))
      (pss_one ps_retN)
      pss_nil)
      (pss_cons (ps_set (i := 7) sc_Holdings__give.nd rfl (Or.inl rfl) (pe_meth (pe_fldC T.clHoldings T.nHoldings__sources (pv 0) rfl) T.clSources T.mSources_use_up (ok_Sources_use_up T) (hr.mono (by decide)) T.bSources_use_up .nil pass0 (pa_cons (pv 4) pa_nil)))
      (pss_cons (ps_expr (pe_meth (pv 3) T.clReply T.mReply_wish (ok_Reply_wish T) (hr.mono (by decide)) T.bReply_wish .nil pass0 (pa_cons (pe_tup (pa_cons pe_str pa_nil)) pa_nil)))
      (pss_one (ps_if (pt_cmpR op_eq (pe_fldC T.clRequest T.nRequest_name (pv 1) rfl) pe_str (nomark _))
      (pss_one (ps_expr (pe_meth (pv 3) T.clReply T.mReply_wish (ok_Reply_wish T) (hr.mono (by decide)) T.bReply_wish .nil pass0 (pa_cons (pe_tup (pa_cons pe_str (pa_cons (pv 7) (pa_cons (pe_cmpR op_ne (pe_ix (r := rIxL K) ix_list (pv 6) pe_int (fun _ _ => rfl)) pe_int (nomark _)) pa_nil)))) pa_nil))))
      (pss_one (ps_expr (pe_meth (pv 3) T.clReply T.mReply_wish (ok_Reply_wish T) (hr.mono (by decide)) T.bReply_wish .nil pass0 (pa_cons (pe_tup (pa_cons pe_str (pa_cons (pv 7) pa_nil))) pa_nil)))))))))), ?_⟩
    walk_at "gf"
    refine ⟨la, _, rfl, SqL.of ela, (by show 2 ≤ (_ :: _ :: rest).length; simp), by show (_ :: _ :: rest).length ≤ 1000; simp; omega, fun D hD => ?_⟩
    have pD := Pu.skip (o := .lst rest) sU hD
    have eD : (upd H D (.lst rest)) D = some (.lst rest) := upd_same
    show (gCons (gName 4) (gCons (gName 5) (gCons (gName 6) gNil))) [.int n, .int serial, .ref D] _ (upd H D (.lst rest)) _
    generalize upd H D (.lst rest) = H1 at pD eD ⊢
    have S1 : Ss A U H1 so sd as ss := S.frame (Same.refl _) (fun b hb hu _ => ⟨hu, pD.kp b hb⟩)
    have R1 : Rp A.CReply K U H1 o lt le lw ts es ws := R.frame (Same.refl _) (fun b hb hu _ => ⟨hu, pD.kp b hb⟩)
    have erq1 := (pD.kp r (by rw [erq]; exact fun z => by cases z)).trans erq
    obtain ⟨dx, f, cp, a3, tr, kd, d, d3, d4, xf, xc, x3, v, z1, z2, z3, z4, z5, z6, z7, z8, z9⟩ := (hd.to pD.vh).ex
    obtain ⟨dxs, eso⟩ := S.ob
    have eso1 := pD.vh _ _ eso
    have esr := (show ∃ d, Dp K H1 vg d ∧ SeqAt.shaped d = true ∧ (PyData.eqv (.int serial) d = decide (vg = .int serial)) from by
      rcases hvg with rfl | ⟨g, rfl⟩
      · exact ⟨.none, .non, sh_none.shaped, by simp [PyData.eqv]⟩
      · refine ⟨.int g, .int g, (sh_int _).shaped, ?_⟩
        by_cases c : serial = g
        · subst c; simp [PyData.eqv]
        · have : ¬ g = serial := fun z => c z.symm
          simp [PyData.eqv, c, this])
    obtain ⟨dv, hdv, hsv, heq⟩ := esr
    walk_at "gf"
    refine t_ne (.int serial) hdv (sh_int _).shaped hsv ⟨_, rfl, ?_⟩
    rw [heq]
    apply useR (C := ¬ (vg = .int serial ∧ s.used = false))
    · intro rr bb
      by_cases c : vg = .int serial
      · refine if_f (by simp [c]) ?_
        walk_at "gf"
        refine ⟨so, sd, n, as, ss, U, ix, p, s, rfl, pD.vh, S1, h1, h2, e, ?_⟩
        walk_at "gf"
        cases hu : s.used with
        | true => exact if_t rfl (bb (fun z => by rw [hu] at z; cases z.2))
        | false => exact if_f rfl (rr (fun z => z ⟨c, hu⟩))
      · exact if_t (by simp [c]) (if_t rfl (bb (fun z => c z.1)))
    · intro hc
      obtain ⟨c, hu⟩ := Classical.not_not.mp hc
      walk_at "gf"
      refine ⟨so, sd, n, as, ss, U, ix, p, s, rfl, pD.vh, S1, h1, h2, e, hpl, hol, fun vg2 U2 H2 c2 S2 dg => ?_⟩
      have nf : ∀ b, (b = o ∨ b = lt ∨ b = le ∨ b = lw) → ¬ foot sd as b := fun b hb => by
        obtain ⟨y2, e2, _⟩ := R.t
        have e3 := R.e
        obtain ⟨y4, e4, _⟩ := R.w
        rcases hb with rfl | rfl | rfl | rfl
        · exact nfo
        · exact S.out e2 (fun k z => by cases z) (fun k f z => by cases z)
        · exact S.out e3 (fun k z => by cases z) (fun k f z => by cases z)
        · exact S.out e4 (fun k z => by cases z) (fun k f z => by cases z)
      have fp1 : foot sd as p.1 := .inr ⟨p, List.mem_of_getElem? h1, .inl rfl⟩
      have R2 : Rp A.CReply K U2 H2 o lt le lw ts es ws := R1.frame c2.vv (fun b hb hu hx => ⟨c2.out b hu hb, c2.kp b (by
        rw [List.mem_singleton]
        exact fun z => nf b hx (by rw [z]; exact fp1)) hb⟩)
      obtain ⟨dxo, wa, eo2⟩ := R2.ob
      obtain ⟨ylw, elw, _⟩ := R.w
      have hD0 := hD
      have nDp : D ≠ p.1 := fun z => by obtain ⟨dx1, e1⟩ := S.io ix p s h1 h2; rw [← z, hD] at e1; cases e1
      have nDl : D ≠ lw := fun z => by rw [← z, hD] at elw; cases elw
      have eD2 := (c2.kp D (by simpa using nDp) (by rw [eD]; exact fun z => by cases z)).trans eD
      have nrp : r ≠ p.1 := fun z => nfr (by rw [z]; exact fp1)
      have nrl : r ≠ lw := ne_of erq elw (by intro z; cases z)
      have erq2 := (c2.kp r (by simpa using nrp) (by rw [erq1]; exact fun z => by cases z)).trans erq1
      have c12 := (pD.ch [p.1]).trans c2
      walk_at "gf"
      rename_i tp htp
      have p3 := Pu.new (o := .tup [.str "spend"]) c2.vh htp
      have et : (upd U2 tp (.tup [.str "spend"])) tp = _ := upd_same
      have dt : Dp K (upd U2 tp (.tup [.str "spend"])) (.ref tp) spendD := .tup (SqT.of et) (.cons (.str _) .nil)
      generalize upd U2 tp (.tup [.str "spend"]) = U3 at p3 dt
      refine ⟨o, lt, le, lw, .ref tp, spendD, ts, es, ws, U3, rfl, p3.vh, R2.frame p3.vv (fun b hb hu _ => ⟨p3.out b hu hb, p3.kp b hb⟩), dt, by omega, fun H4 c4 R4 => ?_⟩
      have c34 : Ch U2 H2 U3 H4 [lw] := (p3.ch [lw]).trans c4
      have erq4 := (c34.kp r (by simpa using nrl) (by rw [erq2]; exact fun z => by cases z)).trans erq2
      have eD4 := (c34.kp D (by simpa using nDl) (by rw [eD2]; exact fun z => by cases z)).trans eD2
      have S4 : Ss A U3 H4 so sd as (ss.set ix { s with used := true }) := S2.frame c34.vv (fun b hb hu hx => ⟨c34.out b hu hb, c34.kp b (by
        rw [List.mem_singleton]
        exact fun z => nf lw (.inr (.inr (.inr rfl))) (by rw [← z]; exact hx)) hb⟩)
      have dg4 := dg.to c34.vv
      have call : Ch U H U3 H4 [p.1, lw] := (c12.mono (by simp)).trans (c34.mono (by simp))
      clear eo2 erq1 erq2 eD2
      obtain ⟨dxo, wa, eo2⟩ := R4.ob
      walk_at "gf"
      have fin : ∀ (pd : PyData) (U5 H5 : Hp) (tq : Addr), pd = gvD m s.ps pr → Pu U3 H4 U5 H5 → Dp K U5 (.ref tq) pd → sp_Reply_wish A.CReply K [.ref o, .ref tq] H5 (fun x H' => Q .non H') E0 := fun pd U5 H5 tq epd p5 d5 => by
        refine ⟨o, lt, le, lw, .ref tq, pd, ts, es, ws ++ [spendD], U5, rfl, p5.vh, R4.frame p5.vv (fun b hb hu _ => ⟨p5.out b hu hb, p5.kp b hb⟩), d5, by rw [List.length_append]; show ws.length + 1 ≤ _; omega, fun H6 c6 R6 => ?_⟩
        have c56 : Ch U3 H4 U5 H6 [lw] := (p5.ch [lw]).trans c6
        refine q2.go c hu _ _ (call.trans (c56.mono (by simp))) (S4.frame c56.vv (fun b hb hu hx => ⟨c56.out b hu hb, c56.kp b (by
          rw [List.mem_singleton]
          exact fun z => nf lw (.inr (.inr (.inr rfl))) (by rw [← z]; exact hx)) hb⟩)) ?_
        rw [← epd]; exact R6
      refine iteStr (fun cm => ?_) (fun cm => ?_)
      · rw [hrest cm] at eD4
        walk_at "gf"
        rename_i tq htq
        have p5 := Pu.new (o := .tup [.str "give", vg2, .bl (!decide (V.int pr = V.int 0))]) c4.vh htq
        refine fin (.tuple [.str "give", goodsD s.ps, .bool (!decide (V.int pr = V.int 0))]) _ _ tq ?_ p5 (.tup (SqT.of upd_same) (.cons (.str _) (.cons (dg4.to p5.vv) (.cons (.bl _) .nil))))
        unfold gvD
        rw [if_pos cm]
        simp
      · walk_at "gf"
        rename_i tq htq
        have p5 := Pu.new (o := .tup [.str "drag", vg2]) c4.vh htq
        refine fin (.tuple [.str "drag", goodsD s.ps]) _ _ tq ?_ p5 (.tup (SqT.of upd_same) (.cons (.str _) (.cons (dg4.to p5.vv) .nil)))
        unfold gvD
        rw [if_neg cm]
    · intro hc
      walk_at "gf"
      exact q1.go (by
        by_cases c : vg = .int serial
        · refine .inr ?_
          cases hu : s.used with
          | true => rfl
          | false => exact absurd ⟨c, hu⟩ hc
        · exact .inl c) _ (pD.ch [])
/-- what a transfer object is asked here -/
def SvT (A : Adr) (K : PySem.W.Frag) : Sp := fun vs H Q E => ∃ (h so r la o : Addr) (n0 : Int) (i m : Str) (vg : V) (b : Bool) (U : Hp), vs = [.ref h, .ref r, vg, .bl b, .ref o] ∧ HdS A U h so ∧ Same U H ∧ (∃ dx sd, U so = some (.ins A.CSources dx [("_sources", .ref sd)])) ∧ Rq A.CRequest H r n0 i m (.ref la) ∧
  ((m = Str.ofString "source" ∧ sp_Sources_make A [.ref so, .ref r] H Q E) ∨ ((m = Str.ofString "give" ∨ (m = Str.ofString "drag" ∧ b = true)) ∧ sp_Holdings__give A K [.ref h, .ref r, vg, .ref o] H Q E) ∨ (m = Str.ofString "drag" ∧ b = false ∧ Q .non H))
theorem sc_Holdings__serve_transfer : FnScope ["self", "request", "grant", "may_drag", "reply"] ["self", "request", "grant", "may_drag", "reply"] (defScope s_Holdings__serve_transfer) := ⟨rfl, rfl, rfl, by decide +kernel, rfl, by decide +kernel, by decide +kernel⟩
theorem ok_Holdings__serve_transfer (T : Txt0 P K mg A) : FnOk P w K mg base (L2.CX P w) 4 A.fHoldings__serve_transfer A.dHoldings__serve_transfer ["self", "request", "grant", "may_drag", "reply"] (SvT A K) := by
  refine T.FHoldings__serve_transfer.okX sc_Holdings__serve_transfer (fun vs H Q E h => ?_) (fun cdv Ar outer st H vs Q E hr h => ?_)
  · obtain ⟨_, _, _, _, _, _, _, _, _, _, _, rfl, _⟩ := h
    rfl
  · obtain ⟨h, so, r, la, o, n0, i, m, vg, b, U, rfl, hd, sU, ⟨dxs, fs, eso⟩, ⟨dxr, er, erq⟩, q⟩ := h
    replace q := Hid.mk q
    have esoH := sU _ _ eso
    obtain ⟨dx, f, cp, a3, tr, kd, d, d3, d4, xf, xc, x3, v, z1, z2, z3, z4, z5, z6, z7, z8, z9⟩ := (hd.to sU).ex
    refine ⟨_, (pss_one (ps_if (pt_cmpR op_eq (pe_fldC T.clRequest T.nRequest_name (pv 1) rfl) pe_str (nomark _))
      (pss_one (ps_expr (pe_meth (pe_fldC T.clHoldings T.nHoldings__sources (pv 0) rfl) T.clSources T.mSources_make (ok_Sources_make T) (hr.mono (by decide)) T.bSources_make .nil (passes_call (takes_of rfl rfl rfl rfl) (fun _ _ _ _ h => h)) (pa_cons (pv 1) pa_nil))))
      (pss_one (ps_if (pt_cmpR op_eq (pe_fldC T.clRequest T.nRequest_name (pv 1) rfl) pe_str (nomark _))
      (pss_one (ps_expr (pe_meth (pv 0) T.clHoldings T.mHoldings__give (ok_Holdings__give T) (hr.mono (by decide)) T.bHoldings__give .nil pass0 (pa_cons (pv 1) (pa_cons (pv 2) (pa_cons (pv 4) pa_nil))))))
      (pss_one (ps_if (pt_cmpR op_eq (pe_fldC T.clRequest T.nRequest_name (pv 1) rfl) pe_str (nomark _))
      (pss_one (ps_if (pt_truth (pv 3) (by intro _; rfl))
      (pss_one (ps_expr (pe_meth (pv 0) T.clHoldings T.mHoldings__give (ok_Holdings__give T) (hr.mono (by decide)) T.bHoldings__give .nil pass0 (pa_cons (pv 1) (pa_cons (pv 2) (pa_cons (pv 4) pa_nil))))))
      pss_nil))
      (pss_one (ps_if (pt_cmpR op_eq (pe_fldC T.clRequest T.nRequest_name (pv 1) rfl) pe_str (nomark _))
      (pss_one (ps_expr (pe_meth (pv 0) T.clHoldings T.mHoldings__send (ok_Holdings__send T) (hr.mono (by decide)) T.bHoldings__send .nil (passes_call (takes_of rfl rfl rfl rfl) (fun _ _ _ _ h => h)) (pa_cons (pv 1) (pa_cons (pv 4) pa_nil)))))
      (pss_one (ps_if (pt_cmpR op_eq (pe_fldC T.clRequest T.nRequest_name (pv 1) rfl) pe_str (nomark _))
      (pss_one (ps_expr (pe_meth (pv 0) T.clHoldings T.mHoldings__unsend (ok_Holdings__unsend T) (hr.mono (by decide)) T.bHoldings__unsend .nil pass0 (pa_cons (pv 1) (pa_cons (pv 4) pa_nil)))))
      (pss_one (ps_if (pt_cmpR op_eq (pe_fldC T.clRequest T.nRequest_name (pv 1) rfl) pe_str (nomark _))
      (pss_cons (ps_expr (pe_meth (pe_fldC T.clHoldings T.nHoldings__captures (pv 0) rfl) T.clCaptures T.mCaptures_make (ok_Captures_make T) (hr.mono (by decide)) T.bCaptures_make .nil (passes_call (takes_of rfl rfl rfl rfl) (fun _ _ _ _ h => h)) (pa_cons (pv 1) pa_nil)))
      (pss_one (ps_expr (pe_meth (pv 4) T.clReply T.mReply_wish (ok_Reply_wish T) (hr.mono (by decide)) T.bReply_wish .nil pass0 (pa_cons (pe_tup (pa_cons pe_str (StX.pa_star (pe_fldC T.clRequest T.nRequest_arguments (pv 1) rfl) pa_nil))) pa_nil)))))
      (pss_one (ps_if (pt_cmpR op_eq (pe_fldC T.clRequest T.nRequest_name (pv 1) rfl) pe_str (nomark _))
      (pss_one (ps_expr (pe_meth (pe_fldC T.clHoldings T.nHoldings__fetches (pv 0) rfl) T.clFetches T.mFetches_make_fetch (ok_Fetches_make_fetch T) (hr.mono (by decide)) T.bFetches_make_fetch .nil (passes_call (takes_of rfl rfl rfl rfl) (fun _ _ _ _ h => h)) (pa_cons (pv 1) pa_nil))))
      (pss_one (ps_expr (pe_meth (pe_fldC T.clHoldings T.nHoldings__fetches (pv 0) rfl) T.clFetches T.mFetches_make_watch (ok_Fetches_make_watch T) (hr.mono (by decide)) T.bFetches_make_watch .nil (passes_call (takes_of rfl rfl rfl rfl) (fun _ _ _ _ h => h)) (pa_cons (pv 1) pa_nil)))))))))))))))))), ?_⟩
    walk_at "gf"
    refine iteStr (fun c1 => ?_) (fun c1 => ?_)
    · have q' : sp_Sources_make A [.ref so, .ref r] H Q E := q.go.elim (fun z => z.2) (fun z => z.elim (fun y => y.1.elim (fun w => absurd (c1.symm.trans w) (by decide +kernel)) (fun w => absurd (c1.symm.trans w.1) (by decide +kernel))) (fun y => absurd (c1.symm.trans y.1) (by decide +kernel)))
      walk_at "gf"
      exact q'
    · walk_at "gf"
      refine iteStr (fun c2 => ?_) (fun c2 => ?_)
      · have q' : sp_Holdings__give A K [.ref h, .ref r, vg, .ref o] H Q E := q.go.elim (fun z => absurd z.1 c1) (fun z => z.elim (fun y => y.2) (fun y => absurd (c2.symm.trans y.1) (by decide +kernel)))
        walk_at "gf"
        exact q'
      · walk_at "gf"
        refine iteStr (fun c3 => ?_) (fun c3 => ?_)
        · walk_at "gf"
          cases b with
          | true =>
            refine if_t rfl ?_
            have q' : sp_Holdings__give A K [.ref h, .ref r, vg, .ref o] H Q E := q.go.elim (fun z => absurd z.1 c1) (fun z => z.elim (fun y => y.2) (fun y => by cases y.2.1))
            walk_at "gf"
            exact q'
          | false =>
            refine if_f rfl ?_
            have q' : Q .non H := q.go.elim (fun z => absurd z.1 c1) (fun z => z.elim (fun y => y.1.elim (fun w => absurd w c2) (fun w => by cases w.2)) (fun y => y.2.2))
            walk_at "gf"
            exact q'
        · exfalso
          exact q.go.elim (fun z => c1 z.1) (fun z => z.elim (fun y => y.1.elim (fun w => c2 w) (fun w => c3 w.1)) (fun y => c3 y.1))
def SvTr (A : Adr) (K : PySem.W.Frag) : Sp := fun vs H Q E => ∃ (h so r la o : Addr) (n0 : Int) (m : Str) (vg : V) (g d' : Bool) (U : Hp), vs = [.ref h, .ref r, vg, .bl g, .bl d', .ref o] ∧ HdS A U h so ∧ Same U H ∧ Rq A.CRequest H r n0 "transfer" m (.ref la) ∧ PyData.strOk m = true ∧ m ≠ Str.ofString "destroy" ∧ SvT A K [.ref h, .ref r, vg, .bl (g && !d'), .ref o] H Q E
def SvW (A : Adr) : Sp := fun vs H Q E => ∃ (h so r la : Addr) (n0 : Int) (v1 v2 v3 v4 : V) (U : Hp), vs = [.ref h, .ref r, v1, v2, v3, v4] ∧ HdS A U h so ∧ Same U H ∧ (∃ dx sd, U so = some (.ins A.CSources dx [("_sources", .ref sd)])) ∧ Rq A.CRequest H r n0 "source" "write" (.ref la) ∧ sp_Sources_write A [.ref so, .ref r] H Q E
def SvD (A : Adr) : Sp := fun vs H Q E => ∃ (h so r la : Addr) (n0 : Int) (i : Str) (v1 v2 v3 v4 : V) (U : Hp), vs = [.ref h, .ref r, v1, v2, v3, v4] ∧ Rq A.CRequest H r n0 i "destroy" (.ref la) ∧ HdS A U h so ∧ Same U H ∧ sp_Holdings_ended A [.ref h, .int n0] H Q E
def sp_Holdings_serve (A : Adr) (K : PySem.W.Frag) : Sp := fun vs H Q E => SvTr A K vs H Q E ∨ SvW A vs H Q E ∨ SvD A vs H Q E
theorem sc_Holdings_serve : FnScope ["self", "request", "grant", "gripped", "dragging", "reply"] ["self", "request", "grant", "gripped", "dragging", "reply"] (defScope s_Holdings_serve) := ⟨rfl, rfl, rfl, by decide +kernel, rfl, by decide +kernel, by decide +kernel⟩
theorem ok_Holdings_serve (T : Txt0 P K mg A) : FnOk P w K mg base (L2.CX P w) 11 A.fHoldings_serve A.dHoldings_serve ["self", "request", "grant", "gripped", "dragging", "reply"] (sp_Holdings_serve A K) := by
  refine T.FHoldings_serve.okX sc_Holdings_serve (fun vs H Q E h => ?_) (fun cdv Ar outer st H vs Q E hr h => ?_)
  · rcases h with ⟨_, _, _, _, _, _, _, _, _, _, _, rfl, _⟩ | ⟨_, _, _, _, _, _, _, _, _, _, rfl, _⟩ | ⟨_, _, _, _, _, _, _, _, _, _, _, rfl, _⟩ <;> rfl
  · refine ⟨_, (pss_one (ps_if (pt_cmpR op_eq (pe_fldC T.clRequest T.nRequest_name (pv 1) rfl) pe_str (nomark _))
      (pss_one (ps_expr (pe_meth (pv 0) T.clHoldings T.mHoldings_ended (ok_Holdings_ended T) (hr.mono (by decide)) T.bHoldings_ended .nil pass0 (pa_cons (pe_fldC T.clRequest T.nRequest_number (pv 1) rfl) pa_nil))))
      (pss_one (ps_if (pt_cmpR op_eq (pe_fldC T.clRequest T.nRequest_interface (pv 1) rfl) pe_str (nomark _))
      (pss_one (ps_expr (pe_meth (pv 0) T.clHoldings T.mHoldings__serve_transfer (ok_Holdings__serve_transfer T) (hr.mono (by decide)) T.bHoldings__serve_transfer .nil (passes_call (takes_of rfl rfl rfl rfl) (fun _ _ _ _ h => h)) (pa_cons (pv 1) (pa_cons (pv 2) (pa_cons (pe_and (pv 3) (pe_one (pe_not (pv 4)))) (pa_cons (pv 5) pa_nil)))))))
      (pss_one (ps_if (pt_cmpR op_eq (pe_fldC T.clRequest T.nRequest_interface (pv 1) rfl) pe_str (nomark _))
      (pss_one (ps_expr (pe_meth (pe_fldC T.clHoldings T.nHoldings__sources (pv 0) rfl) T.clSources T.mSources_write (ok_Sources_write T) (hr.mono (by decide)) T.bSources_write .nil (passes_call (takes_of rfl rfl rfl rfl) (fun _ _ _ _ h => h)) (pa_cons (pv 1) pa_nil))))
      (pss_one (ps_if (pt_cmpR op_eq (pe_fldC T.clRequest T.nRequest_interface (pv 1) rfl) pe_str (nomark _))
      (pss_one (ps_expr (pe_meth (pe_fldC T.clHoldings T.nHoldings__offers (pv 0) rfl) T.clOffers T.mOffers_read (ok_Offers_read T) (hr.mono (by decide)) T.bOffers_read .nil (passes_call (takes_of rfl rfl rfl rfl) (fun _ _ _ _ h => h)) (pa_cons (pv 1) (pa_cons (pv 5) pa_nil)))))
      (pss_one (ps_if (pt_cmpR op_eq (pe_fldC T.clRequest T.nRequest_interface (pv 1) rfl) pe_str (nomark _))
      (pss_one (ps_expr (pe_meth (pe_fldC T.clHoldings T.nHoldings__captures (pv 0) rfl) T.clCaptures T.mCaptures_read (ok_Captures_read T) (hr.mono (by decide)) T.bCaptures_read .nil (passes_call (takes_of rfl rfl rfl rfl) (fun _ _ _ _ h => h)) (pa_cons (pv 1) (pa_cons (pv 5) pa_nil)))))
      (pss_one (ps_expr (pe_meth (pe_fldC T.clHoldings T.nHoldings__fetches (pv 0) rfl) T.clFetches T.mFetches_read (ok_Fetches_read T) (hr.mono (by decide)) T.bFetches_read .nil (passes_call (takes_of rfl rfl rfl rfl) (fun _ _ _ _ h => h)) (pa_cons (pv 1) (pa_cons (pv 5) pa_nil))))))))))))))), ?_⟩
    rcases h with ⟨h, so, r, la, o, n0, m, vg, g, d', U, rfl, hd, sU, ⟨dxr, er, erq⟩, hm, hnd, q⟩ | ⟨h, so, r, la, n0, v1, v2, v3, v4, U, rfl, hd, sU, ⟨dxs, fs, eso⟩, ⟨dxr, er, erq⟩, q⟩ | ⟨h, so, r, la, n0, i, v1, v2, v3, v4, U, rfl, ⟨dxr, er, erq⟩, hd, sU, q⟩
    · obtain ⟨dx, f, cp, a3, tr, kd, d, d3, d4, xf, xc, x3, v, z1, z2, z3, z4, z5, z6, z7, z8, z9⟩ := (hd.to sU).ex
      walk_at "gf"
      refine iteStr (fun c => absurd c hnd) (fun c => ?_)
      walk_at "gf"
      cases g
      · refine if_f rfl ?_
        walk_at "gf"
        exact q
      · refine if_t rfl ?_
        walk_at "gf"
        exact q
    · have esoH := sU _ _ eso
      obtain ⟨dx, f, cp, a3, tr, kd, d, d3, d4, xf, xc, x3, v, z1, z2, z3, z4, z5, z6, z7, z8, z9⟩ := (hd.to sU).ex
      walk_at "gf"
      exact q
    · obtain ⟨dx, f, cp, a3, tr, kd, d, d3, d4, xf, xc, x3, v, z1, z2, z3, z4, z5, z6, z7, z8, z9⟩ := (hd.to sU).ex
      walk_at "gf"
      exact q
/-! ### what is made -/
def spI1 (C : Addr) (n1 : Str) : Sp := fun vs H Q _ => ∃ (o dx : Addr), vs = [.ref o] ∧ H o = some (.ins C dx []) ∧ ∀ (p : Addr) (H' : Hp), H p = none → H' o = some (.ins C dx [(n1, .ref p)]) → H' p = some (.dK []) → (∀ b, b ≠ o → H b ≠ none → H' b = H b) → (∀ b, H' b = none → H b = none) → Q .non H'
theorem sc_Sources___init__ : FnScope ["self"] ["self"] (defScope s_Sources___init__) := ⟨rfl, rfl, rfl, by decide +kernel, rfl, by decide +kernel, by decide +kernel⟩
theorem ok_Sources___init__ (T : Txt0 P K mg A) : FnOk P w K mg base CX0 1 A.fSources___init__ A.dSources___init__ ["self"] (spI1 A.CSources "_sources") := by
  refine T.FSources___init__.ok sc_Sources___init__ (fun vs H Q E h => ?_) (fun cdv Ar outer st H vs Q E hr h => ?_)
  · obtain ⟨_, _, rfl, _⟩ := h
    rfl
  · obtain ⟨o, dx, rfl, ho, q⟩ := h
    replace q := Hid.mk q
    refine ⟨_, (pss_one (ps_fldC T.clSources T.nSources__sources (pv 0) pe_dnewK rfl)), ?_⟩
    intro p hp
    have e1 : (upd H p (.dK [])) o = some (.ins A.CSources dx []) := by walk_at "h"
    walk_at "gf"
    intro H1 f1 k1
    exact q.go p H1 hp f1 (by walk_at "h") (by walk_at "h") (by walk_at "h")
theorem sc_Captures___init__ : FnScope ["self"] ["self"] (defScope s_Captures___init__) := ⟨rfl, rfl, rfl, by decide +kernel, rfl, by decide +kernel, by decide +kernel⟩
theorem ok_Captures___init__ (T : Txt0 P K mg A) : FnOk P w K mg base CX0 1 A.fCaptures___init__ A.dCaptures___init__ ["self"] (spI1 A.CCaptures "_pictures") := by
  refine T.FCaptures___init__.ok sc_Captures___init__ (fun vs H Q E h => ?_) (fun cdv Ar outer st H vs Q E hr h => ?_)
  · obtain ⟨_, _, rfl, _⟩ := h
    rfl
  · obtain ⟨o, dx, rfl, ho, q⟩ := h
    replace q := Hid.mk q
    refine ⟨_, (pss_one (ps_fldC T.clCaptures T.nCaptures__pictures (pv 0) pe_dnewK rfl)), ?_⟩
    intro p hp
    have e1 : (upd H p (.dK [])) o = some (.ins A.CCaptures dx []) := by walk_at "h"
    walk_at "gf"
    intro H1 f1 k1
    exact q.go p H1 hp f1 (by walk_at "h") (by walk_at "h") (by walk_at "h")
def sp_Fetches___init__ (C : Addr) : Sp := fun vs H Q _ => ∃ (o dx : Addr), vs = [.ref o] ∧ H o = some (.ins C dx []) ∧ ∀ (p p2 : Addr) (H' : Hp), H p = none → H p2 = none → p ≠ p2 → H' o = some (.ins C dx [("_fetches", .ref p), ("_watches", .ref p2)]) → H' p = some (.dK []) → H' p2 = some (.dK []) → (∀ b, b ≠ o → H b ≠ none → H' b = H b) → (∀ b, H' b = none → H b = none) → Q .non H'
theorem sc_Fetches___init__ : FnScope ["self"] ["self"] (defScope s_Fetches___init__) := ⟨rfl, rfl, rfl, by decide +kernel, rfl, by decide +kernel, by decide +kernel⟩
theorem ok_Fetches___init__ (T : Txt0 P K mg A) : FnOk P w K mg base CX0 1 A.fFetches___init__ A.dFetches___init__ ["self"] (sp_Fetches___init__ A.CFetches) := by
  refine T.FFetches___init__.ok sc_Fetches___init__ (fun vs H Q E h => ?_) (fun cdv Ar outer st H vs Q E hr h => ?_)
  · obtain ⟨_, _, rfl, _⟩ := h
    rfl
  · obtain ⟨o, dx, rfl, ho, q⟩ := h
    replace q := Hid.mk q
    refine ⟨_, (pss_cons (ps_fldC T.clFetches T.nFetches__fetches (pv 0) pe_dnewK rfl)
      (pss_one (ps_fldC T.clFetches T.nFetches__watches (pv 0) pe_dnewK rfl))), ?_⟩
    intro p hp
    have e1 : (upd H p (.dK [])) o = some (.ins A.CFetches dx []) := by walk_at "h"
    walk_at "gf"
    intro H1 f1 k1 p2 hp2
    have e2 : (upd H1 p2 (.dK [])) o = some (.ins A.CFetches dx [("_fetches", .ref p)]) := by walk_at "h"
    walk_at "gf"
    intro H2 f2 k2
    have np : p ≠ p2 := by walk_at "h"
    exact q.go p p2 H2 hp (by walk_at "h") np f2 (by walk_at "h") (by walk_at "h") (by walk_at "h") (by walk_at "h")
def sp_Offers___init__ (C : Addr) : Sp := fun vs H Q _ => ∃ (o dx : Addr), vs = [.ref o] ∧ H o = some (.ins C dx []) ∧ ∀ (p p2 : Addr) (H' : Hp), H p = none → H p2 = none → p ≠ p2 → H' o = some (.ins C dx [("_transfers", .ref p), ("_kept", .ref p2), ("_is_hovered", .bl false)]) → H' p = some (.lst []) → H' p2 = some (.dK []) → (∀ b, b ≠ o → H b ≠ none → H' b = H b) → (∀ b, H' b = none → H b = none) → Q .non H'
theorem sc_Offers___init__ : FnScope ["self"] ["self"] (defScope s_Offers___init__) := ⟨rfl, rfl, rfl, by decide +kernel, rfl, by decide +kernel, by decide +kernel⟩
theorem ok_Offers___init__ (T : Txt0 P K mg A) : FnOk P w K mg base CX0 1 A.fOffers___init__ A.dOffers___init__ ["self"] (sp_Offers___init__ A.COffers) := by
  refine T.FOffers___init__.ok sc_Offers___init__ (fun vs H Q E h => ?_) (fun cdv Ar outer st H vs Q E hr h => ?_)
  · obtain ⟨_, _, rfl, _⟩ := h
    rfl
  · obtain ⟨o, dx, rfl, ho, q⟩ := h
    replace q := Hid.mk q
    refine ⟨_, (pss_cons (ps_fldC T.clOffers T.nOffers__transfers (pv 0) (pe_lst pa_nil) rfl)
      (pss_cons (ps_fldC T.clOffers T.nOffers__kept (pv 0) pe_dnewK rfl)
      (pss_one (ps_fldC T.clOffers T.nOffers__is_hovered (pv 0) pe_bl rfl)))), ?_⟩
    refine ⟨len_line (by show 0 ≤ 100000; decide), fun p hp => ?_⟩
    have e1 : (upd H p (.lst [])) o = some (.ins A.COffers dx []) := by walk_at "h"
    walk_at "gf"
    intro H1 f1 k1 p2 hp2
    have e2 : (upd H1 p2 (.dK [])) o = some (.ins A.COffers dx [("_transfers", .ref p)]) := by walk_at "h"
    walk_at "gf"
    intro H2 f2 k2
    walk_at "gf"
    intro H3 f3 k3
    have np : p ≠ p2 := by walk_at "h"
    exact q.go p p2 H3 hp (by walk_at "h") np f3 (by walk_at "h") (by walk_at "h") (by walk_at "h") (by walk_at "h")
def sp_Holdings___init__ (A : Adr) : Sp := fun vs H Q _ => ∃ (o dx : Addr), vs = [.ref o] ∧ H o = some (.ins A.CHoldings dx []) ∧ ∀ (so sd : Addr) (H' : Hp), H sd = none → HdS A (hide H' sd) o so → (∃ x1, hide H' sd so = some (.ins A.CSources x1 [("_sources", .ref sd)])) → H' sd = some (.dK []) → (∀ b, b ≠ o → H b ≠ none → H' b = H b) → (∀ b, H' b = none → H b = none) → Q .non H'
theorem sc_Holdings___init__ : FnScope ["self"] ["self"] (defScope s_Holdings___init__) := ⟨rfl, rfl, rfl, by decide +kernel, rfl, by decide +kernel, by decide +kernel⟩
theorem ok_Holdings___init__ (T : Txt0 P K mg A) : FnOk P w K mg base CX0 3 A.fHoldings___init__ A.dHoldings___init__ ["self"] (sp_Holdings___init__ A) := by
  refine T.FHoldings___init__.ok sc_Holdings___init__ (fun vs H Q E h => ?_) (fun cdv Ar outer st H vs Q E hr h => ?_)
  · obtain ⟨_, _, rfl, _⟩ := h
    rfl
  · obtain ⟨o, dx, rfl, ho, q⟩ := h
    replace q := Hid.mk q
    refine ⟨_, (pss_cons (ps_fldC T.clHoldings T.nHoldings__sources (pv 0) (pe_make0 T.MSources (ok_Sources___init__ T) (hr.mono (by decide)) rfl T.gSources T.bSources___init__ .nil pass0) rfl)
      (pss_cons (ps_fldC T.clHoldings T.nHoldings__offers (pv 0) (pe_make0 T.MOffers (ok_Offers___init__ T) (hr.mono (by decide)) rfl T.gOffers T.bOffers___init__ .nil pass0) rfl)
      (pss_cons (ps_fldC T.clHoldings T.nHoldings__captures (pv 0) (pe_make0 T.MCaptures (ok_Captures___init__ T) (hr.mono (by decide)) rfl T.gCaptures T.bCaptures___init__ .nil pass0) rfl)
      (pss_cons (ps_fldC T.clHoldings T.nHoldings__fetches (pv 0) (pe_make0 T.MFetches (ok_Fetches___init__ T) (hr.mono (by decide)) rfl T.gFetches T.bFetches___init__ .nil pass0) rfl)
      (pss_one (ps_fldC T.clHoldings T.nHoldings__sent_names (pv 0) (pe_lst pa_nil) rfl)))))), ?_⟩
    intro a1 x1 ha1 hx1 n1
    refine ⟨a1, x1, rfl, upd_same, fun d1 H1 g1 f1 e1 k1 m1 => ⟨rfl, ?_⟩⟩
    have gd1 : H d1 = none := by walk_at "h"
    have K1 : ∀ b, H b ≠ none → H1 b = H b := by walk_at "h"
    have M1 : ∀ b, H1 b = none → H b = none := by walk_at "h"
    have o1 : H1 o = some (.ins A.CHoldings dx []) := by walk_at "h"
    clear k1 m1 g1 hx1 n1
    walk_at "gf"
    intro H2 f2 k2
    have K2 : ∀ b, b ≠ o → H b ≠ none → H2 b = H b := by walk_at "h"
    have M2 : ∀ b, H2 b = none → H b = none := by walk_at "h"
    have A1 : H2 a1 = some (.ins A.CSources x1 [("_sources", .ref d1)]) ∧ H2 d1 = some (.dK []) := by walk_at "h"
    have y2a : d1 ≠ o := ne_of A1.2 f2 (by intro z; cases z)
    clear k2 K1 M1 o1 f1 e1
    intro f xf hf hxf nf
    refine ⟨f, xf, rfl, upd_same, fun tr kd H3 g3 g4 n3 f3 e3 e4 k3 m3 => ⟨rfl, ?_⟩⟩
    have K3 : ∀ b, H2 b ≠ none → H3 b = H2 b := by walk_at "h"
    have M3 : ∀ b, H3 b = none → H2 b = none := by walk_at "h"
    have o3 : H3 o = some (.ins A.CHoldings dx [("_sources", .ref a1)]) := by walk_at "h"
    have z1 : H2 tr = none := by walk_at "h"
    have z2 : H2 kd = none := by walk_at "h"
    have n9 : kd ≠ d1 := fun z => by rw [z, A1.2] at z2; cases z2
    clear k3 m3 g3 g4 hxf nf
    walk_at "gf"
    intro H4 f4 k4
    have K4 : ∀ b, b ≠ o → H2 b ≠ none → H4 b = H2 b := by walk_at "h"
    have M4 : ∀ b, H4 b = none → H2 b = none := by walk_at "h"
    have A4 : H4 f = some (.ins A.COffers xf [("_transfers", .ref tr), ("_kept", .ref kd), ("_is_hovered", .bl false)]) ∧ H4 tr = some (.lst []) ∧ H4 kd = some (.dK []) := by walk_at "h"
    clear k4 K3 M3 o3 f3 e3 e4
    intro a2 x2 ha2 hx2 n2
    refine ⟨a2, x2, rfl, upd_same, fun d2 H5 g5 f5 e5 k5 m5 => ⟨rfl, ?_⟩⟩
    have K5 : ∀ b, H4 b ≠ none → H5 b = H4 b := by walk_at "h"
    have M5 : ∀ b, H5 b = none → H4 b = none := by walk_at "h"
    have o5 : H5 o = some (.ins A.CHoldings dx [("_sources", .ref a1), ("_offers", .ref f)]) := by walk_at "h"
    have w4 : H4 d2 = none := by walk_at "h"
    have w2 : H d2 = none := M2 _ (M4 _ w4)
    have n1' : d1 ≠ d2 := fun z => by have := M4 _ w4; rw [← z, A1.2] at this; cases this
    have n2' : tr ≠ d2 := fun z => by rw [← z, A4.2.1] at w4; cases w4
    have n3'' : kd ≠ d2 := fun z => by rw [← z, A4.2.2] at w4; cases w4
    clear k5 m5 g5 hx2 n2
    walk_at "gf"
    intro H6 f6 k6
    have K6 : ∀ b, b ≠ o → H4 b ≠ none → H6 b = H4 b := by walk_at "h"
    have M6 : ∀ b, H6 b = none → H4 b = none := by walk_at "h"
    have A6 : H6 a2 = some (.ins A.CCaptures x2 [("_pictures", .ref d2)]) ∧ H6 d2 = some (.dK []) := by walk_at "h"
    clear k6 K5 M5 o5 f5 e5
    have h4d1 : H4 d1 = some (.dK []) := (K4 _ y2a (by rw [A1.2]; exact fun z => by cases z)).trans A1.2
    have h6d1 : H6 d1 = some (.dK []) := (K6 _ y2a (by rw [h4d1]; exact fun z => by cases z)).trans h4d1
    intro a3 x3 ha3 hx3 n3'
    refine ⟨a3, x3, rfl, upd_same, fun d3 d4 H7 g7 g8 n7 f7 e7 e8 k7 m7 => ⟨rfl, ?_⟩⟩
    have K7 : ∀ b, H6 b ≠ none → H7 b = H6 b := by walk_at "h"
    have M7 : ∀ b, H7 b = none → H6 b = none := by walk_at "h"
    have o7 : H7 o = some (.ins A.CHoldings dx [("_sources", .ref a1), ("_offers", .ref f), ("_captures", .ref a2)]) := by walk_at "h"
    have n6' : d3 ≠ d1 := fun z => by walk_at "h"
    have n7' : d4 ≠ d1 := fun z => by walk_at "h"
    have n4' : d3 ≠ d2 := fun z => by have h6 : H6 d2 = some (.dK []) := A6.2; walk_at "h"
    have n5' : d4 ≠ d2 := fun z => by have h6 : H6 d2 = some (.dK []) := A6.2; walk_at "h"
    clear k7 m7 g7 g8 hx3 n3'
    walk_at "gf"
    intro H8 f8 k8
    have K8 : ∀ b, b ≠ o → H6 b ≠ none → H8 b = H6 b := by walk_at "h"
    have M8 : ∀ b, H8 b = none → H6 b = none := by walk_at "h"
    have A8 : H8 a3 = some (.ins A.CFetches x3 [("_fetches", .ref d3), ("_watches", .ref d4)]) ∧ H8 d3 = some (.dK []) ∧ H8 d4 = some (.dK []) := by walk_at "h"
    clear k8 K7 M7 o7 f7 e7 e8
    refine ⟨len_line (by show 0 ≤ 100000; decide), fun p5 hp5 => ?_⟩
    have o8 : (upd H8 p5 (.lst [])) o = some (.ins A.CHoldings dx [("_sources", .ref a1), ("_offers", .ref f), ("_captures", .ref a2), ("_fetches", .ref a3)]) := by walk_at "h"
    walk_at "gf"
    intro H9 f9 k9
    have K9 : ∀ b, b ≠ o → H8 b ≠ none → H9 b = H8 b := by walk_at "h"
    have M9 : ∀ b, H9 b = none → H8 b = none := by walk_at "h"
    clear k9 o8
    have oo : ∀ b, H8 b ≠ none → b = o ∨ H9 b = H8 b := by walk_at "h"
    obtain ⟨A11, A12⟩ := A1
    obtain ⟨A41, A42, A43⟩ := A4
    obtain ⟨A61, A62⟩ := A6
    obtain ⟨A81, A82, A83⟩ := A8
    have y1 : a1 ≠ o := by walk_at "h"
    have y2 : d1 ≠ o := by walk_at "h"
    have y3 : a2 ≠ o := by walk_at "h"
    have y4 : d2 ≠ o := by walk_at "h"
    have y5 : a3 ≠ o := by walk_at "h"
    have y6 : d3 ≠ o := by walk_at "h"
    have y7 : d4 ≠ o := by walk_at "h"
    have y8 : f ≠ o := by walk_at "h"
    have y9 : tr ≠ o := by walk_at "h"
    have y10 : kd ≠ o := by walk_at "h"
    have hd9 : ∀ {b u}, b ≠ d1 → H9 b = some u → hide H9 d1 b = some u := fun hb e => (if_neg hb).trans e
    have e92 : H9 d2 = some (.dK []) := by walk_at "h"
    have w1 : H9 a1 = some (.ins A.CSources x1 [("_sources", .ref d1)]) := by walk_at "h"
    have w3 : H9 f = some (.ins A.COffers xf [("_transfers", .ref tr), ("_kept", .ref kd), ("_is_hovered", .bl false)]) := by walk_at "h"
    have w5 : H9 tr = some (.lst []) := by walk_at "h"
    have w6 : H9 a2 = some (.ins A.CCaptures x2 [("_pictures", .ref d2)]) := by walk_at "h"
    have w7 : H9 a3 = some (.ins A.CFetches x3 [("_fetches", .ref d3), ("_watches", .ref d4)]) := by walk_at "h"
    have w8 : H9 d1 = some (.dK []) := by walk_at "h"
    have w9 : H9 kd = some (.dK []) := by walk_at "h"
    have w10 : H9 d3 = some (.dK []) := by walk_at "h"
    have w11 : H9 d4 = some (.dK []) := by walk_at "h"
    have dn : ∀ {b : Addr} {u : HO}, H9 b = some u → u ≠ .dK [] → b ≠ d1 := fun e h => ne_of e w8 h
    exact q.go a1 d1 H9 gd1 ⟨dx, f, a2, a3, tr, kd, d2, d3, d4, xf, x2, x3, .ref p5, hd9 (dn f9 (by intro z; cases z)) f9, hd9 (dn w3 (by intro z; cases z)) w3, hd9 (dn w5 (by intro z; cases z)) w5, hd9 n9 w9, hd9 (dn w6 (by intro z; cases z)) w6, hd9 n1'.symm e92, hd9 (dn w7 (by intro z; cases z)) w7, hd9 n6' w10, hd9 n7' w11⟩ ⟨x1, hd9 (dn w1 (by intro z; cases z)) w1⟩ w8 (by walk_at "h") (by walk_at "h")
/-! ### the law's own serve, with sources -/
theorem Pu.after {U H U1 H1 U2 H2 : Hp} {cs ds : List Addr} (a : Pu U H U1 H1) (b : Ch U1 H1 U2 H2 cs) (h : ∀ x ∈ cs, x ∈ ds ∨ H x = none) : Ch U H U2 H2 ds := by
  obtain ⟨a1, a2, a3, a4, a5⟩ := a
  obtain ⟨b1, b2, b3, b4, b5⟩ := b
  refine ⟨a1.trans b1, b2, by walk_at "h", by walk_at "h", fun b hb hn => ?_⟩
  have hc : b ∉ cs := fun z => (h b z).elim hb hn
  rw [b5 b hc (by rw [a5 b hn]; exact hn), a5 b hn]
def fD (n c : Int) (wd : Str) : PyData := .tuple [.int n, .int c, .str wd]
/-- the sources alone are changed -/
structure Chf (U H U' H' : Hp) (sd : Addr) (as : List (Addr × Addr)) : Prop where
  vv : Same U U'
  vh : Same U' H'
  out : ∀ b, U b = none → H b ≠ none → U' b = none
  nn : ∀ b, H' b = none → H b = none
  kp : ∀ b, ¬ foot sd as b → H b ≠ none → H' b = H b
def ToldF (K : PySem.W.Frag) (U H : Hp) (Q : VK) (n c : Int) (wd : Str) : Prop := ∀ U' H' pt e, Pu U H U' H' → U' pt = some (.tup [.non, .ref e]) → Dp K U' (.ref e) (fD n c wd) → Q (.ref pt) H'
def ToldR (A : Adr) (K : PySem.W.Frag) (U H : Hp) (Q : VK) (so sd : Addr) (as as' : List (Addr × Addr)) (ss' : List Src) (ws : List PyData) : Prop :=
  ∀ U' H' pt o lt le lw, Chf U H U' H' sd as → Ss A U' H' so sd as' ss' → H o = none → H lt = none → H le = none → H lw = none → Rp A.CReply K U' H' o lt le lw [] [] ws → U' pt = some (.tup [.ref o, .non]) → Q (.ref pt) H'
def LsC1 (A : Adr) (K : PySem.W.Frag) (U H : Hp) (Q : VK) (so sd : Addr) (n0 : Int) (i m : Str) (args : List V) (as : List (Addr × Addr)) (ss : List Src) : Prop := i = Str.ofString "transfer" ∧ m = Str.ofString "source" ∧ ∃ number, args = [.int number] ∧ (∀ s ∈ ss, s.n ≠ number) ∧ (8 ≤ (fresh ss).length → ToldF K U H Q n0 2 "too much") ∧ ((fresh ss).length < 8 → ∀ p, ToldR A K U H Q so sd as (as ++ [p]) (ss ++ [⟨number, false, []⟩]) [])
def LsC2 (A : Adr) (K : PySem.W.Frag) (U H : Hp) (Q : VK) (so sd : Addr) (n0 : Int) (i m : Str) (args : List V) (as : List (Addr × Addr)) (ss : List Src) : Prop := i = Str.ofString "source" ∧ m = Str.ofString "write" ∧ ∃ (kind : Str) (ob : Addr) (os : List Int) (ix : Nat) (p : Addr × Addr) (s : Src), args = [.str kind, .ref ob] ∧ H ob = some (.lst (os.map V.int)) ∧ as[ix]? = some p ∧ ss[ix]? = some s ∧ s.n = n0 ∧ os.length ≤ 40000 ∧ kind.length ≤ 1000 ∧
  (s.used = true → ToldR A K U H Q so sd as as ss []) ∧ (s.used = false → ∀ c wd, wrF ss s kind os = some (c, wd) → ToldF K U H Q n0 c wd) ∧ (s.used = false → wrF ss s kind os = none → ToldR A K U H Q so sd as as (ss.set ix { s with ps := putP s.ps kind os }) [])
def LsC3 (A : Adr) (K : PySem.W.Frag) (U H : Hp) (Q : VK) (so sd : Addr) (vg : V) (g d' : Bool) (i m : Str) (args : List V) (as : List (Addr × Addr)) (ss : List Src) : Prop := i = Str.ofString "transfer" ∧ (m = Str.ofString "give" ∨ m = Str.ofString "drag") ∧ ∃ (n serial pr : Int) (rest : List V) (ix : Nat) (p : Addr × Addr) (s : Src), args = .int n :: .int serial :: rest ∧ rest.length ≤ 10 ∧ (m = Str.ofString "give" → rest = [.int pr]) ∧ (vg = .non ∨ ∃ g, vg = .int g) ∧ as[ix]? = some p ∧ ss[ix]? = some s ∧ s.n = n ∧
  (¬ (vg = .int serial ∧ s.used = false ∧ (m = Str.ofString "give" ∨ (g && !d') = true)) → ToldR A K U H Q so sd as as ss []) ∧
  ((vg = .int serial ∧ s.used = false ∧ (m = Str.ofString "give" ∨ (g && !d') = true)) → ToldR A K U H Q so sd as as (ss.set ix { s with used := true }) [spendD, gvD m s.ps pr])
def LsC4 (A : Adr) (K : PySem.W.Frag) (U H : Hp) (Q : VK) (so sd : Addr) (n0 : Int) (m : Str) (as : List (Addr × Addr)) (ss : List Src) : Prop := m = Str.ofString "destroy" ∧ ToldR A K U H Q so sd as (dropA as ss n0) (dropS ss n0) []
theorem serve_cases {A : Adr} {K : PySem.W.Frag} {h so sd rq la o lt le lw : Addr} {n0 : Int} {i m : Str} {vg : V} {g d' : Bool} {args : List V} {as : List (Addr × Addr)} {ss : List Src} {U H H3 : Hp} {Q Q' : VK} {E' : XK}
    (hd : HdS A U h so) (sU : Same U H3) (S3 : Ss A U H3 so sd as ss) (hsl : ss.length ≤ 1000) (hpl : ∀ s ∈ ss, s.ps.length ≤ 16 ∧ ∀ x ∈ s.ps, x.2.length ≤ 40000) (rqq : Rq A.CRequest H3 rq n0 i m (.ref la)) (hm : PyData.strOk m = true) (ela : H3 la = some (.lst args)) (kp : ∀ b, H b ≠ none → H3 b = H b)
    (R3 : Rp A.CReply K U H3 o lt le lw [] [] []) (nfo : ¬ foot sd as o) (nfr : ¬ foot sd as rq)
    (hcase : LsC1 A K U H Q so sd n0 i m args as ss ∨ LsC2 A K U H Q so sd n0 i m args as ss ∨ LsC3 A K U H Q so sd vg g d' i m args as ss ∨ LsC4 A K U H Q so sd n0 m as ss)
    (hF : ∀ c wd, ToldF K U H Q n0 c wd → FaultTo A H3 E' n0 c wd)
    (hR : ∀ as' ss' ws U' H', ToldR A K U H Q so sd as as' ss' ws → Same U U' → Same U' H' → (∀ b, U b = none → H3 b ≠ none → U' b = none) → (∀ b, H' b = none → H3 b = none) → (∀ b, ¬ foot sd as b → b ≠ lw → H3 b ≠ none → H' b = H3 b) → Ss A U' H' so sd as' ss' → Rp A.CReply K U' H' o lt le lw [] [] ws → Q' .non H') :
    sp_Holdings_serve A K [.ref h, .ref rq, vg, .bl g, .bl d', .ref o] H3 Q' E' := by
  obtain ⟨dxs, eso⟩ := S3.ob
  have nfl : ∀ b, (b = o ∨ b = lt ∨ b = le ∨ b = lw) → ¬ foot sd as b := fun b hb => by
    obtain ⟨y2, e2, _⟩ := R3.t
    have e3 := R3.e
    obtain ⟨y4, e4, _⟩ := R3.w
    rcases hb with rfl | rfl | rfl | rfl
    · exact nfo
    · exact S3.out e2 (fun k z => by cases z) (fun k f z => by cases z)
    · exact S3.out e3 (fun k z => by cases z) (fun k f z => by cases z)
    · exact S3.out e4 (fun k z => by cases z) (fun k f z => by cases z)
  have RF : ∀ {U' H' : Hp} {cs : List Addr}, Ch U H3 U' H' cs → (∀ b ∈ cs, foot sd as b) → Rp A.CReply K U' H' o lt le lw [] [] [] := fun c hc => R3.frame c.vv (fun b hb hu hx => ⟨c.out b hu hb, c.kp b (fun z => nfl b hx (hc b z)) hb⟩)
  have KF : ∀ {U' H' : Hp} {cs : List Addr}, Ch U H3 U' H' cs → (∀ b ∈ cs, foot sd as b ∨ b = lw) → ∀ b, ¬ foot sd as b → b ≠ lw → H3 b ≠ none → H' b = H3 b := fun c hc b hb hl hn => c.kp b (fun z => (hc b z).elim hb hl) hn
  have fsd : ∀ b ∈ [sd], foot sd as b := fun b hb => .inl (List.mem_singleton.mp hb)
  rcases hcase with ⟨rfl, rfl, number, rfl, hnew, q1, q2⟩ | ⟨rfl, rfl, kind, ob, os, ix, p, s, rfl, eob, h1, h2, e, hol, hkl, q1, q2, q3⟩ | ⟨rfl, hgd, n, serial, pr, rest, ix, p, s, rfl, hrl, hrest, hvg, h1, h2, e, q1, q2⟩ | ⟨rfl, q1⟩
  · refine .inl ⟨h, so, rq, la, o, n0, _, vg, g, d', U, rfl, hd, sU, rqq, hm, by decide +kernel, h, so, rq, la, o, n0, _, _, vg, _, U, rfl, hd, sU, ⟨dxs, sd, eso⟩, rqq, .inl ⟨rfl, so, sd, rq, la, n0, number, _, _, as, ss, U, rfl, sU, S3, hsl, rqq, ela, hnew, fun c => hF _ _ (q1 c), fun c p H' hp1 hp2 c' S' => ?_⟩⟩
    exact hR _ _ _ _ _ (q2 c p) c'.vv c'.vh c'.out c'.nn (KF c' fun b hb => .inl (fsd b hb)) S' (RF c' fsd)
  · have eob3 := (kp ob (by rw [eob]; exact fun z => by cases z)).trans eob
    have fp : ∀ b ∈ [p.2], foot sd as b := fun b hb => .inr ⟨p, List.mem_of_getElem? h1, .inr (List.mem_singleton.mp hb)⟩
    refine .inr (.inl ⟨h, so, rq, la, n0, vg, _, _, _, U, rfl, hd, sU, ⟨dxs, sd, eso⟩, rqq, so, sd, rq, la, ob, n0, _, _, kind, os, as, ss, U, ix, p, s, rfl, sU, S3, rqq, ela, eob3, h1, h2, e, hsl, hpl, hol, hkl, fun hu => ?_, fun hu c wd hw => hF _ _ (q2 hu c wd hw), fun hu hw U' H' c' S' => ?_⟩)
    · exact hR _ _ _ _ _ (q1 hu) (Same.refl _) sU (fun _ h _ => h) (fun _ h => h) (fun _ _ _ _ => rfl) S3 R3
    · exact hR _ _ _ _ _ (q3 hu hw) c'.vv c'.vh c'.out c'.nn (KF c' fun b hb => .inl (fp b hb)) S' (RF c' fp)
  · have hs := hpl s (List.mem_of_getElem? h2)
    have fp : foot sd as p.1 := .inr ⟨p, List.mem_of_getElem? h1, .inl rfl⟩
    have gv : (m = Str.ofString "give" ∨ (m = Str.ofString "drag" ∧ (g && !d') = true)) → sp_Holdings__give A K [.ref h, .ref rq, vg, .ref o] H3 Q' E' := fun hok => by
      have hok' : m = Str.ofString "give" ∨ (g && !d') = true := hok.imp id fun z => z.2
      refine ⟨h, so, sd, rq, la, o, lt, le, lw, n0, n, serial, pr, _, m, rest, vg, as, ss, U, ix, p, s, [], [], [], rfl, hd, sU, S3, rqq, ela, hrl, hrest, hvg, h1, h2, e, by omega, fun x hx => by have := hs.2 x hx; omega, R3, by decide, nfo, nfr, fun hno H' c' => ?_, fun hv hu U' H' c' S' R' => ?_⟩
      · exact hR _ _ _ _ _ (q1 fun z => hno.elim (fun y => y z.1) (fun y => by rw [y] at z; cases z.2.1)) c'.vv c'.vh c'.out c'.nn (KF c' fun b hb => by cases hb) (S3.frame c'.vv (fun b hb hu _ => ⟨c'.out b hu hb, c'.kp b (by simp) hb⟩)) (RF c' fun b hb => by cases hb)
      · refine hR _ _ _ _ _ (q2 ⟨hv, hu, hok'⟩) c'.vv c'.vh c'.out c'.nn (KF c' fun b hb => ?_) S' R'
        simp only [List.mem_cons, List.not_mem_nil, or_false] at hb
        rcases hb with rfl | rfl
        · exact .inl fp
        · exact .inr rfl
    have hnd : m ≠ Str.ofString "destroy" := fun z => by rcases hgd with y | y <;> rw [y] at z <;> exact absurd z (by decide +kernel)
    refine .inl ⟨h, so, rq, la, o, n0, m, vg, g, d', U, rfl, hd, sU, rqq, hm, hnd, h, so, rq, la, o, n0, _, m, vg, _, U, rfl, hd, sU, ⟨dxs, sd, eso⟩, rqq, .inr ?_⟩
    rcases hgd with rfl | rfl
    · exact .inl ⟨.inl rfl, gv (.inl rfl)⟩
    · cases hb : (g && !d') with
      | true => exact .inl ⟨.inr ⟨rfl, rfl⟩, gv (.inr ⟨rfl, hb⟩)⟩
      | false => exact .inr ⟨rfl, rfl, hR _ _ _ _ _ (q1 fun z => z.2.2.elim (fun y => absurd y (by decide +kernel)) (fun y => by rw [hb] at y; cases y)) (Same.refl _) sU (fun _ h _ => h) (fun _ h => h) (fun _ _ _ _ => rfl) S3 R3⟩
  · refine .inr (.inr ⟨h, so, rq, la, n0, i, vg, _, _, _, U, rfl, rqq, hd, sU, h, so, sd, n0, as, ss, U, rfl, hd, sU, S3, fun H' c' S' => ?_⟩)
    exact hR _ _ _ _ _ q1 c'.vv c'.vh c'.out c'.nn (KF c' fun b hb => .inl (fsd b hb)) S' (RF c' fsd)
def sp__law_serve (A : Adr) (K : PySem.W.Frag) : Sp := fun vs H Q _ => ∃ (h so sd t la : Addr) (n0 : Int) (i m : Str) (vg : V) (g d' : Bool) (args : List V) (as : List (Addr × Addr)) (ss : List Src) (U : Hp), vs = [.ref h, .ref t, vg, .bl g, .bl d'] ∧ HdS A U h so ∧ Same U H ∧ Ss A U H so sd as ss ∧ ss.length ≤ 1000 ∧ (∀ s ∈ ss, s.ps.length ≤ 16 ∧ ∀ x ∈ s.ps, x.2.length ≤ 40000) ∧ H t = some (.tup [.int n0, .str i, .str m, .ref la]) ∧ PyData.strOk m = true ∧ H la = some (.lst args) ∧
  (LsC1 A K U H Q so sd n0 i m args as ss ∨ LsC2 A K U H Q so sd n0 i m args as ss ∨ LsC3 A K U H Q so sd vg g d' i m args as ss ∨ LsC4 A K U H Q so sd n0 m as ss)
theorem sc__law_serve : FnScope ["holdings", "row", "grant", "gripped", "dragging", "reply", "request", "e"] ["holdings", "row", "grant", "gripped", "dragging"] (defScope s__law_serve) := ⟨rfl, rfl, rfl, by decide +kernel, rfl, by decide +kernel, by decide +kernel⟩
theorem ok__law_serve (T : Txt0 P K mg A) : FnOk P w K mg base CX0 12 A.f_law_serve A.d_law_serve ["holdings", "row", "grant", "gripped", "dragging"] (sp__law_serve A K) := by
  refine T.F_law_serve.ok sc__law_serve (fun vs H Q E h => ?_) (fun cdv Ar outer st H vs Q E hr h => ?_)
  · obtain ⟨_, _, _, _, _, _, _, _, _, _, _, _, _, _, _, rfl, _⟩ := h
    rfl
  · obtain ⟨h, so, sd, t, la, n0, i, m, vg, g, d', args, as, ss, U, rfl, hd, sU, S, hsl, hpl, et, hm, ela, hcase⟩ := h
    replace hcase := Hid.mk hcase
    refine ⟨_, (pss_cons (ps_set (i := 5) sc__law_serve.nd rfl (Or.inl rfl) (pe_make0 T.MReply (ok_Reply___init__ T) (hr.mono (by decide)) rfl T.gReply T.bReply___init__ .nil pass0))
      (pss_cons (ps_set (i := 6) sc__law_serve.nd rfl (Or.inl rfl) (pe_make T.MRequest (ok_Request___init__ T) (hr.mono (by decide)) rfl T.gRequest T.bRequest___init__ .nil pass0 (pa_cons (pe_ix (r := rIxT K) ix_tup (pv 1) pe_int (fun _ _ => rfl)) (pa_cons (pe_ix (r := rIxT K) ix_tup (pv 1) pe_int (fun _ _ => rfl)) (pa_cons (pe_ix (r := rIxT K) ix_tup (pv 1) pe_int (fun _ _ => rfl)) (pa_cons (pe_ix (r := rIxT K) ix_tup (pv 1) pe_int (fun _ _ => rfl)) (pa_cons (pe_cmpR (op_eqD hr.units) (pe_ix (r := rIxT K) ix_tup (pv 1) pe_int (fun _ _ => rfl)) pe_str (nomark _)) pa_nil)))))))
      (pss_cons (ps_try_as (i := 7) rfl rfl sc__law_serve.nd rfl rfl ⟨rfl, by decide, .inl T.gFault⟩ takes0 (fun W pn xe tk _ => (pss_one (ps_expr (pe_methAt (pv 0) T.clHoldings T.mHoldings_serve (ok_Holdings_serve (P := P) (w := w) (base := base) T) (hr.mono (by decide)) T.bHoldings_serve (fun σ => passAt tk σ) (pa_cons (pv 6) (pa_cons (pv 2) (pa_cons (pv 3) (pa_cons (pv 4) (pa_cons (pv 5) pa_nil)))))))))
      (fun a oe cls d pn hz hf => (pss_one (ps_ret (pe_tup (pa_cons pe_non (pa_cons (pe_tup (pa_cons (pe_xf T.xfFault T.nFault_number hz hf (pv 7)) (pa_cons (pe_xf T.xfFault T.nFault_code hz hf (pv 7)) (pa_cons (pe_xf T.xfFault T.nFault_words hz hf (pv 7)) pa_nil)))) pa_nil)))))))
      (pss_one (ps_ret (pe_tup (pa_cons (pv 5) (pa_cons pe_non pa_nil)))))))), ?_⟩
    walk_at "gf"
    intro o dxo ho hdxo nod
    refine ⟨o, dxo, U, rfl, upd_same, by walk_at "h", sU.free ho, fun lt le lw H1 s1 k1 m1 f1 f2 f3 R1 => ⟨rfl, ?_⟩⟩
    have P1 : Pu U H U H1 := ⟨Same.refl _, s1, fun _ h _ => h, by walk_at "h", by walk_at "h"⟩
    have et1 := (P1.kp t (by rw [et]; exact fun z => by cases z)).trans et
    have ela1 := (P1.kp la (by rw [ela]; exact fun z => by cases z)).trans ela
    have olw : H lw = none := by walk_at "h"
    have olt : H lt = none := by walk_at "h"
    have ole : H le = none := by walk_at "h"
    clear k1 m1 f1 f2 f3 hdxo nod
    walk_at "gf"
    refine ⟨.str m, .str "destroy", .str _, .str _, (sh_str hm).shaped, by decide +kernel, ?_⟩
    walk_at "gf"
    intro rq dxq hrq hdxq nrq
    refine ⟨rq, dxq, n0, i, m, .ref la, _, rfl, upd_same, fun H3 e3 k3 => ⟨rfl, ?_⟩⟩
    have P3 : Pu U H1 U H3 := ⟨Same.refl _, by walk_at "h", fun _ h _ => h, by walk_at "h", by walk_at "h"⟩
    have ela3 := (P3.kp la (by rw [ela1]; exact fun z => by cases z)).trans ela1
    have P13 := P1.trans P3
    have orq : H rq = none := P1.nn _ hrq
    have S3 : Ss A U H3 so sd as ss := S.frame (Same.refl _) (fun b hb hu _ => ⟨hu, P13.kp b hb⟩)
    have R3 := R1.frame (U' := U) (H' := H3) (Same.refl _) (fun b hb hu _ => ⟨hu, P3.kp b hb⟩)
    have nfoot : ∀ b, H b = none → ¬ foot sd as b := fun b hb hf => by
      rcases hf with rfl | ⟨p, hp, hpb⟩
      · rw [S.e] at hb; cases hb
      · obtain ⟨j, hj⟩ := List.getElem?_of_mem hp
        have hl : j < ss.length := by have := (List.getElem?_eq_some_iff.mp hj).1; have := S.len; omega
        obtain ⟨dx1, e1⟩ := S.io j p _ hj (List.getElem?_eq_getElem hl)
        obtain ⟨kvs, e2, _⟩ := S.po j p _ hj (List.getElem?_eq_getElem hl)
        rcases hpb with rfl | rfl
        · rw [e1] at hb; cases hb
        · rw [e2] at hb; cases hb
    clear k3 hrq hdxq nrq
    have rqq : Rq A.CRequest H3 rq n0 i m (.ref la) := ⟨dxq, _, e3⟩
    have hd3 := hd.to P13.vh
    obtain ⟨dx, f, cp, a3, tr, kd, d, d3, d4, xf, xc, x3, v, z1, z2, z3, z4, z5, z6, z7, z8, z9⟩ := hd3.ex
    walk_at "gf"
    refine serve_cases hd P13.vh S3 hsl hpl rqq hm ela3 (fun b hb => P13.kp b hb) R3 (nfoot o ho) (nfoot rq orq) hcase.go (fun c wd hq => ?_) (fun as' ss' ws U' H' hq v' s' o' n' k' S' R' => ?_)
    · intro dd H' h1 h2 h3 h4
      refine ⟨true, T.exFault, (fun _ a' ha => ?_), (fun z => nomatch z)⟩
      walk_at "gf"
      refine ⟨dd, _, _, rfl, h2, by unfold ffF; walk_at "lk", ?_⟩
      walk_at "gf"
      refine ⟨dd, _, _, rfl, h2, by unfold ffF; walk_at "lk", ?_⟩
      walk_at "gf"
      refine ⟨dd, _, _, rfl, h2, by unfold ffF; walk_at "lk", ?_⟩
      walk_at "gf"
      rename_i te hte tp htp
      have s3 := P13.vh
      have pf : Pu U H3 (upd U te (.tup [.int n0, .int c, .str wd])) (upd H' te (.tup [.int n0, .int c, .str wd])) := ⟨by walk_at "h", by walk_at "h", by walk_at "h", by walk_at "h", by walk_at "h"⟩
      have p2 := Pu.new (o := .tup [.non, .ref te]) pf.vh htp
      exact hq _ _ tp te (P13.trans (pf.trans p2)) upd_same ((Dp.tup (SqT.of upd_same) (.cons (.int _) (.cons (.int _) (.cons (.str _) .nil)))).to p2.vv)
    · walk_at "gf"
      rename_i tp htp
      have p2 := Pu.new (o := .tup [.ref o, .non]) s' htp
      refine hq _ _ tp o lt le lw ⟨v'.trans p2.vv, p2.vh, fun b hb hn => ?_, fun b hb => P13.nn b (n' b (p2.nn b hb)), fun b hb hn => ?_⟩ (S'.frame p2.vv (fun b hb hu _ => ⟨p2.out b hu hb, p2.kp b hb⟩)) ho olt ole olw (R'.frame p2.vv (fun b hb hu _ => ⟨p2.out b hu hb, p2.kp b hb⟩)) upd_same
      · have h3 : H3 b ≠ none := by rw [P13.kp b hn]; exact hn
        have h4 : H' b ≠ none := fun z => h3 (n' b z)
        exact p2.out b (o' b hb h3) h4
      · have h3 : H3 b ≠ none := by rw [P13.kp b hn]; exact hn
        have hlw : b ≠ lw := fun z => hn (by rw [z]; exact olw)
        have h4 := k' b hb hlw h3
        rw [p2.kp b (by rw [h4]; exact h3), h4, P13.kp b hn]
section
/-! ### "c" * n (our own rule, of the library's for the model) -/
open PySem PySem.Spec PyProof.Rows
def strRep (s : Str) (n : Nat) : Str := ⟨(List.replicate n s.cps).foldl (· ++ ·) #[]⟩
theorem rep_size (a : Array Nat) : ∀ (n : Nat) (acc : Array Nat), ((List.replicate n a).foldl (· ++ ·) acc).size = acc.size + a.size * n
  | 0, acc => by simp
  | n + 1, acc => by
    rw [List.replicate_succ, List.foldl_cons, rep_size a n, Array.size_append, Nat.mul_succ]; omega
theorem strRep_len (s : Str) (n : Nat) : (strRep s n).length = s.length * n := by
  show ((List.replicate n s.cps).foldl (· ++ ·) #[]).size = s.cps.size * n
  rw [rep_size]; simp
theorem op_mul_strI {X : Cx} : OpR X (binaryOp .Mult) (fun x y H Q => ∃ (s : Str) (n : Nat), x = .str s ∧ y = .int (n : Int) ∧ 2 ≤ n ∧ n ≤ 1000 ∧ 1 ≤ s.length ∧ s.length ≤ 100 ∧ Q (.str (strRep s n)) H) := by
  intro pins s σ H x y v u Q I rx ry h
  obtain ⟨z, n, rfl, rfl, h1, h2, h3, h4, q⟩ := h
  obtain ⟨t, rfl⟩ := rx
  obtain ⟨t', rfl⟩ := ry
  have hz : z.length * n ≤ 100000 := by
    have := Nat.mul_le_mul h4 h2
    omega
  refine PySem.P.mul_str (by rw [decide_eq_false (by omega), decide_eq_false (by omega)]; rfl) (fun _ _ => ?_) (fun _ _ => ?_) ?_
  · have hd : (100 : Int) ≤ (2 ^ 63 - 1) / (n : Int) := (Int.le_ediv_iff_mul_le (by omega)).mpr (by omega)
    omega
  · unfold PySem.Builtin.Str.tooLong
    rw [Int.toNat_natCast]
    exact decide_eq_false (Nat.not_lt.mpr (len_line hz))
  · rw [if_neg (by omega), if_neg (by
      have a : ((n : Int) == 1) = false := by simp; omega
      have b : (z.length == 0) = false := by simp; omega
      rw [a, b]; decide), Int.toNat_natCast]
    exact ⟨len_line (by show (strRep z n).length ≤ _; rw [strRep_len]; exact hz), .str (strRep z n), H, I.tok _, ⟨_, rfl⟩, q⟩
end
/-! ### the law's own list of sources -/
structure MA where
  o : Addr
  pl : Addr
  qs : List Addr
def MA.all (a : MA) : List Addr := a.o :: a.pl :: a.qs
def MaAt (U H : Hp) (a : MA) (s : Src) : Prop := H a.o = some (.lst [.int s.n, .ref a.pl, .bl s.used]) ∧ H a.pl = some (.lst (a.qs.map V.ref)) ∧ a.qs.length = s.ps.length ∧ ∀ (j : Nat) (q : Addr) (x : Str × List Int), a.qs[j]? = some q → s.ps[j]? = some x → ∃ b, H q = some (.lst [.str x.1, .ref b]) ∧ U b = some (.lst (x.2.map V.int))
def mfoot (ml : Addr) (mas : List MA) (b : Addr) : Prop := b = ml ∨ b ∈ mas.flatMap MA.all
structure Md (U H : Hp) (ml : Addr) (mas : List MA) (ss : List Src) : Prop where
  e : H ml = some (.lst (mas.map fun a => V.ref a.o))
  len : mas.length = ss.length
  nd : (ml :: mas.flatMap MA.all).Nodup
  uu : ∀ b, mfoot ml mas b → U b = none
  io : ∀ (i : Nat) (a : MA) (s : Src), mas[i]? = some a → ss[i]? = some s → MaAt U H a s
theorem Md.get {U H : Hp} {ml : Addr} {mas : List MA} {ss : List Src} (M : Md U H ml mas ss) {a : MA} (h : a ∈ mas) : ∃ (i : Nat) (s : Src), mas[i]? = some a ∧ ss[i]? = some s := by
  obtain ⟨i, hi⟩ := List.getElem?_of_mem h
  have hl : i < ss.length := by have := (List.getElem?_eq_some_iff.mp hi).1; have := M.len; omega
  exact ⟨i, _, hi, List.getElem?_eq_getElem hl⟩
/-- all that it is made of are lists -/
theorem Md.lst {U H : Hp} {ml : Addr} {mas : List MA} {ss : List Src} (M : Md U H ml mas ss) {b : Addr} (h : mfoot ml mas b) : ∃ xs, H b = some (.lst xs) := by
  rcases h with rfl | h
  · exact ⟨_, M.e⟩
  · obtain ⟨a, ha, hb⟩ := List.mem_flatMap.mp h
    obtain ⟨i, s, h1, h2⟩ := M.get ha
    obtain ⟨e1, e2, hl, hq⟩ := M.io i a s h1 h2
    rcases List.mem_cons.mp hb with rfl | hb
    · exact ⟨_, e1⟩
    rcases List.mem_cons.mp hb with rfl | hb
    · exact ⟨_, e2⟩
    · obtain ⟨j, hj⟩ := List.getElem?_of_mem hb
      have hjl : j < s.ps.length := by have := (List.getElem?_eq_some_iff.mp hj).1; omega
      obtain ⟨c, e3, _⟩ := hq j b _ hj (List.getElem?_eq_getElem hjl)
      exact ⟨_, e3⟩
theorem MaAt.keep {U H U' H' : Hp} {a : MA} {s : Src} (h : MaAt U H a s) (su : Same U U') (k : ∀ b ∈ a.all, H' b = H b) : MaAt U' H' a s := by
  obtain ⟨e1, e2, hl, hq⟩ := h
  refine ⟨(k _ (by unfold MA.all; simp)).trans e1, (k _ (by unfold MA.all; simp)).trans e2, hl, fun j q x h1 h2 => ?_⟩
  obtain ⟨b, e3, e4⟩ := hq j q x h1 h2
  exact ⟨b, (k q (by unfold MA.all; simp [List.mem_of_getElem? h1])).trans e3, su _ _ e4⟩
theorem Md.frame {U H U' H' : Hp} {ml : Addr} {mas : List MA} {ss : List Src} (M : Md U H ml mas ss) (su : Same U U') (k : ∀ b, H b ≠ none → U b = none → mfoot ml mas b → U' b = none ∧ H' b = H b) : Md U' H' ml mas ss := by
  have kk : ∀ b, mfoot ml mas b → U' b = none ∧ H' b = H b := fun b hb => by
    obtain ⟨xs, e⟩ := M.lst hb
    exact k b (by rw [e]; exact fun z => by cases z) (M.uu b hb) hb
  refine ⟨(kk ml (.inl rfl)).2.trans M.e, M.len, M.nd, fun b hb => (kk b hb).1, fun i a s h1 h2 => (M.io i a s h1 h2).keep su fun b hb => (kk b (.inr (List.mem_flatMap.mpr ⟨a, List.mem_of_getElem? h1, hb⟩))).2⟩
/-- the sources are changed: the law's own list stays -/
theorem Md.chf {A : Adr} {U H U' H' : Hp} {so sd ml : Addr} {as : List (Addr × Addr)} {mas : List MA} {ss ss' : List Src} (M : Md U H ml mas ss') (S : Ss A U H so sd as ss) (c : Chf U H U' H' sd as) : Md U' H' ml mas ss' :=
  M.frame c.vv fun b hb hu hm => by
    obtain ⟨xs, e⟩ := M.lst hm
    exact ⟨c.out b hu hb, c.kp b (S.out e (fun k z => by cases z) (fun k f z => by cases z)) hb⟩
/-! ### what the law draws -/
def kinds5 (s : Str) : Prop := PyData.strOk s = true ∧ s.length ≤ 200
def sp__law_kind : Sp := fun vs H Q _ => ∃ (row : Int), vs = [.int row] ∧ 0 ≤ row ∧ ∀ s H', kinds5 s → (∀ b, H b ≠ none → H' b = H b) → (∀ b, H' b = none → H b = none) → Q (.str s) H'
theorem kD18 : ∀ k : Nat, k < 18 → kinds5 (Str.ofString "k" ++ (toString ((k : Nat) : Int) : String)) := by
  have h : ∀ k ∈ List.range 18, PyData.strOk (Str.ofString "k" ++ (toString ((k : Nat) : Int) : String)) = true ∧ (Str.ofString "k" ++ (toString ((k : Nat) : Int) : String) : Str).length ≤ 200 := by decide +kernel
  exact fun k hk => h k (List.mem_range.mpr hk)
theorem sc__law_kind : FnScope ["row", "kinds"] ["row"] (defScope s__law_kind) := ⟨rfl, rfl, rfl, by decide +kernel, rfl, by decide +kernel, by decide +kernel⟩
theorem ok__law_kind (T : Txt0 P K mg A) : FnOk P w K mg base CX0 1 A.f_law_kind A.d_law_kind ["row"] sp__law_kind := by
  refine T.F_law_kind.ok sc__law_kind (fun vs H Q E h => ?_) (fun cdv Ar outer st H vs Q E hr h => ?_)
  · obtain ⟨_, rfl, _⟩ := h
    rfl
  · obtain ⟨row, rfl, hr0, q⟩ := h
    replace q := Hid.mk q
    refine ⟨_, (pss_cons (ps_set (i := 1) sc__law_kind.nd rfl (Or.inl rfl) (pe_lst (pa_cons pe_str (pa_cons pe_str (pa_cons pe_str (pa_cons (pe_op op_mul_strI pe_str pe_int) (pa_cons (pe_op op_mul_strI pe_str pe_int) pa_nil)))))))
      (pss_cons (ps_if (pt_cmpR op_gt (pe_op op_mod (pe_callTy call_int1 (by rfl) T.int (by decide +kernel) (pa_cons (pv 0) pa_nil)) pe_int) pe_int (nomark _))
      (pss_one (ps_ret (pe_op op_add_str pe_str (pe_callTy call_str_int (by rfl) T.str (by decide +kernel) (pa_cons (pe_op op_mod (pe_callTy call_int1 (by rfl) T.int (by decide +kernel) (pa_cons (pe_op op_fdiv (pv 0) pe_int) pa_nil)) pe_int) pa_nil)))))
      pss_nil)
      (pss_one (ps_ret (pe_ix (r := rIxL K) ix_list (pv 1) (pe_op op_mod (pe_callTy call_int1 (by rfl) T.int (by decide +kernel) (pa_cons (pe_op op_fdiv (pv 0) pe_int) pa_nil)) pe_int) (fun _ _ => rfl)))))), ?_⟩
    walk_at "gf"
    refine ⟨by decide, by decide, by decide +kernel, by decide +kernel, ?_⟩
    walk_at "gf"
    refine ⟨by decide, by decide, by decide +kernel, by decide +kernel, ?_⟩
    walk_at "gf"
    rename_i p hp
    have P1 : ∀ b, H b ≠ none → (upd H p (.lst [.str "", .str "a", .str "bb", .str (strRep "c" 128), .str (strRep "c" 129)])) b = H b := fun b hb => upd_ne (fun z => hb (by rw [z]; exact hp))
    have N1 : ∀ b, (upd H p (.lst [.str "", .str "a", .str "bb", .str (strRep "c" 128), .str (strRep "c" 129)])) b = none → H b = none := fun b hb => by
      by_cases c : b = p
      · rw [c]; exact hp
      · rw [upd_ne c] at hb; exact hb
    have e1 : (upd H p (.lst [.str "", .str "a", .str "bb", .str (strRep "c" 128), .str (strRep "c" 129)])) p = some (.lst [.str "", .str "a", .str "bb", .str (strRep "c" 128), .str (strRep "c" 129)]) := upd_same
    generalize upd H p (.lst [.str "", .str "a", .str "bb", .str (strRep "c" 128), .str (strRep "c" 129)]) = H1 at P1 N1 e1 ⊢
    refine iteP (fun c => ?_) (fun c => ?_)
    · walk_at "gf"
      obtain ⟨k, hk, ek⟩ : ∃ k : Nat, k < 18 ∧ row / 3 % 18 = (k : Int) := ⟨(row / 3 % 18).toNat, by omega, by omega⟩
      rw [ek]
      refine ⟨Nat.lt_of_le_of_lt (Nat.log2_le_self _) (by omega), ?_⟩
      walk_at "gf"
      have h18 := kD18 k hk
      refine ⟨?_, q.go _ H1 h18 P1 N1⟩
      have h2 : (Str.ofString "k" ++ (toString ((k : Nat) : Int) : Str)).length ≤ 200 := h18.2
      rw [Str.length_append] at h2
      exact len_line (by omega)
    · obtain ⟨j, hj, ej⟩ : ∃ j : Nat, j < 5 ∧ row / 3 % 5 = (j : Int) := ⟨(row / 3 % 5).toNat, by omega, by omega⟩
      walk_at "gf"
      obtain ⟨s, hs, hv⟩ : ∃ s, kinds5 s ∧ [V.str "", .str "a", .str "bb", .str (strRep "c" 128), .str (strRep "c" 129)][j]? = some (.str s) := by
        have h5 : j = 0 ∨ j = 1 ∨ j = 2 ∨ j = 3 ∨ j = 4 := by omega
        rcases h5 with rfl | rfl | rfl | rfl | rfl
        · exact ⟨"", ⟨by decide +kernel, by decide +kernel⟩, rfl⟩
        · exact ⟨"a", ⟨by decide +kernel, by decide +kernel⟩, rfl⟩
        · exact ⟨"bb", ⟨by decide +kernel, by decide +kernel⟩, rfl⟩
        · exact ⟨strRep "c" 128, ⟨by decide +kernel, by decide +kernel⟩, rfl⟩
        · exact ⟨strRep "c" 129, ⟨by decide +kernel, by decide +kernel⟩, rfl⟩
      refine ⟨p, _, _, .str s, rfl, rfl, SqL.of e1, at_of (j := j) ej hv, ?_⟩
      exact q.go s H1 hs P1 N1
def sp__law_octets (K : PySem.W.Frag) : Sp := fun vs H Q _ => ∃ (row : Int) (U : Hp), vs = [.int row] ∧ 0 ≤ row ∧ Same U H ∧ ∀ U' H' p (os : List Int), Pu U H U' H' → U' p = some (.lst (os.map V.int)) → os.length ≤ 40000 → Q (.ref p) H'
theorem sc__law_octets : FnScope ["row", "k"] ["row"] (defScope s__law_octets) := ⟨rfl, rfl, rfl, by decide +kernel, rfl, by decide +kernel, by decide +kernel⟩
theorem ok__law_octets (T : Txt0 P K mg A) : FnOk P w K mg base CX0 1 A.f_law_octets A.d_law_octets ["row"] (sp__law_octets K) := by
  refine T.F_law_octets.ok sc__law_octets (fun vs H Q E h => ?_) (fun cdv Ar outer st H vs Q E hr h => ?_)
  · obtain ⟨_, _, rfl, _⟩ := h
    rfl
  · obtain ⟨row, U, rfl, hr0, sU, q⟩ := h
    replace q := Hid.mk q
    refine ⟨_, (pss_cons (ps_if (pt_cmpR op_eq (pe_op op_mod (pe_callTy call_int1 (by rfl) T.int (by decide +kernel) (pa_cons (pv 0) pa_nil)) pe_int) pe_int (nomark _))
      (pss_one (ps_ret (pe_op op_rep (pe_lst (pa_cons (pe_op op_mod (pe_callTy call_int1 (by rfl) T.int (by decide +kernel) (pa_cons (pe_op op_fdiv (pv 0) pe_int) pa_nil)) pe_int) pa_nil)) (pe_op op_sub (pe_op op_add (pe_op op_mul pe_int (pe_op op_add (pe_op op_mod (pe_callTy call_int1 (by rfl) T.int (by decide +kernel) (pa_cons (pe_op op_fdiv (pv 0) pe_int) pa_nil)) pe_int) pe_int)) (pe_op op_mod (pe_callTy call_int1 (by rfl) T.int (by decide +kernel) (pa_cons (pe_op op_fdiv (pv 0) pe_int) pa_nil)) pe_int)) pe_int))))
      pss_nil)
      (pss_one (ps_ret (pe_lc (own := [("k", 1)]) (g := (gName 1)) (tt := tYes) rfl sc__law_octets.nd (pi_range1 (by rfl) T.range (pa_cons (pe_op op_mod (pe_callTy call_int1 (by rfl) T.int (by decide +kernel) (pa_cons (pe_op op_fdiv (pv 0) pe_int) pa_nil)) pe_int) pa_nil)) (blkOk_by (own := [("k", 1)]) (N := ["row", "k"]) (sc := defScope s__law_octets) (by decide +kernel)) (fun _ _ _ _ _ => (pg_name (i := 1) sc__law_octets.nd rfl (Or.inl rfl))) (fun _ _ _ _ _ => pts_nil) (fun _ _ _ _ _ => by exact (pe_op op_mod (pe_callTy call_int1 (by rfl) T.int (by decide +kernel) (pa_cons (pe_op op_fdiv (pv 0) (pe_op op_add pe_int (pv 1))) pa_nil)) pe_int)))))), ?_⟩
    walk_at "gf"
    refine iteEq (fun c => ?_) (fun c => ?_)
    · walk_at "gf"
      rename_i p hp
      obtain ⟨n, hn, en⟩ : ∃ n : Nat, n ≤ 40000 ∧ 4096 * (row / 50 % 8 + 1) + row / 400 % 3 - 1 = (n : Int) := ⟨(4096 * (row / 50 % 8 + 1) + row / 400 % 3 - 1).toNat, by omega, by omega⟩
      have P1 := Pu.skip (o := .lst [.int (row / 5 % 256)]) sU hp
      have e1 : (upd H p (.lst [.int (row / 5 % 256)])) p = some (.lst [.int (row / 5 % 256)]) := upd_same
      generalize upd H p (.lst [.int (row / 5 % 256)]) = H1 at P1 e1 ⊢
      refine ⟨p, _, _, rfl, rfl, e1, by omega, by omega, len_line (by show 1 * _ ≤ 100000; omega), fun p2 hp2 => ?_⟩
      rw [rep_flat, en, Int.toNat_natCast]
      have P2 := P1.trans (Pu.new (o := .lst (List.replicate n (.int (row / 5 % 256)))) P1.vh hp2)
      exact q.go _ _ p2 (List.replicate n (row / 5 % 256)) P2 (by rw [List.map_replicate]; exact upd_same) (by rw [List.length_replicate]; exact hn)
    · walk_at "gf"
      refine ⟨by omega, by omega, fun D hD => ?_⟩
      refine lc_dp (walk_range (lo := 0) (n := (row / 5 % 4).toNat)) (K := K) (V0 := U) (H0 := H) (fun j => some (PyData.int (row / (5 + (0 + (j : Int))) % 256))) _ rfl sU hD (by omega) (fun _ _ => trivial) (fun i x H H' y => y.1) ?_ ?_
      · rintro j v V1 H8 hj xx ⟨_, rfl⟩ Qy Qn hy _
        refine ⟨rfl, _, rfl, ?_⟩
        walk_at "gx"
        exact hy _ _ _ _ rfl (Ext.refl xx.vh) (.int _)
      · rintro V1 H8 xs xx eD da dl
        rw [fm_some, show (List.range (row / 5 % 4).toNat).map (fun j : Nat => PyData.int (row / (5 + (0 + (j : Int))) % 256)) = ((List.range (row / 5 % 4).toNat).map fun j : Nat => row / (5 + (0 + (j : Int))) % 256).map PyData.int from by rw [List.map_map]; rfl] at da
        have exs := dp_intsV da
        subst exs
        exact q.go V1 H8 D _ xx.pu eD (by rw [List.length_map, List.length_range]; omega)
/-! ### what a filter leaves -/
theorem fm_filterMap {α β : Type} (f : α → Option β) (xs : List α) (n : Nat) (h : n = xs.length) (g : Nat → Option β) (hg : ∀ i x, xs[i]? = some x → g i = f x) : fm g n = xs.filterMap f := by
  subst h
  have h2 : ∀ n, n ≤ xs.length → fm g n = (xs.take n).filterMap f := by
    intro n
    induction n with
    | zero => intro _; rfl
    | succ n ih =>
      intro hn
      rw [fm_succ, ih (by omega), List.take_succ_eq_append_getElem (by omega), List.filterMap_append, hg n xs[n] (List.getElem?_eq_getElem (by omega))]
      cases e : f xs[n] with
      | none => simp [e]
      | some y => simp [e]
  rw [h2 _ (Nat.le_refl _), List.take_length]
theorem filterMap_if {α β : Type} (p : α → Prop) [DecidablePred p] (g : α → β) : ∀ l : List α, (l.filterMap fun x => if p x then some (g x) else none) = (l.filter fun x => decide (p x)).map g
  | [] => rfl
  | a :: l => by
    rw [List.filterMap_cons]
    by_cases h : p a
    · rw [if_pos h, List.filter_cons_of_pos (by simpa using h), List.map_cons, filterMap_if p g l]
    · rw [if_neg h, List.filter_cons_of_neg (by simpa using h)]; exact filterMap_if p g l
/-! ### the law's total -/
theorem cr_sumK {X : Cx} {K : PySem.W.Frag} (hc : X.calm = true) (h : X.K = K) : CallR X (.builtin "sum") (rSum K) := h ▸ cr_sum hc
theorem sum_flat (l : List Src) : (l.flatMap lens).sum = (l.map fun s => (lens s).sum).sum := by
  induction l with
  | nil => rfl
  | cons s l ih => rw [List.flatMap_cons, List.sum_append, List.map_cons, List.sum_cons, ih]
def few (ss : List Src) : Prop := ss.length ≤ 100 ∧ ∀ s ∈ ss, s.ps.length ≤ 16 ∧ ∀ x ∈ s.ps, x.2.length ≤ 40000
def sp__law_total (K : PySem.W.Frag) : Sp := fun vs H Q _ => ∃ (ml : Addr) (mas : List MA) (ss : List Src) (U : Hp), vs = [.ref ml] ∧ Same U H ∧ Md U H ml mas ss ∧ few ss ∧ ∀ H', (∀ b, H b ≠ none → H' b = H b) → (∀ b, H' b = none → H b = none) → Q (.int (total ss)) H'
theorem sc__law_total : FnScope ["model", "piece", "one"] ["model"] (defScope s__law_total) := ⟨rfl, rfl, rfl, by decide +kernel, rfl, by decide +kernel, by decide +kernel⟩
theorem ok__law_total (T : Txt0 P K mg A) : FnOk P w K mg base CX0 1 A.f_law_total A.d_law_total ["model"] (sp__law_total K) := by
  refine T.F_law_total.ok sc__law_total (fun vs H Q E h => ?_) (fun cdv Ar outer st H vs Q E hr h => ?_)
  · obtain ⟨_, _, _, _, rfl, _⟩ := h
    rfl
  · obtain ⟨ml, mas, ss, U, rfl, sU, M, hf, q⟩ := h
    replace q := Hid.mk q
    refine ⟨_, (pss_one (ps_ret (pe_callB (cr_sum rfl) (by rfl) T.sum (by decide +kernel) (pa_cons (pe_lc (own := [("one", 2)]) (g := (gName 2)) rfl sc__law_total.nd (pi_list (pv 0)) (blkOk_by (own := [("one", 2)]) (N := ["model", "piece", "one"]) (sc := defScope s__law_total) (by decide +kernel)) (fun _ _ _ _ _ => (pg_name (i := 2) sc__law_total.nd rfl (Or.inl rfl))) (fun _ _ _ _ _ => (pts_one (pt_not (pt_val (pe_ix (r := rIxL K) ix_list (pv 2) pe_int (fun _ _ => rfl)))))) (fun _ _ _ _ _ => by exact (pe_callB (cr_sumK (K := K) rfl rfl) (by rfl) T.sum (by decide +kernel) (pa_cons (pe_lc (wi := iList K (tOp (rIxL K) (tVar 2) (tC (.int 1)))) (own := [("piece", 1)]) (g := (gName 1)) (tt := tYes) rfl sc__law_total.nd (pi_list (pe_ix (r := rIxL K) ix_list (pv 2) pe_int (fun _ _ => rfl))) (blkOk_by (own := [("piece", 1)]) (N := ["model", "piece", "one"]) (sc := { kind := ScopeKind.function, names := [(".0", NameKind.local), ("one", NameKind.local), ("sum", NameKind.globalImplicit)], isGenerator := false, isCoroutine := false }) (by decide +kernel)) (fun _ _ _ _ _ => (pg_name (i := 1) sc__law_total.nd rfl (Or.inl rfl))) (fun _ _ _ _ _ => pts_nil) (fun _ _ _ _ _ => by exact (pe_callB (call_len_lst (K := K) rfl) (by rfl) T.len PySem.boot_len (pa_cons (pe_ix (r := rIxL K) ix_list (pv 1) pe_int (fun _ _ => rfl)) pa_nil)))) pa_nil)))) pa_nil)))), ?_⟩
    have hlen := M.len
    have hl100 := hf.1
    refine ⟨_, rfl, ml, rfl, ⟨_, SqL.of M.e⟩, fun D hD => ?_⟩
    refine lc_dp (walk_list (K := K) (a := ml) (xs := mas.map fun a => V.ref a.o)) (K := K) (V0 := U) (H0 := H) (fun i => (ss[i]?).bind fun s => if s.used = false then some (PyData.int (lens s).sum) else none) _ rfl sU hD (by rw [List.length_map]; omega) (fun H' s => s.seq (SqL.of M.e)) (fun i x H H' y => y.1) ?_ ?_
    · rintro i v V1 H1 hi xx ⟨_, hv⟩ Qy Qn hy hno
      rw [List.getElem?_map] at hv
      obtain ⟨a, ha, rfl⟩ := Option.map_eq_some_iff.mp hv
      have his : i < ss.length := by have := (List.getElem?_eq_some_iff.mp ha).1; omega
      have hs := List.getElem?_eq_getElem his
      generalize ss[i] = s at hs
      obtain ⟨e1, e2, hql, hq⟩ := M.io i a s ha hs
      have e11 := xx.hh _ _ e1
      have e21 := xx.hh _ _ e2
      have hsl := (hf.2 s (List.mem_of_getElem? hs)).1
      refine ⟨rfl, _, rfl, a.o, _, _, .bl s.used, rfl, rfl, SqL.of e11, atI_nat (j := 2) rfl, s.used, rfl, ?_⟩
      refine if_b (fun hb => ?_) (fun hb => ?_)
      · have hu : s.used = false := by simpa using hb
        refine ⟨_, rfl, a.o, _, _, .ref a.pl, rfl, rfl, SqL.of e11, atI_nat (j := 1) rfl, a.pl, rfl, ⟨_, SqL.of e21⟩, fun D2 hD2 => ?_⟩
        refine lc_dp (walk_list (K := K) (a := a.pl) (xs := a.qs.map V.ref)) (K := K) (V0 := V1) (H0 := H1) (fun j => (s.ps[j]?).map fun x => PyData.int (x.2.length : Int)) _ rfl xx.vh hD2 (by rw [List.length_map]; omega) (fun H' s => s.seq (SqL.of e21)) (fun i x H H' y => y.1) ?_ ?_
        · rintro j v V2 H2 hj x2 ⟨_, hv2⟩ Qy2 Qn2 hy2 _
          rw [List.getElem?_map] at hv2
          obtain ⟨qa, hqa, rfl⟩ := Option.map_eq_some_iff.mp hv2
          have hjs : j < s.ps.length := by have := (List.getElem?_eq_some_iff.mp hqa).1; omega
          have hx := List.getElem?_eq_getElem hjs
          generalize s.ps[j] = x at hx
          obtain ⟨b, e3, e4⟩ := hq j qa x hqa hx
          have e33 := x2.hh _ _ (xx.hh _ _ e3)
          have e44 := x2.hh _ _ (xx.hh _ _ (sU _ _ e4))
          refine ⟨rfl, _, rfl, qa, _, _, .ref b, rfl, rfl, SqL.of e33, atI_nat (j := 1) rfl, b, _, rfl, .inl (SqL.of e44), ?_⟩
          rw [List.length_map]
          exact hy2 _ _ _ _ (by rw [hx]; rfl) (Ext.refl x2.vh) (.int _)
        · rintro V2 H2 xs x2 eD2 da dl
          rw [List.length_map, hql, fm_map, show (s.ps.map fun x => PyData.int (x.2.length : Int)) = (lens s).map PyData.int from by unfold lens; rw [List.map_map]; rfl] at da
          have exs := dp_intsV da
          subst exs
          refine ⟨D2, lens s, rfl, SqL.of (x2.vh _ _ eD2), ?_⟩
          exact hy _ _ _ _ (by rw [hs]; exact if_pos hu) x2 (.int _)
      · have hu : ¬ s.used = false := by simpa using hb
        exact hno (by rw [hs]; exact if_neg hu) _ _ (Ext.refl xx.vh)
    · rintro V1 H1 xs xx eD da dl
      rw [List.length_map, hlen, fm_filterMap (fun s : Src => if s.used = false then some (PyData.int (lens s).sum) else none) ss _ rfl _ (fun i s h => by rw [h]; rfl), show (ss.filterMap fun s : Src => if s.used = false then some (PyData.int (lens s).sum) else none) = (((fresh ss).map fun s => (lens s).sum)).map PyData.int from by
        rw [filterMap_if, List.map_map]
        unfold fresh
        congr 1
        refine List.filter_congr fun s _ => ?_
        cases s.used <;> rfl] at da
      have exs := dp_intsV da
      subst exs
      refine ⟨D, _, rfl, SqL.of (xx.vh _ _ eD), ?_⟩
      have ht : ((fresh ss).map fun s => (lens s).sum).sum = total ss := by unfold total; rw [sum_flat]
      rw [ht]
      have p := xx.pu
      exact q.go H1 p.kp p.nn
/-! ### the law's goods -/
def sp__law_goods (K : PySem.W.Frag) : Sp := fun vs H Q _ => ∃ (ml : Addr) (mas : List MA) (ss : List Src) (U : Hp) (n : Int) (i : Nat) (s : Src), vs = [.ref ml, .int n] ∧ Same U H ∧ Md U H ml mas ss ∧ few ss ∧ ss[i]? = some s ∧ s.n = n ∧ (ss.map Src.n).Nodup ∧ ∀ U' H' p, Pu U H U' H' → Dp K U' (.ref p) (goodsD s.ps) → Q (.ref p) H'
theorem uniq_n {ss : List Src} {i j : Nat} {s t : Src} (nd : (ss.map Src.n).Nodup) (h1 : ss[i]? = some s) (h2 : ss[j]? = some t) (e : s.n = t.n) : i = j := by
  refine (List.getElem?_inj (by rw [List.length_map]; exact (List.getElem?_eq_some_iff.mp h1).1) nd).mp ?_
  rw [List.getElem?_map, List.getElem?_map, h1, h2]
  exact congrArg some e
theorem sc__law_goods : FnScope ["model", "number", "one", "piece"] ["model", "number"] (defScope s__law_goods) := ⟨rfl, rfl, rfl, by decide +kernel, rfl, by decide +kernel, by decide +kernel⟩
theorem ok__law_goods (T : Txt0 P K mg A) : FnOk P w K mg base CX0 1 A.f_law_goods A.d_law_goods ["model", "number"] (sp__law_goods K) := by
  refine T.F_law_goods.ok sc__law_goods (fun vs H Q E h => ?_) (fun cdv Ar outer st H vs Q E hr h => ?_)
  · obtain ⟨_, _, _, _, _, _, _, rfl, _⟩ := h
    rfl
  · obtain ⟨ml, mas, ss, U, n, i0, s0, rfl, sU, M, hf, hs0, hn0, nd, q⟩ := h
    replace q := Hid.mk q
    refine ⟨_, (pss_cons (ps_for PassesOwn.never rfl (pi_list (pv 0)) (pg_name (i := 2) sc__law_goods.nd rfl (Or.inl rfl))
      (pss_one (ps_if (pt_cmpR op_eq (pe_ix (r := rIxL K) ix_list (pv 2) pe_int (fun _ _ => rfl)) (pv 1) (nomark _))
      (pss_one (ps_ret (pe_lc (own := [("piece", 3)]) (g := (gName 3)) (tt := tYes) rfl sc__law_goods.nd (pi_list (pe_ix (r := rIxL K) ix_list (pv 2) pe_int (fun _ _ => rfl))) (blkOk_by (own := [("piece", 3)]) (N := ["model", "number", "one", "piece"]) (sc := defScope s__law_goods) (by decide +kernel)) (fun _ _ _ _ _ => (pg_name (i := 3) sc__law_goods.nd rfl (Or.inl rfl))) (fun _ _ _ _ _ => pts_nil) (fun _ _ _ _ _ => by exact (pe_tup (pa_cons (pe_ix (r := rIxL K) ix_list (pv 3) pe_int (fun _ _ => rfl)) (pa_cons (pe_ix (r := rIxL K) ix_list (pv 3) pe_int (fun _ _ => rfl)) pa_nil)))))))
      pss_nil)))
      (pss_one (ps_ret (pe_lst pa_nil)))), ?_⟩
    have hlen := M.len
    have hl100 := hf.1
    refine ⟨_, rfl, ml, rfl, ⟨_, SqL.of M.e⟩, for_list (K := K) (a := ml) (xs := mas.map fun a => V.ref a.o) (fun j σ H' => ∃ v2 v3 : Option V, σ = [some (.ref ml), some (.int n), v2, v3] ∧ H' = H ∧ ∀ (k : Nat) (s : Src), k < j → ss[k]? = some s → s.n ≠ n) ⟨_, _, rfl, rfl, fun k s hk => absurd hk (Nat.not_lt_zero _)⟩ (fun j σ H' _ ⟨_, _, _, e, _⟩ => by rw [e]; exact SqL.of M.e) ?_ ?_⟩
    · rintro j v σ H1 hv ⟨v2, v3, rfl, rfl, hno⟩
      rw [List.getElem?_map] at hv
      obtain ⟨a, ha, rfl⟩ := Option.map_eq_some_iff.mp hv
      have hjs : j < ss.length := by have := (List.getElem?_eq_some_iff.mp ha).1; omega
      have hs := List.getElem?_eq_getElem hjs
      generalize ss[j] = s at hs
      obtain ⟨e1, e2, hql, hq⟩ := M.io j a s ha hs
      have hsl := (hf.2 s (List.mem_of_getElem? hs)).1
      walk_at "gf"
      refine iteEq (fun c => ?_) (fun c => ?_)
      · have ej : j = i0 := uniq_n nd hs hs0 (c.trans hn0.symm)
        subst ej
        obtain rfl : s = s0 := Option.some.inj (hs.symm.trans hs0)
        walk_at "gf"
        refine ⟨⟨_, SqL.of e2⟩, fun D hD => ?_⟩
        refine lc_dp (walk_list (K := K) (a := a.pl) (xs := a.qs.map V.ref)) (K := K) (V0 := U) (H0 := H1) (fun m => (s.ps[m]?).map fun x => PyData.tuple [.str x.1, pInts x.2]) _ rfl sU hD (by rw [List.length_map]; omega) (fun H' s => s.seq (SqL.of e2)) (fun i x H H' y => y.1) ?_ ?_
        · rintro m v V2 H2 hm x2 ⟨_, hv2⟩ Qy2 Qn2 hy2 _
          rw [List.getElem?_map] at hv2
          obtain ⟨qa, hqa, rfl⟩ := Option.map_eq_some_iff.mp hv2
          have hms : m < s.ps.length := by have := (List.getElem?_eq_some_iff.mp hqa).1; omega
          have hx := List.getElem?_eq_getElem hms
          generalize s.ps[m] = x at hx
          obtain ⟨b, e3, e4⟩ := hq m qa x hqa hx
          have e33 := x2.hh _ _ e3
          have e44 := x2.vv _ _ e4
          refine ⟨rfl, _, rfl, ?_⟩
          walk_at "gf"
          rename_i t ht
          have x3 := Ext.new (o := .tup [.str x.1, .ref b]) x2.vh ht
          exact hy2 _ _ _ _ (by rw [hx]; rfl) x3 (.tup (SqT.of upd_same) (.cons (.str _) (.cons (dp_ints (SqL.of (x3.vv _ _ e44))) .nil)))
        · rintro V2 H2 xs x2 eD2 da dl
          rw [List.length_map, hql, fm_map] at dl
          exact q.go V2 H2 D x2.pu dl
      · refine ⟨_, _, rfl, rfl, fun k t hk ht => ?_⟩
        by_cases ck : k = j
        · subst ck
          obtain rfl : s = t := Option.some.inj (hs.symm.trans ht)
          exact c
        · exact hno k t (by omega) ht
    · rintro σ H1 ⟨v2, v3, rfl, rfl, hno⟩
      exfalso
      exact hno i0 s0 (by rw [List.length_map, hlen]; exact (List.getElem?_eq_some_iff.mp hs0).1) hs0 hn0
/-! ### one entry of the law's own list is changed -/
theorem flat_disj {α β : Type} {f : α → List β} : ∀ {l : List α} {i j : Nat} {x y : α} {z : β}, (l.flatMap f).Nodup → l[i]? = some x → l[j]? = some y → i ≠ j → z ∈ f x → z ∈ f y → False
  | [], _, _, _, _, _, _, h, _, _, _, _ => by cases h
  | a :: l, 0, 0, _, _, _, _, _, _, h, _, _ => h rfl
  | a :: l, 0, j + 1, x, y, z, nd, h1, h2, _, h3, h4 => by
    cases h1
    rw [List.flatMap_cons, List.nodup_append] at nd
    have h2' : l[j]? = some y := h2
    exact nd.2.2 z h3 z (List.mem_flatMap.mpr ⟨y, List.mem_of_getElem? h2', h4⟩) rfl
  | a :: l, i + 1, 0, x, y, z, nd, h1, h2, _, h3, h4 => by
    cases h2
    rw [List.flatMap_cons, List.nodup_append] at nd
    have h1' : l[i]? = some x := h1
    exact nd.2.2 z h4 z (List.mem_flatMap.mpr ⟨x, List.mem_of_getElem? h1', h3⟩) rfl
  | a :: l, i + 1, j + 1, x, y, z, nd, h1, h2, h, h3, h4 => by
    rw [List.flatMap_cons, List.nodup_append] at nd
    exact flat_disj (l := l) (i := i) (j := j) nd.2.1 h1 h2 (fun z => h (by rw [z])) h3 h4
theorem flat_one {α β : Type} {f : α → List β} : ∀ {l : List α} {x : α}, (l.flatMap f).Nodup → x ∈ l → (f x).Nodup
  | a :: l, x, nd, h => by
    rw [List.flatMap_cons, List.nodup_append] at nd
    rcases List.mem_cons.mp h with rfl | h
    · exact nd.1
    · exact flat_one nd.2.1 h
/-- an entry is told anew: its addresses (those of before, and new ones), its source -/
theorem Md.set {U H U' H' : Hp} {ml : Addr} {mas : List MA} {ss : List Src} (M : Md U H ml mas ss) (su : Same U U') {j : Nat} {a a' : MA} {s s' : Src} (ha : mas[j]? = some a) (hs : ss[j]? = some s) (ho : a'.o = a.o) (hsub : ∀ b ∈ a'.all, b ∈ a.all ∨ (H b = none ∧ U' b = none)) (nda : a'.all.Nodup)
    (ko : ∀ b, mfoot ml mas b → b ∉ a.all → U' b = none ∧ H' b = H b) (ku : ∀ b ∈ a.all, U' b = none) (at_ : MaAt U' H' a' s') : Md U' H' ml (mas.set j a') (ss.set j s') := by
  have hj : j < mas.length := (List.getElem?_eq_some_iff.mp ha).1
  have hjs : j < ss.length := (List.getElem?_eq_some_iff.mp hs).1
  have hall : ∀ {i : Nat} {x : MA}, mas[i]? = some x → ∀ b ∈ x.all, mfoot ml mas b := fun h b hb => .inr (List.mem_flatMap.mpr ⟨_, List.mem_of_getElem? h, hb⟩)
  have ndl := (List.nodup_cons.mp M.nd).2
  have nml := (List.nodup_cons.mp M.nd).1
  have nmla : ml ∉ a.all := fun z => nml (List.mem_flatMap.mpr ⟨a, List.mem_of_getElem? ha, z⟩)
  have new_no : ∀ b, H b = none → ¬ mfoot ml mas b := fun b hb hm => by
    obtain ⟨xs, e⟩ := M.lst hm
    rw [hb] at e; cases e
  have split : mas = mas.take j ++ a :: mas.drop (j + 1) := by
    obtain ⟨h1, h2⟩ := List.getElem?_eq_some_iff.mp ha
    rw [← h2, List.getElem_cons_drop, List.take_append_drop]
  have splits : mas.set j a' = mas.take j ++ a' :: mas.drop (j + 1) := by
    rw [List.set_eq_take_append_cons_drop, if_pos hj]
  have oth : ∀ {i : Nat} {x : MA}, i ≠ j → mas[i]? = some x → ∀ b ∈ x.all, b ∉ a.all := fun hi hx b hb z => flat_disj ndl hx ha hi hb z
  refine ⟨?_, by rw [List.length_set, List.length_set]; exact M.len, ?_, fun b hb => ?_, fun i x t h1 h2 => ?_⟩
  · rw [List.map_set, ho]
    have : (mas.map fun a => V.ref a.o).set j (.ref a.o) = mas.map fun a => V.ref a.o := by
      have e : (mas.map fun a => V.ref a.o)[j]? = some (.ref a.o) := by rw [List.getElem?_map, ha]; rfl
      obtain ⟨g1, g2⟩ := List.getElem?_eq_some_iff.mp e
      rw [← g2, List.set_getElem_self]
    rw [this]
    exact (ko ml (.inl rfl) nmla).2.trans M.e
  · rw [splits, List.flatMap_append, List.flatMap_cons]
    have e := M.nd
    rw [split, List.flatMap_append, List.flatMap_cons, List.nodup_cons, List.nodup_append, List.nodup_append] at e
    obtain ⟨e0, e1, ⟨e2, e3, e4⟩, e5⟩ := e
    have tak : ∀ b ∈ (mas.take j).flatMap MA.all, mfoot ml mas b ∧ b ∉ a.all := fun b hb => by
      obtain ⟨x, hx, hbx⟩ := List.mem_flatMap.mp hb
      refine ⟨.inr (List.mem_flatMap.mpr ⟨x, List.mem_of_mem_take hx, hbx⟩), fun z => ?_⟩
      exact e5 b hb b (List.mem_append_left _ z) rfl
    have dro : ∀ b ∈ (mas.drop (j + 1)).flatMap MA.all, mfoot ml mas b ∧ b ∉ a.all := fun b hb => by
      obtain ⟨x, hx, hbx⟩ := List.mem_flatMap.mp hb
      refine ⟨.inr (List.mem_flatMap.mpr ⟨x, List.mem_of_mem_drop hx, hbx⟩), fun z => ?_⟩
      exact e4 b z b hb rfl
    have out' : ∀ b ∈ a'.all, ∀ c, mfoot ml mas c → c ∉ a.all → b ≠ c := fun b hb c hc hca z => by
      subst z
      rcases hsub b hb with h | h
      · exact hca h
      · exact new_no b h.1 hc
    rw [List.nodup_cons, List.nodup_append, List.nodup_append]
    refine ⟨fun z => ?_, e1, ⟨nda, e3, fun x hx y hy => out' x hx y (dro y hy).1 (dro y hy).2⟩, fun x hx y hy => ?_⟩
    · rcases List.mem_append.mp z with z | z
      · exact e0 (List.mem_append_left _ z)
      · rcases List.mem_append.mp z with z | z
        · exact out' ml z ml (.inl rfl) nmla rfl
        · exact e0 (List.mem_append_right _ (List.mem_append_right _ z))
    · rcases List.mem_append.mp hy with hy | hy
      · exact (out' y hy x (tak x hx).1 (tak x hx).2).symm
      · exact e5 x hx y (List.mem_append_right _ hy)
  · rcases hb with rfl | hb
    · exact (ko _ (.inl rfl) nmla).1
    · rw [splits, List.flatMap_append, List.flatMap_cons] at hb
      have from_old : mfoot ml mas b → U' b = none := fun hm => by
        by_cases c : b ∈ a.all
        · exact ku b c
        · exact (ko b hm c).1
      rcases List.mem_append.mp hb with hb | hb
      · obtain ⟨x, hx, hbx⟩ := List.mem_flatMap.mp hb
        exact from_old (.inr (List.mem_flatMap.mpr ⟨x, List.mem_of_mem_take hx, hbx⟩))
      · rcases List.mem_append.mp hb with hb | hb
        · rcases hsub b hb with h | h
          · exact ku b h
          · exact h.2
        · obtain ⟨x, hx, hbx⟩ := List.mem_flatMap.mp hb
          exact from_old (.inr (List.mem_flatMap.mpr ⟨x, List.mem_of_mem_drop hx, hbx⟩))
  · by_cases c : i = j
    · subst c
      rw [List.getElem?_set_self hj] at h1
      rw [List.getElem?_set_self hjs] at h2
      cases h1; cases h2
      exact at_
    · rw [List.getElem?_set_ne (Ne.symm c)] at h1 h2
      exact (M.io i x t h1 h2).keep su fun b hb => (ko b (hall h1 b hb) (oth c h1 b hb)).2
/-! ### the law's own write: what may change, and its two ways -/
structure Chm (U H U' H' : Hp) (ml : Addr) (mas : List MA) : Prop where
  vv : Same U U'
  vh : Same U' H'
  out : ∀ b, U b = none → H b ≠ none → U' b = none
  nn : ∀ b, H' b = none → H b = none
  kp : ∀ b, ¬ mfoot ml mas b → H b ≠ none → H' b = H b
theorem Chm.refl {U H : Hp} (s : Same U H) (ml : Addr) (mas : List MA) : Chm U H U H ml mas := ⟨Same.refl U, s, fun _ h _ => h, fun _ h => h, fun _ _ _ => rfl⟩
theorem Chm.trans {U H U1 H1 U2 H2 : Hp} {ml : Addr} {mas : List MA} (a : Chm U H U1 H1 ml mas) (b : Chm U1 H1 U2 H2 ml mas) : Chm U H U2 H2 ml mas :=
  ⟨a.vv.trans b.vv, b.vh, fun x h1 h2 => b.out x (a.out x h1 h2) (fun z => h2 (a.nn x z)), fun x h => a.nn x (b.nn x h), fun x h1 h2 => (b.kp x h1 (fun z => h2 (a.nn x z))).trans (a.kp x h1 h2)⟩
theorem Pu.chm {U H U' H' : Hp} (a : Pu U H U' H') (ml : Addr) (mas : List MA) : Chm U H U' H' ml mas := ⟨a.vv, a.vh, a.out, a.nn, fun x _ h => a.kp x h⟩
theorem set_id {α : Type} {l : List α} {j : Nat} {a : α} (h : l[j]? = some a) : l.set j a = l := by
  obtain ⟨h1, h2⟩ := List.getElem?_eq_some_iff.mp h
  rw [← h2, List.set_getElem_self]
theorem MA.nds {a : MA} (nd : a.all.Nodup) : a.o ≠ a.pl ∧ a.o ∉ a.qs ∧ a.pl ∉ a.qs ∧ a.qs.Nodup := by
  unfold MA.all at nd
  rw [List.nodup_cons, List.nodup_cons] at nd
  exact ⟨fun z => nd.1 (by rw [z]; exact List.mem_cons_self), fun z => nd.1 (List.mem_cons_of_mem _ z), nd.2.1, nd.2.2⟩
theorem Md.one {U H : Hp} {ml : Addr} {mas : List MA} {ss : List Src} (M : Md U H ml mas ss) {j : Nat} {a : MA} (ha : mas[j]? = some a) : a.all.Nodup := flat_one (List.nodup_cons.mp M.nd).2 (List.mem_of_getElem? ha)
theorem Md.foot {ml : Addr} {mas : List MA} {j : Nat} {a : MA} (ha : mas[j]? = some a) {b : Addr} (h : b ∈ a.all) : mfoot ml mas b := .inr (List.mem_flatMap.mpr ⟨a, List.mem_of_getElem? ha, h⟩)
theorem Md.new {U H : Hp} {ml : Addr} {mas : List MA} {ss : List Src} (M : Md U H ml mas ss) {p : Addr} (h : H p = none) : ¬ mfoot ml mas p := fun z => by
  obtain ⟨xs, e⟩ := M.lst z
  rw [h] at e; cases e
/-- one piece is told anew: its octets are a new list -/
theorem Md.piece {U H : Hp} {ml : Addr} {mas : List MA} {ss : List Src} (M : Md U H ml mas ss) (sU : Same U H) {j m : Nat} {a : MA} {s : Src} {q : Addr} {x : Str × List Int} (ha : mas[j]? = some a) (hs : ss[j]? = some s) (hq : a.qs[m]? = some q) (hx : s.ps[m]? = some x) {p : Addr} {os : List Int} (hp : H p = none) :
    Md (upd U p (.lst (os.map V.int))) (upd (upd H p (.lst (os.map V.int))) q (.lst [.str x.1, .ref p])) ml mas (ss.set j { s with ps := s.ps.set m (x.1, os) }) ∧ Chm U H (upd U p (.lst (os.map V.int))) (upd (upd H p (.lst (os.map V.int))) q (.lst [.str x.1, .ref p])) ml mas := by
  obtain ⟨e1, e2, hl, hqs⟩ := M.io j a s ha hs
  have qa : q ∈ a.all := by unfold MA.all; simp [List.mem_of_getElem? hq]
  have np := M.new hp
  have qm := Md.foot (ml := ml) ha qa
  have hqp : q ≠ p := fun z => np (z ▸ qm)
  have hup : U p = none := by
    cases h : U p with
    | none => rfl
    | some o => have := sU _ _ h; rw [hp] at this; cases this
  have Uo : ∀ b, mfoot ml mas b → (upd U p (.lst (os.map V.int))) b = none := fun b hb => by
    have hbp : b ≠ p := fun z => np (z ▸ hb)
    rw [upd_ne hbp]; exact M.uu b hb
  obtain ⟨n1, n2, n3, n4⟩ := MA.nds (M.one ha)
  have hqm := List.mem_of_getElem? hq
  have su : Same U (upd U p (.lst (os.map V.int))) := fun b o e => by rw [upd_ne (fun z => by rw [z, hup] at e; cases e)]; exact e
  have kk : ∀ b, b ≠ p → b ≠ q → (upd (upd H p (.lst (os.map V.int))) q (.lst [.str x.1, .ref p])) b = H b := fun b h1 h2 => by rw [upd_ne h2, upd_ne h1]
  refine ⟨?_, su, fun b o e => ?_, fun b h1 h2 => ?_, fun b h => ?_, fun b h1 h2 => ?_⟩
  · have r := M.set su (a' := a) (s' := { s with ps := s.ps.set m (x.1, os) }) (H' := upd (upd H p (.lst (os.map V.int))) q (.lst [.str x.1, .ref p])) ha hs rfl (fun b h => .inl h) (M.one ha) (fun b hm hb => ⟨Uo b hm, kk b (fun z => np (z ▸ hm)) (fun z => hb (z ▸ qa))⟩) (fun b hb => Uo b (Md.foot ha hb)) ?_
    · rw [set_id ha] at r; exact r
    · refine ⟨(kk _ (fun z => np (z ▸ Md.foot ha (by unfold MA.all; simp))) (fun z => n2 (by rw [z]; exact hqm))).trans e1, (kk _ (fun z => np (z ▸ Md.foot ha (by unfold MA.all; simp))) (fun z => n3 (by rw [z]; exact hqm))).trans e2, by rw [List.length_set]; exact hl, fun k q' y g1 g2 => ?_⟩
      by_cases c : k = m
      · subst c
        obtain rfl : q' = q := Option.some.inj (g1.symm.trans hq)
        have hk : k < s.ps.length := (List.getElem?_eq_some_iff.mp hx).1
        have g2' : (s.ps.set k (x.1, os))[k]? = some y := g2
        rw [List.getElem?_set_self hk] at g2'
        obtain rfl := Option.some.inj g2'
        exact ⟨p, upd_same, upd_same⟩
      · have g2' : (s.ps.set m (x.1, os))[k]? = some y := g2
        rw [List.getElem?_set_ne (Ne.symm c)] at g2'
        obtain ⟨b, e3, e4⟩ := hqs k q' y g1 g2'
        have hne : q' ≠ q := fun z => c (by
          subst z
          exact (List.getElem?_inj (List.getElem?_eq_some_iff.mp g1).1 n4).mp (g1.trans hq.symm))
        exact ⟨b, (kk q' (fun z => np (z ▸ Md.foot ha (by unfold MA.all; simp [List.mem_of_getElem? g1]))) hne).trans e3, su _ _ e4⟩
  · by_cases c : b = p
    · rw [c] at e ⊢
      rw [upd_same] at e
      rw [upd_ne (Ne.symm hqp), upd_same]; exact e
    · rw [upd_ne c] at e
      have hbq : b ≠ q := fun z => by rw [z, M.uu q qm] at e; cases e
      rw [kk b c hbq]; exact sU _ _ e
  · rw [upd_ne (fun z => h2 (by rw [z]; exact hp))]; exact h1
  · by_cases c : b = q
    · rw [c, upd_same] at h; cases h
    · rw [upd_ne c] at h
      by_cases c2 : b = p
      · rw [c2]; exact hp
      · rw [upd_ne c2] at h; exact h
  · exact kk b (fun z => h2 (by rw [z]; exact hp)) (fun z => h1 (z ▸ qm))
/-- a piece comes on -/
theorem Md.fresh {U H : Hp} {ml : Addr} {mas : List MA} {ss : List Src} (M : Md U H ml mas ss) (sU : Same U H) {j : Nat} {a : MA} {s : Src} (ha : mas[j]? = some a) (hs : ss[j]? = some s) {p q : Addr} {kind : Str} {os : List Int} (hp : H p = none) (hq : H q = none) (hqp : q ≠ p) :
    Md (upd U p (.lst (os.map V.int))) (upd (upd (upd H p (.lst (os.map V.int))) q (.lst [.str kind, .ref p])) a.pl (.lst (a.qs.map V.ref ++ [.ref q]))) ml (mas.set j { a with qs := a.qs ++ [q] }) (ss.set j { s with ps := s.ps ++ [(kind, os)] }) ∧ Chm U H (upd U p (.lst (os.map V.int))) (upd (upd (upd H p (.lst (os.map V.int))) q (.lst [.str kind, .ref p])) a.pl (.lst (a.qs.map V.ref ++ [.ref q]))) ml mas := by
  obtain ⟨e1, e2, hl, hqs⟩ := M.io j a s ha hs
  have np := M.new hp
  have nq := M.new hq
  have la : a.pl ∈ a.all := by unfold MA.all; simp
  have lm := Md.foot (ml := ml) ha la
  have hlp : a.pl ≠ p := fun z => np (z ▸ lm)
  have hlq : a.pl ≠ q := fun z => nq (z ▸ lm)
  have hup : U p = none := by
    cases h : U p with
    | none => rfl
    | some o => have := sU _ _ h; rw [hp] at this; cases this
  have huq : U q = none := by
    cases h : U q with
    | none => rfl
    | some o => have := sU _ _ h; rw [hq] at this; cases this
  have Uo : ∀ b, mfoot ml mas b → (upd U p (.lst (os.map V.int))) b = none := fun b hb => by
    have hbp : b ≠ p := fun z => np (z ▸ hb)
    rw [upd_ne hbp]; exact M.uu b hb
  obtain ⟨n1, n2, n3, n4⟩ := MA.nds (M.one ha)
  have su : Same U (upd U p (.lst (os.map V.int))) := fun b o e => by rw [upd_ne (fun z => by rw [z, hup] at e; cases e)]; exact e
  have kk : ∀ b, b ≠ p → b ≠ q → b ≠ a.pl → (upd (upd (upd H p (.lst (os.map V.int))) q (.lst [.str kind, .ref p])) a.pl (.lst (a.qs.map V.ref ++ [.ref q]))) b = H b := fun b h1 h2 h3 => by rw [upd_ne h3, upd_ne h2, upd_ne h1]
  have mq : ∀ b, b ∈ a.qs → b ∈ a.all := fun b hb => by unfold MA.all; simp [hb]
  refine ⟨?_, su, fun b o e => ?_, fun b h1 h2 => ?_, fun b h => ?_, fun b h1 h2 => ?_⟩
  · refine M.set su (a' := { a with qs := a.qs ++ [q] }) (s' := { s with ps := s.ps ++ [(kind, os)] }) ha hs rfl (fun b h => ?_) ?_ (fun b hm hb => ⟨Uo b hm, kk b (fun z => np (z ▸ hm)) (fun z => nq (z ▸ hm)) (fun z => hb (z ▸ la))⟩) (fun b hb => Uo b (Md.foot ha hb)) ?_
    · have h' : b ∈ a.o :: a.pl :: (a.qs ++ [q]) := h
      rcases List.mem_cons.mp h' with rfl | h'
      · exact .inl (by unfold MA.all; simp)
      rcases List.mem_cons.mp h' with rfl | h'
      · exact .inl la
      rcases List.mem_append.mp h' with h' | h'
      · exact .inl (mq b h')
      · obtain rfl := List.mem_singleton.mp h'
        exact .inr ⟨hq, by rw [upd_ne hqp]; exact huq⟩
    · show (a.o :: a.pl :: (a.qs ++ [q])).Nodup
      have ho : a.o ≠ q := fun z => nq (z ▸ Md.foot ha (by unfold MA.all; simp))
      rw [List.nodup_cons, List.nodup_cons, List.nodup_append]
      refine ⟨fun z => ?_, fun z => ?_, n4, by simp, fun y hy z hz e => ?_⟩
      · rcases List.mem_cons.mp z with z | z
        · exact n1 z
        rcases List.mem_append.mp z with z | z
        · exact n2 z
        · exact ho (List.mem_singleton.mp z)
      · rcases List.mem_append.mp z with z | z
        · exact n3 z
        · exact hlq (List.mem_singleton.mp z)
      · obtain rfl := List.mem_singleton.mp hz
        subst e
        exact nq (Md.foot ha (mq _ hy))
    · refine ⟨(kk _ (fun z => np (z ▸ Md.foot ha (by unfold MA.all; simp))) (fun z => nq (z ▸ Md.foot ha (by unfold MA.all; simp))) n1).trans e1, by rw [List.map_append]; exact upd_same, by rw [List.length_append, List.length_append, hl]; rfl, fun k q' y g1 g2 => ?_⟩
      by_cases c : k < a.qs.length
      · rw [List.getElem?_append_left c] at g1
        have g2' : (s.ps ++ [(kind, os)])[k]? = some y := g2
        rw [List.getElem?_append_left (by omega)] at g2'
        obtain ⟨b, e3, e4⟩ := hqs k q' y g1 g2'
        have hm := List.mem_of_getElem? g1
        have hf := Md.foot (ml := ml) ha (mq _ hm)
        exact ⟨b, (kk q' (fun z => np (z ▸ hf)) (fun z => nq (z ▸ hf)) (fun z => n3 (z ▸ hm))).trans e3, su _ _ e4⟩
      · have hk : k = a.qs.length := by
          have := (List.getElem?_eq_some_iff.mp g1).1
          rw [List.length_append] at this
          have h1 : [q].length = 1 := rfl
          omega
        subst hk
        rw [List.getElem?_append_right (Nat.le_refl _), Nat.sub_self] at g1
        have g2' : (s.ps ++ [(kind, os)])[a.qs.length]? = some y := g2
        rw [hl, List.getElem?_append_right (Nat.le_refl _), Nat.sub_self] at g2'
        obtain rfl : q = q' := Option.some.inj g1
        obtain rfl : (kind, os) = y := Option.some.inj g2'
        exact ⟨p, by rw [upd_ne (Ne.symm hlq), upd_same], upd_same⟩
  · by_cases c : b = p
    · rw [c] at e ⊢
      rw [upd_same] at e
      rw [upd_ne (Ne.symm hlp), upd_ne (Ne.symm hqp), upd_same]; exact e
    · rw [upd_ne c] at e
      have hbq : b ≠ q := fun z => by rw [z, huq] at e; cases e
      have hbl : b ≠ a.pl := fun z => by rw [z, M.uu _ lm] at e; cases e
      rw [kk b c hbq hbl]; exact sU _ _ e
  · rw [upd_ne (fun z => h2 (by rw [z]; exact hp))]; exact h1
  · by_cases c : b = a.pl
    · rw [c, upd_same] at h; cases h
    · rw [upd_ne c] at h
      by_cases c2 : b = q
      · rw [c2]; exact hq
      · rw [upd_ne c2] at h
        by_cases c3 : b = p
        · rw [c3]; exact hp
        · rw [upd_ne c3] at h; exact h
  · exact kk b (fun z => h2 (by rw [z]; exact hp)) (fun z => h2 (by rw [z]; exact hq)) (fun z => h1 (z ▸ lm))
/-! ### texts in a list of texts -/
theorem inV_strs (n : Str) : ∀ ns : List Str, inV (.str n) (ns.map V.str) = decide (n ∈ ns)
  | [] => rfl
  | m :: r => by
    have e : inV (.str n) ((m :: r).map V.str) = (eqV (.str m) (.str n) || inV (.str n) (r.map V.str)) := rfl
    rw [e, inV_strs n r]
    have e2 : eqV (V.str m) (.str n) = decide (m = n) := by
      by_cases h : m = n
      · subst h; simp [eqV]
      · simp [eqV, h]
    rw [e2]
    by_cases h : m = n
    · subst h; rw [decide_eq_true rfl, Bool.true_or, decide_eq_true List.mem_cons_self]
    · rw [decide_eq_false h, Bool.false_or]
      congr 1
      exact propext ⟨fun z => List.mem_cons_of_mem _ z, fun z => (List.mem_cons.mp z).resolve_left fun y => h y.symm⟩
theorem flat_strs (ns : List Str) : (ns.map V.str).all flatV = true := by
  rw [List.all_map]; exact List.all_eq_true.mpr fun _ _ => rfl
/-! ### the law's own write -/
def sp__law_write (K : PySem.W.Frag) : Sp := fun vs H Q _ => ∃ (ml ob : Addr) (mas : List MA) (ss : List Src) (U : Hp) (n : Int) (kind : Str) (os : List Int) (i : Nat) (s : Src), vs = [.ref ml, .int n, .str kind, .ref ob] ∧ Same U H ∧ Md U H ml mas ss ∧ few ss ∧ ss[i]? = some s ∧ s.n = n ∧ (ss.map Src.n).Nodup ∧ (s.ps.map Prod.fst).Nodup ∧ U ob = some (.lst (os.map V.int)) ∧ os.length ≤ 40000 ∧ kind.length ≤ 1000 ∧
  (s.used = true → Q .non H) ∧
  (s.used = false → ∀ c wd, wrF ss s kind os = some (c, wd) → ∀ U' H' t, Pu U H U' H' → U' t = some (.tup [.int n, .int c, .str wd]) → Q (.ref t) H') ∧
  (s.used = false → wrF ss s kind os = none → ∀ U' H' mas', Chm U H U' H' ml mas → Md U' H' ml mas' (ss.set i { s with ps := putP s.ps kind os }) → Q .non H')
theorem sc__law_write : FnScope ["model", "number", "kind", "octets", "one", "fresh", "piece"] ["model", "number", "kind", "octets"] (defScope s__law_write) := ⟨rfl, rfl, rfl, by decide +kernel, rfl, by decide +kernel, by decide +kernel⟩
set_option maxHeartbeats 4000000 in
theorem ok__law_write (T : Txt0 P K mg A) : FnOk P w K mg base CX0 2 A.f_law_write A.d_law_write ["model", "number", "kind", "octets"] (sp__law_write K) := by
  refine T.F_law_write.ok sc__law_write (fun vs H Q E h => ?_) (fun cdv Ar outer st H vs Q E hr h => ?_)
  · obtain ⟨_, _, _, _, _, _, _, _, _, _, rfl, _⟩ := h
    rfl
  · obtain ⟨ml, ob, mas, ss, U, n, kind, os, i, s, rfl, sU, M, hf, hs, hn, nd, pk, eob, hol, hkl, q1, q2, q3⟩ := h
    replace q1 := Hid.mk q1
    replace q2 := Hid.mk q2
    replace q3 := Hid.mk q3
    refine ⟨_, (pss_cons (ps_for PassesOwn.never rfl (pi_list (pv 0)) (pg_name (i := 4) sc__law_write.nd rfl (Or.inl rfl))
      (pss_one (ps_if (PW.pt (pw_and (pt_cmpR op_eq (pe_ix (r := rIxL K) ix_list (pv 4) pe_int (fun _ _ => rfl)) (pv 1) (nomark _)) (pw_and1 (pt_not (pt_val (pe_ix (r := rIxL K) ix_list (pv 4) pe_int (fun _ _ => rfl)))))))
      (pss_cons (ps_if (pt_cmpR op_gt (pe_callB call_len_str (by rfl) T.len PySem.boot_len (pa_cons (pv 2) pa_nil)) pe_int (nomark _))
      (pss_one (ps_ret (pe_tup (pa_cons (pv 1) (pa_cons pe_int (pa_cons pe_str pa_nil))))))
      pss_nil)
      (pss_cons (ps_set (i := 5) sc__law_write.nd rfl (Or.inl rfl) (pe_cmpR op_notIn_seq (pv 2) (pe_lc (own := [("piece", 6)]) (g := (gName 6)) (tt := tYes) rfl sc__law_write.nd (pi_list (pe_ix (r := rIxL K) ix_list (pv 4) pe_int (fun _ _ => rfl))) (blkOk_by (own := [("piece", 6)]) (N := ["model", "number", "kind", "octets", "one", "fresh", "piece"]) (sc := defScope s__law_write) (by decide +kernel)) (fun _ _ _ _ _ => (pg_name (i := 6) sc__law_write.nd rfl (Or.inl rfl))) (fun _ _ _ _ _ => pts_nil) (fun _ _ _ _ _ => by exact (pe_ix (r := rIxL K) ix_list (pv 6) pe_int (fun _ _ => rfl)))) (by rfl)))
      (pss_cons (ps_if (PW.pt (pw_or (pt_cmpR op_gt (pe_op op_add (pe_call (ok__law_total T) (hr.mono (by decide)) rfl T.g_law_total T.k_law_total T.b_law_total .nil pass0 (pa_cons (pv 0) pa_nil)) (pe_callB call_len_seq (by rfl) T.len PySem.boot_len (pa_cons (pv 3) pa_nil))) pe_int (nomark _)) (pw_or1 (PW.pt (pw_and (pt_val (pv 5)) (pw_and1 (pt_cmpR op_ge (pe_callB call_len_seq (by rfl) T.len PySem.boot_len (pa_cons (pe_ix (r := rIxL K) ix_list (pv 4) pe_int (fun _ _ => rfl)) pa_nil)) pe_int (nomark _))))))))
      (pss_one (ps_ret (pe_tup (pa_cons (pv 1) (pa_cons pe_int (pa_cons pe_str pa_nil))))))
      pss_nil)
      (pss_one (ps_if (pt_val (pv 5))
      (pss_one (ps_expr (pe_bm PySem.F.plainAttrs_list PySem.F.slot_list_append PySem.F.type_list_append mt_append (pe_ix (r := rIxL K) ix_list (pv 4) pe_int (fun _ _ => rfl)) (pa_cons (pe_lst (pa_cons (pv 2) (pa_cons (pe_callTy call_list_of (by rfl) T.list (by decide +kernel) (pa_cons (pv 3) pa_nil)) pa_nil))) pa_nil))))
      (pss_one (ps_for PassesOwn.never rfl (pi_list (pe_ix (r := rIxL K) ix_list (pv 4) pe_int (fun _ _ => rfl))) (pg_name (i := 6) sc__law_write.nd rfl (Or.inl rfl))
      (pss_one (ps_if (pt_cmpR op_eq (pe_ix (r := rIxL K) ix_list (pv 6) pe_int (fun _ _ => rfl)) (pv 2) (nomark _))
      (pss_one (ps_asg (pe_op op_cat (pe_ix (r := rIxL K) ix_list (pv 6) pe_int (fun _ _ => rfl)) (pv 3)) (pg_sub (pv 6) pe_int set_list)))
      pss_nil)))))))))
      pss_nil)))
      (pss_one (ps_ret pe_non))), ?_⟩
    have hlen := M.len
    have hl100 := hf.1
    have his : i < ss.length := (List.getElem?_eq_some_iff.mp hs).1
    refine ⟨_, rfl, ml, rfl, ⟨_, SqL.of M.e⟩, for_list (K := K) (a := ml) (xs := mas.map fun a => V.ref a.o) (fun j σ H' => ∃ v4 v5 v6 : Option V, σ = [some (.ref ml), some (.int n), some (.str kind), some (.ref ob), v4, v5, v6] ∧ (((j ≤ i ∨ s.used = true) ∧ H' = H) ∨ (i < j ∧ s.used = false ∧ wrF ss s kind os = none ∧ ∃ U' mas', Chm U H U' H' ml mas ∧ mas'.map MA.o = mas.map MA.o ∧ Md U' H' ml mas' (ss.set i { s with ps := putP s.ps kind os })))) ⟨_, _, _, rfl, .inl ⟨.inl (Nat.zero_le _), rfl⟩⟩ (fun j σ H' _ hh => ?_) ?_ ?_⟩
    · obtain ⟨_, _, _, _, ⟨_, rfl⟩ | ⟨_, _, _, U', mas', c', em, M'⟩⟩ := hh
      · exact SqL.of M.e
      · have := M'.e
        rw [show (mas'.map fun a => V.ref a.o) = mas.map fun a => V.ref a.o from by
          rw [show (fun a : MA => V.ref a.o) = V.ref ∘ MA.o from rfl, ← List.map_map, ← List.map_map, em]] at this
        exact SqL.of this
    · rintro j v σ H1 hv ⟨v4, v5, v6, rfl, hst⟩
      rw [List.getElem?_map] at hv
      obtain ⟨a, ha, rfl⟩ := Option.map_eq_some_iff.mp hv
      have hjs : j < ss.length := by have := (List.getElem?_eq_some_iff.mp ha).1; omega
      have hj := List.getElem?_eq_getElem hjs
      generalize ss[j] = t at hj
      -- the entry's own list, whatever has been done
      obtain ⟨pl, e1, et⟩ : ∃ pl, H1 a.o = some (.lst [.int t.n, .ref pl, .bl t.used]) ∧ (H1 = H → pl = a.pl) := by
        rcases hst with ⟨_, rfl⟩ | ⟨hij, _, _, U', mas', c', em, M'⟩
        · exact ⟨a.pl, (M.io j a t ha hj).1, fun _ => rfl⟩
        · have hl' := M'.len
          rw [List.length_set] at hl'
          have ha' := List.getElem?_eq_getElem (l := mas') (i := j) (by omega)
          have hj' : (ss.set i { s with ps := putP s.ps kind os })[j]? = some t := by rw [List.getElem?_set_ne (by omega)]; exact hj
          have h1 := (M'.io j _ t ha' hj').1
          have ho : mas'[j].o = a.o := by
            have h2 : (mas'.map MA.o)[j]? = (mas.map MA.o)[j]? := by rw [em]
            rw [List.getElem?_map, List.getElem?_map, ha', ha] at h2
            exact Option.some.inj h2
          rw [ho] at h1
          by_cases c : H1 = H
          · subst c
            have := (M.io j a t ha hj).1
            exact ⟨a.pl, this, fun _ => rfl⟩
          · exact ⟨_, h1, fun z => absurd z c⟩
      walk_at "gf"
      refine iteEq (fun c => ?_) (fun c => ?_)
      · have ej : j = i := uniq_n nd hj hs (c.trans hn.symm)
        subst ej
        obtain rfl : t = s := Option.some.inj (hj.symm.trans hs)
        obtain ⟨_, rfl⟩ := hst.resolve_right (fun z => absurd z.1 (Nat.lt_irrefl _))
        obtain rfl := et rfl
        walk_at "gf"
        cases hu : t.used with
        | true =>
          refine if_f rfl ?_
          exact ⟨_, _, _, rfl, .inl ⟨.inr rfl, rfl⟩⟩
        | false =>
          refine if_t rfl ?_
          walk_at "gf"
          refine ⟨len_line (by omega), ?_⟩
          walk_at "gf"
          refine iteP (fun c1 => ?_) (fun c1 => ?_)
          · walk_at "gf"
            rename_i tq htq
            exact q2.go hu 3 "text too long" (by unfold wrF; rw [if_pos (by omega)]) _ _ tq (Pu.new sU htq) upd_same
          have c1' : ¬ 128 < kind.length := by omega
          obtain ⟨e1', e2, hql, hq⟩ := M.io j a t ha hj
          have hsl := (hf.2 t (List.mem_of_getElem? hj)).1
          walk_at "gf"
          refine ⟨⟨_, SqL.of e2⟩, fun D hD => ?_⟩
          refine lc_dp (walk_list (K := K) (a := a.pl) (xs := a.qs.map V.ref)) (K := K) (V0 := U) (H0 := H1) (fun m => (t.ps[m]?).map fun x => PyData.str x.1) _ rfl sU hD (by rw [List.length_map]; omega) (fun H' s => s.seq (SqL.of e2)) (fun i x H H' y => y.1) ?_ ?_
          · rintro m v V2 H2 hm x2 ⟨_, hv2⟩ Qy2 Qn2 hy2 _
            rw [List.getElem?_map] at hv2
            obtain ⟨qa, hqa, rfl⟩ := Option.map_eq_some_iff.mp hv2
            have hms : m < t.ps.length := by have := (List.getElem?_eq_some_iff.mp hqa).1; omega
            have hx := List.getElem?_eq_getElem hms
            generalize t.ps[m] = x at hx
            obtain ⟨b, e3, e4⟩ := hq m qa x hqa hx
            have e33 := x2.hh _ _ e3
            refine ⟨rfl, _, rfl, qa, _, _, .str x.1, rfl, rfl, SqL.of e33, atI_nat (j := 0) rfl, ?_⟩
            exact hy2 _ _ _ _ (by rw [hx]; rfl) (Ext.refl x2.vh) (.str _)
          rintro V2 H2 xs x2 eD2 da dl
          rw [List.length_map, hql, fm_map, show (t.ps.map fun x => PyData.str x.1) = (t.ps.map Prod.fst).map PyData.str from by rw [List.map_map]; rfl] at da
          have exs := dpall_strs da
          subst exs
          have P2 := x2.pu
          have M2 : Md V2 H2 ml mas ss := M.frame P2.vv (fun b hb hu _ => ⟨P2.out b hu hb, P2.kp b hb⟩)
          have eob2 := P2.vv _ _ eob
          refine ⟨D, _, rfl, .inl (SqL.of (P2.vh _ _ eD2)), rfl, flat_strs _, ?_⟩
          have hfr : (!inV (V.str kind) ((t.ps.map Prod.fst).map V.str)) = decide (pcFind t.ps kind = none) := by
            rw [inV_strs]
            by_cases c2 : kind ∈ t.ps.map Prod.fst
            · rw [decide_eq_true c2]
              obtain ⟨x, hx, rfl⟩ := List.mem_map.mp c2
              refine (decide_eq_false fun z => ?_).symm
              unfold pcFind at z
              have := List.find?_eq_none.mp (Option.map_eq_none_iff.mp z) x hx
              simp at this
            · rw [decide_eq_false c2]
              refine (decide_eq_true ?_).symm
              unfold pcFind
              rw [List.find?_eq_none.mpr fun x hx => by simpa using fun z => c2 (by rw [← z]; exact List.mem_map_of_mem hx)]
              rfl
          clear eD2 da dl x2 hD
          rw [if_pos rfl, hfr]
          have e12 := P2.vh _ _ (P2.vv _ _ eob)
          walk_at "gf"
          refine ⟨ml, mas, ss, V2, rfl, P2.vh, M2, hf, fun H3 k3 m3 => ?_⟩
          have s3 : Same V2 H3 := fun b u e => (k3 b (by rw [P2.vh _ _ e]; exact fun z => by cases z)).trans (P2.vh b u e)
          have M3 : Md V2 H3 ml mas ss := M2.frame (Same.refl _) (fun b hb hu _ => ⟨hu, k3 b hb⟩)
          have eob3 := s3 _ _ eob2
          have P3 : Pu U H1 V2 H3 := P2.trans ⟨Same.refl _, s3, fun _ h _ => h, m3, k3⟩
          obtain ⟨e13, e23, hql3, hq3⟩ := M3.io j a t ha hj
          walk_at "gf"
          rw [List.length_map]
          apply useR (C := 32768 < total ss + (os.length : Int) ∨ (pcFind t.ps kind = none ∧ 16 ≤ t.ps.length))
          · intro rr bb
            refine iteP (fun c2 => bb (.inl c2)) (fun c2 => ?_)
            walk_at "gf"
            refine if_b (fun hb => ?_) (fun hb => ?_)
            · have hb' := of_decide_eq_true hb
              walk_at "gf"
              rw [List.length_map, hql]
              exact iteP (fun c3 => bb (.inr ⟨hb', by omega⟩)) (fun c3 => rr (fun z => z.elim c2 (fun y => c3 (by omega))))
            · have hb' := of_decide_eq_false hb
              exact if_f rfl (rr (fun z => z.elim c2 (fun y => hb' y.1)))
          · intro hn
            have hw : wrF ss t kind os = none := by
              unfold wrF
              rw [if_neg c1', if_neg hn]
            walk_at "gf"
            refine if_b (fun hb => ?_) (fun hb => ?_)
            · have hp := of_decide_eq_true hb
              have eput : putP t.ps kind os = t.ps ++ [(kind, os)] := by unfold putP; rw [hp]
              rw [eput]
              walk_at "gf"
              refine fun p2 hp2 => ?_
              walk_at "gf"
              rename_i q hq2
              have hqp : q ≠ p2 := fun z => by rw [z, upd_same] at hq2; cases hq2
              rw [upd_ne hqp] at hq2
              obtain ⟨M6, C6⟩ := M3.fresh s3 ha hj (kind := kind) (os := os) hp2 hq2 hqp
              have em : (mas.set j { a with qs := a.qs ++ [q] }).map MA.o = mas.map MA.o := by
                rw [List.map_set]
                exact set_id (by rw [List.getElem?_map, ha]; rfl)
              have lm := Md.foot (ml := ml) ha (b := a.pl) (by unfold MA.all; simp)
              have hl1 : a.pl ≠ q := fun z => M3.new hq2 (z ▸ lm)
              have hl2 : a.pl ≠ p2 := fun z => M3.new hp2 (z ▸ lm)
              refine ⟨a.pl, _, _, rfl, rfl, (upd_ne hl1).trans ((upd_ne hl2).trans e23), lt_line (by rw [List.length_map]; omega), ?_⟩
              exact ⟨_, _, _, rfl, .inr ⟨by omega, rfl, hw, _, _, (P3.chm ml mas).trans C6, em, by rw [hu] at M6; exact M6⟩⟩
            · have hp := of_decide_eq_false hb
              obtain ⟨os0, hos⟩ : ∃ os0, pcFind t.ps kind = some os0 := by
                cases h : pcFind t.ps kind with
                | none => exact absurd h hp
                | some o => exact ⟨o, rfl⟩
              have eput : putP t.ps kind os = t.ps.map fun p => if p.1 = kind then (p.1, p.2 ++ os) else p := by unfold putP; rw [hos]
              rw [eput]
              walk_at "gf"
              refine ⟨⟨_, SqL.of e23⟩, for_list (K := K) (a := a.pl) (xs := a.qs.map V.ref) (fun m σ H' => ∃ (v6 : Option V) (U' : Hp), σ = [some (.ref ml), some (.int n), some (.str kind), some (.ref ob), some (.ref a.o), some (.bl (decide (pcFind t.ps kind = none))), v6] ∧ Chm V2 H3 U' H' ml mas ∧ Md U' H' ml mas (ss.set j { t with ps := (t.ps.take m).map (fun p => if p.1 = kind then (p.1, p.2 ++ os) else p) ++ t.ps.drop m })) ⟨_, V2, rfl, Chm.refl s3 ml mas, by rw [List.take_zero, List.drop_zero, List.map_nil, List.nil_append, set_id hj]; exact M3⟩ (fun m σ H' _ hh => ?_) ?_ ?_⟩
              · obtain ⟨_, U', _, _, M'⟩ := hh
                exact SqL.of (M'.io j a _ ha (List.getElem?_set_self hjs)).2.1
              · rintro m v σ H4 hv ⟨v6, U', rfl, C', M'⟩
                rw [List.getElem?_map] at hv
                obtain ⟨q, hqm, rfl⟩ := Option.map_eq_some_iff.mp hv
                have hmt : m < t.ps.length := by have := (List.getElem?_eq_some_iff.mp hqm).1; omega
                have hx := List.getElem?_eq_getElem hmt
                have hdr := List.getElem_cons_drop hmt
                generalize t.ps[m] = x at hx hdr
                have hs' := List.getElem?_set_self (l := ss) (a := ({ t with ps := (t.ps.take m).map (fun p => if p.1 = kind then (p.1, p.2 ++ os) else p) ++ t.ps.drop m } : Src)) hjs
                have hlt : ((t.ps.take m).map fun p => if p.1 = kind then (p.1, p.2 ++ os) else p).length = m := by rw [List.length_map, List.length_take]; omega
                have hx' : ((t.ps.take m).map (fun p => if p.1 = kind then (p.1, p.2 ++ os) else p) ++ t.ps.drop m)[m]? = some x := by
                  rw [List.getElem?_append_right (by omega), hlt, Nat.sub_self, ← hdr]; rfl
                obtain ⟨b, e3, e4⟩ := (M'.io j a _ ha hs').2.2.2 m q x hqm hx'
                have e4' := C'.vh _ _ e4
                have htk : t.ps.take (m + 1) = t.ps.take m ++ [x] := by
                  rw [List.take_succ, hx]; rfl
                walk_at "gf"
                refine iteStr (fun c => ?_) (fun c => ?_)
                · walk_at "gf"
                  have hxl := (hf.2 t (List.mem_of_getElem? hj)).2 x (List.mem_of_getElem? hx)
                  refine ⟨b, ob, _, _, rfl, rfl, e4', C'.vh _ _ (C'.vv _ _ eob2), len_line (by rw [List.length_map, List.length_map]; omega), fun p5 hp5 => ?_⟩
                  obtain ⟨M6, C6⟩ := M'.piece C'.vh ha hs' hqm hx' (os := x.2 ++ os) hp5
                  have hqp5 : q ≠ p5 := fun z => by rw [z, hp5] at e3; cases e3
                  walk_at "gf"
                  refine ⟨q, _, 1, 1, rfl, rfl, (upd_ne hqp5).trans e3, rfl, ?_⟩
                  rw [← List.map_append]
                  refine ⟨_, _, rfl, C'.trans C6, ?_⟩
                  have eps : ((t.ps.take m).map (fun p => if p.1 = kind then (p.1, p.2 ++ os) else p) ++ t.ps.drop m).set m (x.1, x.2 ++ os) = (t.ps.take (m + 1)).map (fun p => if p.1 = kind then (p.1, p.2 ++ os) else p) ++ t.ps.drop (m + 1) := by
                    rw [List.set_append_right _ _ (by omega), hlt, Nat.sub_self, ← hdr, List.set_cons_zero, htk, List.map_append, List.map_cons, List.map_nil, if_pos c, List.append_assoc]; rfl
                  rw [List.set_set] at M6
                  rw [← eps]
                  exact M6
                · refine ⟨_, U', rfl, C', ?_⟩
                  rw [htk, List.map_append, List.map_cons, List.map_nil, if_neg c, List.append_assoc, List.singleton_append, hdr]
                  exact M'
              · rintro σ H4 ⟨v6, U', rfl, C', M'⟩
                rw [List.length_map, hql, List.take_length, List.drop_length, List.append_nil] at M'
                exact ⟨_, _, _, rfl, .inr ⟨by omega, rfl, hw, _, _, (P3.chm ml mas).trans C', rfl, by rw [hu] at M'; exact M'⟩⟩
          · intro hc
            walk_at "gf"
            rename_i tq htq
            exact q2.go hu 2 "too much" (by unfold wrF; rw [if_neg c1', if_pos hc]) _ _ tq (P3.trans (Pu.new P3.vh htq)) upd_same
      · refine if_f rfl ?_
        refine ⟨_, _, _, rfl, ?_⟩
        rcases hst with ⟨h1, rfl⟩ | ⟨h1, h2, h3, h4⟩
        · refine .inl ⟨?_, rfl⟩
          rcases h1 with h1 | h1
          · refine .inl ?_
            have : j ≠ i := fun z => c (by subst z; rw [Option.some.inj (hj.symm.trans hs), hn])
            omega
          · exact .inr h1
        · exact .inr ⟨by omega, h2, h3, h4⟩
    · rintro σ H1 ⟨v4, v5, v6, rfl, hst⟩
      walk_at "gf"
      rcases hst with ⟨h1, rfl⟩ | ⟨_, h2, h3, U', mas', c', _, M'⟩
      · have hu : s.used = true := h1.resolve_left (by rw [List.length_map, hlen]; omega)
        exact q1.go hu
      · exact q3.go h2 h3 U' H1 mas' c' M'
/-! ### comprehensions that keep items -/
/-- a comprehension that keeps some of a list's items, whatever they are -/
theorem lc_keep {K : PySem.W.Frag} {a : Addr} {xs : List V} {α : Type} (zs : List α) (f : α → V) (p : α → Bool) {H0 : Hp} {D : Addr} {g : TG} {tt : TT} {te : TE} {vs : List Nat} {σ : St} {Qd : Hp → Prop} (σ0 : St) (hσ : wipe σ vs = σ0) (hD : H0 D = none) (e : H0 a = some (.lst xs)) (hx : xs = zs.map f) (hn : zs.length < 100000)
    (hs : ∀ (i : Nat) (z : α) (H : Hp), zs[i]? = some z → (∀ b, b ≠ D → H b = H0 b) → ∀ (Qy : VK) (Qn : Hp → Prop), (p z = true → Qy (f z) H) → (p z = false → Qn H) →
      g (f z) σ0 H fun σ2 H2 => wipe σ2 vs = σ0 ∧ tt σ2 H2 fun b H3 => if b = true then te σ2 H3 Qy else Qn H3)
    (hd : ∀ H, H D = some (.lst ((zs.filter p).map f)) → (∀ b, b ≠ D → H b = H0 b) → Qd H) :
    ∃ W : Nat → Nat → Hp → Prop, (∃ m, W 0 m (upd H0 D (.lst []))) ∧ ∀ i m H, W i m H →
      ((Itl K a).stop i H ∧ Qd H) ∨ ((Itl K a).go i H ∧ ∃ Nx : Hp → Prop, (∀ H', Nx H' → ∃ m', m' < m ∧ W (i + 1) m' H') ∧ ∀ x H', (Itl K a).yld i H x H' → g x (wipe σ vs) H' fun σ2 H2 => wipe σ2 vs = wipe σ vs ∧ tt σ2 H2 fun b H3 =>
        if b = true then te σ2 H3 fun y H4 => ∃ acc, H4 D = some (.lst acc) ∧ acc.length < sizeLine ∧ Nx (upd H4 D (.lst (acc ++ [y]))) else Nx H3) := by
  subst hσ
  have haD : a ≠ D := fun z => by rw [← z, e] at hD; cases hD
  refine lc_it (walk_list (K := K) (a := a) (xs := xs)) (fun i H => H D = some (.lst (((zs.take i).filter p).map f)) ∧ ∀ b, b ≠ D → H b = H0 b) ⟨upd_same, fun b hb => upd_ne hb⟩ (fun i H _ ⟨_, h⟩ => SqL.of ((h a haD).trans e)) (fun i x H H' hi ⟨h1, h2⟩ y => ?_) (fun H ⟨h1, h2⟩ => ?_)
  · obtain ⟨rfl, hy⟩ := y
    rw [hx, List.getElem?_map] at hy
    obtain ⟨z, hz, rfl⟩ := Option.map_eq_some_iff.mp hy
    have htk : zs.take (i + 1) = zs.take i ++ [z] := by
      obtain ⟨g1, g2⟩ := List.getElem?_eq_some_iff.mp hz
      rw [List.take_succ_eq_append_getElem g1, g2]
    refine hs i z H' hz h2 _ _ (fun hp => ⟨_, h1, ?_, ?_, fun b hb => (upd_ne hb).trans (h2 b hb)⟩) (fun hp => ⟨?_, h2⟩)
    · refine lt_line (Nat.lt_of_le_of_lt ?_ hn)
      rw [List.length_map]
      exact Nat.le_trans (List.length_filter_le _ _) (by rw [List.length_take]; omega)
    · rw [upd_same, htk, List.filter_append, List.filter_cons_of_pos hp, List.map_append]; rfl
    · rw [htk, List.filter_append, List.filter_cons_of_neg (by rw [hp]; exact fun z => by cases z), List.filter_nil, List.append_nil]; exact h1
  · rw [hx, List.length_map, List.take_length] at h1
    exact hd H h1 h2
/-! ### the shapes of goods -/
theorem sh_spend : Sh 4 spendD := (sh_tuple (n := 0) fun dd hdd => by
  rw [List.mem_singleton] at hdd
  rw [hdd]; exact sh_str (by decide +kernel)).mono (by decide)
theorem sh_goods {ps : List (Str × List Int)} (h : ∀ x ∈ ps, PyData.strOk x.1 = true) : Sh 3 (goodsD ps) := sh_list fun dd hdd => by
  obtain ⟨x, hx, rfl⟩ := List.mem_map.mp hdd
  exact sh_tuple fun e he => by
    simp only [List.mem_cons, List.not_mem_nil, or_false] at he
    rcases he with rfl | rfl
    · exact (sh_str (h x hx)).mono (by decide)
    · exact sh_ints _
theorem sh_gv {m : Str} {ps : List (Str × List Int)} {pr : Int} (h : ∀ x ∈ ps, PyData.strOk x.1 = true) : Sh 4 (gvD m ps pr) := by
  have hg := sh_goods h
  unfold gvD
  split
  · exact sh_tuple fun e he => by
      simp only [List.mem_cons, List.not_mem_nil, or_false] at he
      rcases he with rfl | rfl | rfl
      · exact (sh_str (by decide +kernel)).mono (by decide)
      · exact hg
      · exact (sh_bool _).mono (by decide)
  · exact sh_tuple fun e he => by
      simp only [List.mem_cons, List.not_mem_nil, or_false] at he
      rcases he with rfl | rfl
      · exact (sh_str (by decide +kernel)).mono (by decide)
      · exact hg
/-! ### the law's own give -/
theorem Ss.chm {A : Adr} {U H U' H' : Hp} {so sd ml : Addr} {as : List (Addr × Addr)} {mas : List MA} {ss ss2 : List Src} (S : Ss A U H so sd as ss) (M : Md U H ml mas ss2) (c : Chm U H U' H' ml mas) : Ss A U' H' so sd as ss :=
  S.frame c.vv fun b hb hu hf => ⟨c.out b hu hb, c.kp b (fun z => by
    obtain ⟨xs, e⟩ := M.lst z
    exact S.out e (fun k z => by cases z) (fun k f z => by cases z) hf) hb⟩
theorem Md.pu {U H U' H' : Hp} {ml : Addr} {mas : List MA} {ss : List Src} (M : Md U H ml mas ss) (p : Pu U H U' H') : Md U' H' ml mas ss := M.frame p.vv fun b hb hu _ => ⟨p.out b hu hb, p.kp b hb⟩
theorem Ss.pu {A : Adr} {U H U' H' : Hp} {so sd : Addr} {as : List (Addr × Addr)} {ss : List Src} (S : Ss A U H so sd as ss) (p : Pu U H U' H') : Ss A U' H' so sd as ss := S.frame p.vv fun b hb hu _ => ⟨p.out b hu hb, p.kp b hb⟩
theorem t_eqS {K : PySem.W.Frag} {x y : V} {H : Hp} {Q : VK} {d : PyData} (h1 : Dp K H x d) (h2 : Dp K H y d) (s1 : SeqAt.shaped d = true) (q : Q (.bl true) H) : rEqD K x y H Q := by
  have h3 : (d.canLay0 && decide (d.depth ≤ 64)) = true := s1
  have e : PyData.eqv d d = true := SeqAt.eqv_refl d (by rw [Bool.and_eq_true] at h3; exact h3.1)
  exact ⟨d, d, h1, h2, s1, s1, by rw [e]; exact q⟩
theorem sh_nil : Sh 1 (.list []) := sh_list (n := 0) (ds := []) fun _ h => by cases h
/-- an entry is marked as used -/
theorem Md.mark {U H : Hp} {ml : Addr} {mas : List MA} {ss : List Src} (M : Md U H ml mas ss) (sU : Same U H) {j : Nat} {a : MA} {s : Src} (ha : mas[j]? = some a) (hs : ss[j]? = some s) :
    Md U (upd H a.o (.lst [.int s.n, .ref a.pl, .bl true])) ml mas (ss.set j { s with used := true }) ∧ Chm U H U (upd H a.o (.lst [.int s.n, .ref a.pl, .bl true])) ml mas := by
  obtain ⟨e1, e2, hl, hqs⟩ := M.io j a s ha hs
  have oa : a.o ∈ a.all := by unfold MA.all; simp
  have om := Md.foot (ml := ml) ha oa
  obtain ⟨n1, n2, n3, n4⟩ := MA.nds (M.one ha)
  have kk : ∀ b, b ≠ a.o → (upd H a.o (.lst [.int s.n, .ref a.pl, .bl true])) b = H b := fun b h => upd_ne h
  refine ⟨?_, Same.refl U, fun b o e => ?_, fun b h _ => h, fun b h => ?_, fun b h1 _ => kk b (fun z => h1 (z ▸ om))⟩
  · have r := M.set (Same.refl U) (a' := a) (s' := { s with used := true }) (H' := upd H a.o (.lst [.int s.n, .ref a.pl, .bl true])) ha hs rfl (fun b h => .inl h) (M.one ha) (fun b hm hb => ⟨M.uu b hm, kk b (fun z => hb (z ▸ oa))⟩) (fun b hb => M.uu b (Md.foot ha hb)) ?_
    · rw [set_id ha] at r; exact r
    · refine ⟨upd_same, (kk _ n1.symm).trans e2, hl, fun k q y g1 g2 => ?_⟩
      obtain ⟨b, e3, e4⟩ := hqs k q y g1 g2
      exact ⟨b, (kk q (fun z => n2 (z ▸ List.mem_of_getElem? g1))).trans e3, e4⟩
  · exact (kk b (fun z => by rw [z, M.uu _ om] at e; cases e)).trans (sU b o e)
  · by_cases c : b = a.o
    · rw [c, upd_same] at h; cases h
    · rw [upd_ne c] at h; exact h
/-- what is kept of the entries under a number, used before -/
theorem used_len {mas : List MA} {ss : List Src} (hl : mas.length = ss.length) {i : Nat} {s : Src} (nd : (ss.map Src.n).Nodup) (hs : ss[i]? = some s) : (0 < ((mas.zip ss).filter fun z => decide (z.2.n = s.n) && z.2.used).length) ↔ s.used = true := by
  have hi : i < mas.length := by have := (List.getElem?_eq_some_iff.mp hs).1; omega
  constructor
  · intro h
    obtain ⟨z, hz⟩ := List.exists_mem_of_length_pos h
    obtain ⟨hz1, hz2⟩ := List.mem_filter.mp hz
    rw [Bool.and_eq_true, decide_eq_true_eq] at hz2
    obtain ⟨j, hj⟩ := List.getElem?_of_mem hz1
    rw [List.getElem?_zip_eq_some] at hj
    have := uniq_n nd hj.2 hs hz2.1
    subst this
    rw [← Option.some.inj (hj.2.symm.trans hs)]
    exact hz2.2
  · intro h
    refine List.length_pos_of_mem (a := (mas[i], s)) (List.mem_filter.mpr ⟨List.mem_of_getElem? (i := i) ?_, by simp [h]⟩)
    rw [List.getElem?_zip_eq_some]
    exact ⟨List.getElem?_eq_getElem hi, hs⟩
def sp__law_give (A : Adr) (K : PySem.W.Frag) : Sp := fun vs H Q _ => ∃ (h so sd ml : Addr) (n : Int) (as : List (Addr × Addr)) (mas : List MA) (ss : List Src) (U : Hp) (i : Nat) (s : Src), vs = [.ref h, .ref ml, .int n] ∧ HdS A U h so ∧ Same U H ∧ Ss A U H so sd as ss ∧ Md U H ml mas ss ∧ few ss ∧ (∀ s ∈ ss, ∀ x ∈ s.ps, PyData.strOk x.1 = true) ∧ ss[i]? = some s ∧ s.n = n ∧
  ∀ U' H', Same U U' → Same U' H' → Ss A U' H' so sd as (ss.set i { s with used := true }) → Md U' H' ml mas (ss.set i { s with used := true }) → Q (.bl true) H'
theorem sc__law_give : FnScope ["holdings", "model", "number", "used", "one", "due", "told"] ["holdings", "model", "number"] (defScope s__law_give) := ⟨rfl, rfl, rfl, by decide +kernel, rfl, by decide +kernel, by decide +kernel⟩
theorem ok__law_give (T : Txt0 P K mg A) : FnOk P w K mg base CX0 13 A.f_law_give A.d_law_give ["holdings", "model", "number"] (sp__law_give A K) := by
  refine T.F_law_give.ok sc__law_give (fun vs H Q E h => ?_) (fun cdv Ar outer st H vs Q E hr h => ?_)
  · obtain ⟨_, _, _, _, _, _, _, _, _, _, _, rfl, _⟩ := h
    rfl
  · obtain ⟨h, so, sd, ml, n, as, mas, ss, U, i, s, rfl, hd, sU, S, M, hf, hok, hs, hn, q⟩ := h
    replace q := Hid.mk q
    refine ⟨_, (pss_cons (ps_setLc (i := 3) (own := [("one", 4)]) (g := (gName 4)) rfl sc__law_give.nd rfl rfl (sw_true rfl rfl rfl (by decide +kernel)) (pi_list (pv 1)) (blkOk_by (own := [("one", 4)]) (N := ["holdings", "model", "number", "used", "one", "due", "told"]) (sc := defScope s__law_give) (by decide +kernel)) (fun _ _ _ _ _ => (pg_name (i := 4) sc__law_give.nd rfl (Or.inl rfl))) (fun _ _ _ _ _ => (pts_one (PW.pt (pw_and (pt_cmpR op_eq (pe_ix (r := rIxL K) ix_list (pv 4) pe_int (fun _ _ => rfl)) (pv 2) (nomark _)) (pw_and1 (pt_val (pe_ix (r := rIxL K) ix_list (pv 4) pe_int (fun _ _ => rfl)))))))) (fun _ _ _ _ _ => by exact (pv 4)))
      (pss_cons (ps_set (i := 5) sc__law_give.nd rfl (Or.inl rfl) (pe_lst (pa_cons (pe_tup (pa_cons pe_str pa_nil)) (pa_cons (pe_tup (pa_cons pe_str (pa_cons (pe_call (ok__law_goods T) (hr.mono (by decide)) rfl T.g_law_goods T.k_law_goods T.b_law_goods .nil pass0 (pa_cons (pv 1) (pa_cons (pv 2) pa_nil))) (pa_cons pe_bl pa_nil)))) pa_nil))))
      (pss_cons (ps_for PassesOwn.never rfl (pi_list (pv 1)) (pg_name (i := 4) sc__law_give.nd rfl (Or.inl rfl))
      (pss_one (ps_if (pt_cmpR op_eq (pe_ix (r := rIxL K) ix_list (pv 4) pe_int (fun _ _ => rfl)) (pv 2) (nomark _))
      (pss_one (ps_asg pe_bl (pg_sub (pv 4) pe_int set_list)))
      pss_nil)))
      (C8.pss_cut (ps_set (i := 6) sc__law_give.nd rfl (Or.inl rfl) (pe_call (ok__law_serve T) (hr.mono (by decide)) rfl T.g_law_serve T.k_law_serve T.b_law_serve .nil pass0 (pa_cons (pv 0) (pa_cons (pe_tup (pa_cons pe_int (pa_cons pe_str (pa_cons pe_str (pa_cons (pe_lst (pa_cons (pv 2) (pa_cons pe_int (pa_cons pe_int pa_nil)))) pa_nil))))) (pa_cons pe_int (pa_cons pe_bl (pa_cons pe_bl pa_nil)))))))
      (pss_cons (ps_if (pt_cmpR op_isN (pe_ix (r := rIxT K) ix_tup (pv 6) pe_int (fun _ _ => rfl)) pe_non (nomark _))
      (pss_one (ps_ret pe_bl))
      pss_nil)
      (pss_cons (ps_if (pt_cmpR op_gt (pe_callB call_len_seq (by rfl) T.len PySem.boot_len (pa_cons (pv 3) pa_nil)) pe_int (nomark _))
      (pss_one (ps_ret (pe_and (pe_cmpR (op_eqD hr.units) (pe_fld (pe_ix (r := rIxT K) ix_tup (pv 6) pe_int (fun _ _ => rfl)) rfl) (pe_lst pa_nil) (nomark _)) (pe_one (pe_cmpR (op_eqD hr.units) (pe_fld (pe_ix (r := rIxT K) ix_tup (pv 6) pe_int (fun _ _ => rfl)) rfl) (pe_lst pa_nil) (nomark _))))))
      pss_nil)
      (pss_one (ps_ret (pe_and (pe_cmpR (op_eqD hr.units) (pe_fld (pe_ix (r := rIxT K) ix_tup (pv 6) pe_int (fun _ _ => rfl)) rfl) (pv 5) (nomark _)) (pe_one (pe_cmpR (op_eqD hr.units) (pe_fld (pe_ix (r := rIxT K) ix_tup (pv 6) pe_int (fun _ _ => rfl)) rfl) (pe_lst pa_nil) (nomark _)))))))))))), ?_⟩
    have hlen := M.len
    have hl100 := hf.1
    subst hn
    refine ⟨_, rfl, ml, rfl, ⟨_, SqL.of M.e⟩, fun D hD => ?_⟩
    have npD := M.new hD
    refine lc_keep (K := K) (a := ml) (mas.zip ss) (fun z => V.ref z.1.o) (fun z => decide (z.2.n = s.n) && z.2.used) _ rfl hD M.e ?_ (by rw [List.length_zip]; omega) ?_ ?_
    · rw [show (fun z : MA × Src => V.ref z.1.o) = (fun a : MA => V.ref a.o) ∘ Prod.fst from rfl, ← List.map_map, List.map_fst_zip (by omega)]
    · rintro j ⟨a, t⟩ H1 hz k1 Qy Qn hy hno
      rw [List.getElem?_zip_eq_some] at hz
      obtain ⟨e1, _⟩ := M.io j a t hz.1 hz.2
      have e11 : H1 a.o = _ := (k1 a.o (fun z => by rw [z, hD] at e1; cases e1)).trans e1
      walk_at "gf"
      refine iteEq (fun c => ?_) (fun c => ?_)
      · refine ⟨_, rfl, a.o, _, _, .bl t.used, rfl, rfl, SqL.of e11, atI_nat (j := 2) rfl, t.used, rfl, ?_⟩
        cases hu : t.used with
        | true => exact if_t rfl (⟨_, rfl, hy (by show (decide (t.n = s.n) && t.used) = true; rw [hu, decide_eq_true c]; rfl)⟩)
        | false => exact if_f rfl (hno (by show (decide (t.n = s.n) && t.used) = false; rw [hu, Bool.and_false]))
      · exact if_f rfl (hno (by show (decide (t.n = s.n) && t.used) = false; rw [decide_eq_false c, Bool.false_and]))
    · intro H1 eD k1
      have P1 : Pu U H U H1 := ⟨Same.refl _, fun b u e => (k1 b (fun z => by rw [z] at e; have := sU _ _ e; rw [hD] at this; cases this)).trans (sU b u e), fun _ h _ => h, fun b hb => by
        by_cases c : b = D
        · rw [c]; exact hD
        · rw [← k1 b c]; exact hb, fun b hb => k1 b (fun z => hb (by rw [z]; exact hD))⟩
      have S1 := S.pu P1
      have M1 := M.pu P1
      walk_at "gf"
      rename_i p1 hp1
      have P2 := Pu.new (o := .tup [.str "spend"]) P1.vh hp1
      have S2 := S1.pu P2
      have M2 := M1.pu P2
      have eD2 := (P2.kp D (by rw [eD]; exact fun z => by cases z)).trans eD
      have d1 : Dp K (upd U p1 (.tup [.str "spend"])) (.ref p1) spendD := .tup (SqT.of upd_same) (.cons (.str _) .nil)
      have vU2 := P1.vv.trans P2.vv
      generalize upd U p1 (.tup [.str "spend"]) = U2 at P2 S2 M2 d1 vU2 ⊢
      generalize upd H1 p1 (.tup [.str "spend"]) = H2 at P2 S2 M2 eD2 ⊢
      refine ⟨ml, mas, ss, U2, s.n, i, s, rfl, P2.vh, M2, hf, hs, rfl, S.nd, fun U3 H3 pg P3 dg => ?_⟩
      have S3 := S2.pu P3
      have M3 := M2.pu P3
      have eD3 := (P3.kp D (by rw [eD2]; exact fun z => by cases z)).trans eD2
      have d1' := d1.to P3.vv
      have vU3 := vU2.trans P3.vv
      have P3h := P3.vh
      clear P2 P3 S2 M2 hp1 S1 M1 P1 eD2 d1 vU2
      walk_at "gf"
      rename_i p2 hp2 p3 hp3
      have P4 := Pu.new (o := .tup [.str "give", .ref pg, .bl true]) P3h hp2
      have P5 := P4.trans (Pu.new (o := .lst [.ref p1, .ref p2]) P4.vh hp3)
      have S5 := S3.pu P5
      have M5 := M3.pu P5
      have eD5 := (P5.kp D (by rw [eD3]; exact fun z => by cases z)).trans eD3
      have dg4 := dg.to P4.vv
      have e23 : (upd (upd U3 p2 (.tup [.str "give", .ref pg, .bl true])) p3 (.lst [.ref p1, .ref p2])) p2 = some (.tup [.str "give", .ref pg, .bl true]) := (upd_ne (fun z => by rw [← z, upd_same] at hp3; cases hp3)).trans upd_same
      have dd : Dp K (upd (upd U3 p2 (.tup [.str "give", .ref pg, .bl true])) p3 (.lst [.ref p1, .ref p2])) (.ref p3) (.list [spendD, gvD (Str.ofString "give") s.ps 1]) := .lst (SqL.of upd_same) (.cons (d1'.to P5.vv) (.cons (by
        unfold gvD
        rw [if_pos rfl]
        exact .tup (SqT.of e23) (.cons (.str _) (.cons (dg.to P5.vv) (.cons (.bl true) .nil)))) .nil))
      have vU5 := vU3.trans P5.vv
      have s5 := P5.vh
      generalize upd (upd U3 p2 (.tup [.str "give", .ref pg, .bl true])) p3 (.lst [.ref p1, .ref p2]) = U5 at P5 S5 M5 dd vU5 s5
      generalize upd (upd H3 p2 (.tup [.str "give", .ref pg, .bl true])) p3 (.lst [.ref p1, .ref p2]) = H5 at P5 S5 M5 eD5 s5 ⊢
      clear P4 P5 hp2 hp3 dg dg4 e23 S3 M3 eD3 d1' vU3 P3h
      refine ⟨⟨_, SqL.of M5.e⟩, for_list (K := K) (a := ml) (xs := mas.map fun a => V.ref a.o) (fun j σ H' => ∃ (v4 v6 : Option V) (ss' : List Src), σ = [some (.ref h), some (.ref ml), some (.int s.n), some (.ref D), v4, some (.ref p3), v6] ∧ Md U5 H' ml mas ss' ∧ Chm U5 H5 U5 H' ml mas ∧ ((j ≤ i ∧ ss' = ss) ∨ (i < j ∧ ss' = ss.set i { s with used := true }))) ⟨_, _, ss, rfl, M5, Chm.refl s5 ml mas, .inl ⟨Nat.zero_le _, rfl⟩⟩ (fun j σ H' _ hh => ?_) ?_ ?_⟩
      · obtain ⟨_, _, _, _, M', _⟩ := hh
        exact SqL.of M'.e
      · rintro j v σ H6 hv ⟨v4, v6, ss', rfl, M6, C6, hss⟩
        rw [List.getElem?_map] at hv
        obtain ⟨a, ha, rfl⟩ := Option.map_eq_some_iff.mp hv
        have hjs : j < ss.length := by have := (List.getElem?_eq_some_iff.mp ha).1; omega
        have hj := List.getElem?_eq_getElem hjs
        generalize ss[j] = t at hj
        have hj' : ss'[j]? = some t := by
          rcases hss with ⟨_, rfl⟩ | ⟨hij, rfl⟩
          · exact hj
          · rw [List.getElem?_set_ne (by omega)]; exact hj
        obtain ⟨e1, _⟩ := M6.io j a t ha hj'
        walk_at "gf"
        refine iteEq (fun c => ?_) (fun c => ?_)
        · have ej : j = i := uniq_n S.nd hj hs c
          subst ej
          obtain rfl : t = s := Option.some.inj (hj.symm.trans hs)
          obtain ⟨_, rfl⟩ := hss.resolve_right (fun z => absurd z.1 (Nat.lt_irrefl _))
          walk_at "gf"
          obtain ⟨M7, C7⟩ := M6.mark C6.vh ha hj
          refine ⟨a.o, _, 2, 2, rfl, rfl, e1, rfl, ?_⟩
          exact ⟨_, _, _, rfl, M7, C6.trans C7, .inr ⟨by omega, rfl⟩⟩
        · walk_at "gf"
          refine ⟨_, _, ss', rfl, M6, C6, ?_⟩
          rcases hss with ⟨h1, h2⟩ | ⟨h1, h2⟩
          · have : j ≠ i := fun z => c (by subst z; rw [Option.some.inj (hj.symm.trans hs)])
            exact .inl ⟨by omega, h2⟩
          · exact .inr ⟨by omega, h2⟩
      · rintro σ H6 ⟨v4, v6, ss', rfl, M6, C6, hss⟩
        obtain ⟨_, rfl⟩ := hss.resolve_left (fun z => by have := z.1; rw [List.length_map, hlen] at this; have := (List.getElem?_eq_some_iff.mp hs).1; omega)
        have S6 := S5.chm M5 C6
        have eD6 := (C6.kp D npD (by rw [eD5]; exact fun z => by cases z)).trans eD5
        have s6 := C6.vh
        clear C6 S5 M5 eD5 s5
        have hdU : HdS A U5 h so := hd.to vU5
        refine ⟨fun σ' H9 => ∃ (U9 : Hp) (p9 o lt le lw : Addr) (ws : List PyData), σ' = [some (.ref h), some (.ref ml), some (.int s.n), some (.ref D), v4, some (.ref p3), some (.ref p9)] ∧ Same U5 U9 ∧ Same U9 H9 ∧ Ss A U9 H9 so sd as (ss.set i { s with used := true }) ∧ Md U9 H9 ml mas (ss.set i { s with used := true }) ∧ Rp A.CReply K U9 H9 o lt le lw [] [] ws ∧ U9 p9 = some (.tup [.ref o, .non]) ∧ H9 D = some (.lst (((mas.zip ss).filter fun z => decide (z.2.n = s.n) && z.2.used).map fun z => V.ref z.1.o)) ∧ ((s.used = true ∧ ws = []) ∨ (s.used = false ∧ ws = [spendD, gvD (Str.ofString "give") s.ps 1])), ?_, ?_⟩
        · walk_at "gf"
          rename_i la hla pt hpt
          have P7 := Pu.skip (o := .lst [.int s.n, .int 7, .int 1]) s6 hla
          have P8 := P7.trans (Pu.skip (o := .tup [.int 3, .str "transfer", .str "give", .ref la]) P7.vh hpt)
          have ela : (upd (upd H6 la (.lst [.int s.n, .int 7, .int 1])) pt (.tup [.int 3, .str "transfer", .str "give", .ref la])) la = some (.lst [.int s.n, .int 7, .int 1]) := (upd_ne (fun z => by rw [← z, upd_same] at hpt; cases hpt)).trans upd_same
          have ept : (upd (upd H6 la (.lst [.int s.n, .int 7, .int 1])) pt (.tup [.int 3, .str "transfer", .str "give", .ref la])) pt = some (.tup [.int 3, .str "transfer", .str "give", .ref la]) := upd_same
          have S8 := S6.pu P8
          have M8 := M6.pu P8
          have eD8 := (P8.kp D (by rw [eD6]; exact fun z => by cases z)).trans eD6
          have s8 := P8.vh
          generalize upd (upd H6 la (.lst [.int s.n, .int 7, .int 1])) pt (.tup [.int 3, .str "transfer", .str "give", .ref la]) = H8 at S8 M8 eD8 ela ept s8 ⊢
          clear P7 P8 hla hpt S6 M6 eD6 s6
          walk_at "nl"
          have hpl : i < as.length := by have := S8.len; have := (List.getElem?_eq_some_iff.mp hs).1; omega
          have hp := List.getElem?_eq_getElem hpl
          generalize as[i] = pp at hp
          have hDf : ¬ foot sd as D := S8.out eD8 (fun k z => by cases z) (fun k f z => by cases z)
          refine ⟨h, so, sd, pt, la, 3, "transfer", "give", .int 7, false, false, _, as, ss, U5, rfl, hdU, s8, S8, by omega, hf.2, ept, by decide +kernel, ela, .inr (.inr (.inl ⟨rfl, .inl rfl, s.n, 7, 1, [.int 1], i, pp, s, rfl, by decide, fun _ => rfl, .inr ⟨7, rfl⟩, hp, hs, rfl, fun hno U9 H9 p9 o lt le lw C9 S9 _ _ _ _ R9 ep9 => ?_, fun hyes U9 H9 p9 o lt le lw C9 S9 _ _ _ _ R9 ep9 => ?_⟩))⟩
          · have hu : s.used = true := by
              cases hu : s.used with
              | true => rfl
              | false => exact absurd ⟨rfl, hu, .inl rfl⟩ hno
            have es : ss.set i { s with used := true } = ss := set_id (by rw [hs, ← hu])
            have M9 := M8.chf S8 C9
            exact ⟨U9, _, _, _, _, _, _, rfl, C9.vv, C9.vh, by rw [es]; exact S9, M9, R9, ep9, (C9.kp D hDf (by rw [eD8]; exact fun z => by cases z)).trans eD8, .inl ⟨hu, rfl⟩⟩
          · exact ⟨U9, _, _, _, _, _, _, rfl, C9.vv, C9.vh, S9, M8.chf S8 C9, R9, ep9, (C9.kp D hDf (by rw [eD8]; exact fun z => by cases z)).trans eD8, .inr ⟨hyes.2.1, rfl⟩⟩
        · clear S6 M6 eD6 s6
          rintro σ' H9 ⟨U9, p9, o, lt, le, lw, ws, rfl, v9, s9, S9, M9, R9, ep9, eD9, hws⟩
          have dd9 := dd.to v9
          have ep9H := s9 _ _ ep9
          obtain ⟨dxo, wa, eo⟩ := R9.ob
          obtain ⟨yt, elt, dlt⟩ := R9.t
          have eyt : yt = [] := by cases dlt; rfl
          subst eyt
          obtain ⟨yw, elw, dlw⟩ := R9.w
          walk_at "gf"
          have hul := used_len hlen S.nd hs
          have eoH := eo
          refine iteP (fun c => ?_) (fun c => ?_)
          · have hu : s.used = true := hul.mp (by rw [List.length_map] at c; omega)
            obtain rfl : ws = [] := hws.elim (fun z => z.2) (fun z => by rw [hu] at z; cases z.1)
            obtain rfl : yw = [] := by cases dlw; rfl
            walk_at "gf"
            refine ⟨o, A.CReply, dxo, _, _, rfl, eo, T.clReply, T.nReply_wishes, by walk_at "lk", ?_⟩
            walk_at "gf"
            rename_i pn hpn
            have P10 := Pu.skip (o := .lst []) s9 hpn
            refine t_eqS (.lst (ds := []) (SqL.of ((P10.kp lw (by rw [elw]; exact fun z => by cases z)).trans elw)) .nil) (.lst (ds := []) (SqL.of upd_same) .nil) sh_nil.shaped ⟨_, rfl, if_t rfl ?_⟩
            have S10 := S9.pu P10
            have M10 := M9.pu P10
            have elt10 := (P10.kp lt (by rw [elt]; exact fun z => by cases z)).trans elt
            have eo10 := (P10.kp o (by rw [eo]; exact fun z => by cases z)).trans eo
            have ep10 := P10.vh _ _ ep9
            have s10 := P10.vh
            generalize upd H9 pn (.lst []) = H10 at S10 M10 elt10 ep10 s10 eo10 ⊢
            clear P10 hpn elt elw
            walk_at "gf"
            refine ⟨o, A.CReply, dxo, _, _, rfl, eo10, T.clReply, T.nReply_told, by walk_at "lk", ?_⟩
            walk_at "gf"
            rename_i pn hpn
            have P11 := Pu.skip (o := .lst []) s10 hpn
            refine t_eqS (.lst (ds := []) (SqL.of ((P11.kp lt (by rw [elt10]; exact fun z => by cases z)).trans elt10)) .nil) (.lst (ds := []) (SqL.of upd_same) .nil) sh_nil.shaped ?_
            exact q.go U9 _ (vU5.trans v9) P11.vh (S10.pu P11) (M10.pu P11)
          · have hu : s.used = false := by
              cases hu : s.used with
              | false => rfl
              | true => exact absurd (hul.mpr hu) (by rw [List.length_map] at c; omega)
            obtain rfl : ws = [spendD, gvD (Str.ofString "give") s.ps 1] := hws.elim (fun z => by rw [hu] at z; cases z.1) (fun z => z.2)
            walk_at "gf"
            refine ⟨o, A.CReply, dxo, _, _, rfl, eo, T.clReply, T.nReply_wishes, by walk_at "lk", ?_⟩
            walk_at "gf"
            have hsh : Sh 5 (.list [spendD, gvD (Str.ofString "give") s.ps 1]) := sh_list fun dd hdd => by
              simp only [List.mem_cons, List.not_mem_nil, or_false] at hdd
              rcases hdd with rfl | rfl
              · exact sh_spend
              · exact sh_gv (hok s (List.mem_of_getElem? hs))
            refine t_eqS (.lst (SqL.of elw) (dlw.to s9)) (dd9.to s9) hsh.shaped ⟨_, rfl, if_t rfl ?_⟩
            walk_at "gf"
            refine ⟨o, A.CReply, dxo, _, _, rfl, eo, T.clReply, T.nReply_told, by walk_at "lk", ?_⟩
            walk_at "gf"
            rename_i pn hpn
            have P11 := Pu.skip (o := .lst []) s9 hpn
            refine t_eqS (.lst (ds := []) (SqL.of ((P11.kp lt (by rw [elt]; exact fun z => by cases z)).trans elt)) .nil) (.lst (ds := []) (SqL.of upd_same) .nil) sh_nil.shaped ?_
            exact q.go U9 _ (vU5.trans v9) P11.vh (S9.pu P11) (M9.pu P11)
/-! ### the law's own list: an entry comes on, entries go -/
theorem zf_snd {α : Type} (f : Src → Bool) : ∀ {as : List α} {ss : List Src}, as.length = ss.length → ((as.zip ss).filter fun z => f z.2).map Prod.snd = ss.filter f
  | [], [], _ => rfl
  | a :: as, s :: ss, h => by
    have ih := zf_snd f (as := as) (ss := ss) (by simpa using h)
    rw [List.zip_cons_cons]
    by_cases c : f s = true
    · rw [List.filter_cons_of_pos (by exact c), List.filter_cons_of_pos c, List.map_cons, ih]
    · rw [List.filter_cons_of_neg (by exact c), List.filter_cons_of_neg c, ih]
  | [], _ :: _, h => by cases h
  | _ :: _, [], h => by cases h
theorem zf_len {α : Type} (f : Src → Bool) {as : List α} {ss : List Src} (h : as.length = ss.length) : ((as.zip ss).filter fun z => f z.2).length = (ss.filter f).length := by
  rw [← zf_snd f h, List.length_map]
theorem sub_flat {α β : Type} {f : α → List β} : ∀ {l m : List α}, l.Sublist m → (l.flatMap f).Sublist (m.flatMap f) := by
  intro l m h
  induction h with
  | slnil => exact .slnil
  | cons a _ ih => rw [List.flatMap_cons]; exact ih.trans (List.sublist_append_right _ _)
  | cons_cons a _ ih => rw [List.flatMap_cons, List.flatMap_cons]; exact (List.Sublist.refl _).append ih
theorem Md.push {U H : Hp} {ml : Addr} {mas : List MA} {ss : List Src} (M : Md U H ml mas ss) (sU : Same U H) (n : Int) {p o : Addr} (hp : H p = none) (ho : H o = none) (hop : o ≠ p) :
    Md U (upd (upd (upd H p (.lst [])) o (.lst [.int n, .ref p, .bl false])) ml (.lst ((mas.map fun a => V.ref a.o) ++ [.ref o]))) ml (mas ++ [⟨o, p, []⟩]) (ss ++ [⟨n, false, []⟩]) ∧ Chm U H U (upd (upd (upd H p (.lst [])) o (.lst [.int n, .ref p, .bl false])) ml (.lst ((mas.map fun a => V.ref a.o) ++ [.ref o]))) ml mas := by
  have np := M.new hp
  have no := M.new ho
  have lm : mfoot ml mas ml := .inl rfl
  have hlp : ml ≠ p := fun z => np (z ▸ lm)
  have hlo : ml ≠ o := fun z => no (z ▸ lm)
  have up : U p = none := sU.free hp
  have uo : U o = none := sU.free ho
  have kk : ∀ b, b ≠ p → b ≠ o → b ≠ ml → (upd (upd (upd H p (.lst [])) o (.lst [.int n, .ref p, .bl false])) ml (.lst ((mas.map fun a => V.ref a.o) ++ [.ref o]))) b = H b := fun b h1 h2 h3 => by rw [upd_ne h3, upd_ne h2, upd_ne h1]
  have nml := (List.nodup_cons.mp M.nd).1
  have ndl := (List.nodup_cons.mp M.nd).2
  have fl : ∀ b ∈ mas.flatMap MA.all, mfoot ml mas b := fun b hb => .inr hb
  refine ⟨⟨by rw [List.map_append]; exact upd_same, by rw [List.length_append, List.length_append, M.len]; rfl, ?_, fun b hb => ?_, fun i a s h1 h2 => ?_⟩, Same.refl U, fun b u e => ?_, fun b h _ => h, fun b h => ?_, fun b h1 h2 => ?_⟩
  · rw [List.flatMap_append, List.flatMap_cons, List.flatMap_nil, List.append_nil]
    show (ml :: (mas.flatMap MA.all ++ [o, p])).Nodup
    rw [List.nodup_cons, List.nodup_append]
    refine ⟨fun z => ?_, ndl, by simp [hop], fun x hx y hy e => ?_⟩
    · rcases List.mem_append.mp z with z | z
      · exact nml z
      · simp only [List.mem_cons, List.not_mem_nil, or_false] at z
        exact z.elim hlo hlp
    · simp only [List.mem_cons, List.not_mem_nil, or_false] at hy
      subst e
      rcases hy with rfl | rfl
      · exact no (fl _ hx)
      · exact np (fl _ hx)
  · rcases hb with rfl | hb
    · exact M.uu _ lm
    · rw [List.flatMap_append, List.flatMap_cons, List.flatMap_nil, List.append_nil] at hb
      rcases List.mem_append.mp hb with hb | hb
      · exact M.uu b (fl b hb)
      · have hb' : b ∈ [o, p] := hb
        simp only [List.mem_cons, List.not_mem_nil, or_false] at hb'
        rcases hb' with rfl | rfl
        · exact uo
        · exact up
  · by_cases c : i < mas.length
    · rw [List.getElem?_append_left c] at h1
      rw [List.getElem?_append_left (by have := M.len; omega)] at h2
      refine (M.io i a s h1 h2).keep (Same.refl U) fun b hb => ?_
      have hf := fl b (List.mem_flatMap.mpr ⟨a, List.mem_of_getElem? h1, hb⟩)
      exact kk b (fun z => np (z ▸ hf)) (fun z => no (z ▸ hf)) (fun z => nml (by rw [← z]; exact List.mem_flatMap.mpr ⟨a, List.mem_of_getElem? h1, hb⟩))
    · have hi : i = mas.length := by
        have := (List.getElem?_eq_some_iff.mp h1).1
        rw [List.length_append] at this
        have h3 : [(⟨o, p, []⟩ : MA)].length = 1 := rfl
        omega
      subst hi
      rw [List.getElem?_append_right (Nat.le_refl _), Nat.sub_self] at h1
      rw [M.len, List.getElem?_append_right (Nat.le_refl _), Nat.sub_self] at h2
      obtain rfl : (⟨o, p, []⟩ : MA) = a := Option.some.inj h1
      obtain rfl : (⟨n, false, []⟩ : Src) = s := Option.some.inj h2
      refine ⟨by rw [upd_ne (Ne.symm hlo), upd_same], by rw [upd_ne (Ne.symm hlp), upd_ne (Ne.symm hop), upd_same]; rfl, rfl, fun j q x g1 _ => by cases g1⟩
  · have h1 : b ≠ p := fun z => by rw [z, up] at e; cases e
    have h2 : b ≠ o := fun z => by rw [z, uo] at e; cases e
    have h3 : b ≠ ml := fun z => by rw [z, M.uu _ lm] at e; cases e
    exact (kk b h1 h2 h3).trans (sU b u e)
  · by_cases c : b = ml
    · rw [c, upd_same] at h; cases h
    · rw [upd_ne c] at h
      by_cases c2 : b = o
      · rw [c2]; exact ho
      · rw [upd_ne c2] at h
        by_cases c3 : b = p
        · rw [c3]; exact hp
        · rw [upd_ne c3] at h; exact h
  · exact kk b (fun z => h2 (by rw [z]; exact hp)) (fun z => h2 (by rw [z]; exact ho)) (fun z => h1 (z ▸ lm))
def dropM (mas : List MA) (ss : List Src) (n : Int) : List MA := ((mas.zip ss).filter fun z => decide (z.2.n ≠ n)).map Prod.fst
theorem Md.drop {U H H' : Hp} {ml : Addr} {mas : List MA} {ss : List Src} (M : Md U H ml mas ss) (sU : Same U H) (n : Int) {D : Addr} (hD : H D = none) (e : H' D = some (.lst (((mas.zip ss).filter fun z => decide (z.2.n ≠ n)).map fun z => V.ref z.1.o))) (k : ∀ b, b ≠ D → H' b = H b) : Md U H' D (dropM mas ss n) (dropS ss n) := by
  have hS : dropS ss n = ((mas.zip ss).filter fun z => decide (z.2.n ≠ n)).map Prod.snd := (zf_snd (fun s => decide (s.n ≠ n)) M.len).symm
  have sub : (dropM mas ss n).Sublist mas := by
    have := (List.filter_sublist (p := fun z : MA × Src => decide (z.2.n ≠ n)) (l := mas.zip ss)).map Prod.fst
    rwa [List.map_fst_zip (by have := M.len; omega)] at this
  have fsub := sub_flat (f := MA.all) sub
  have nD := M.new hD
  have ff : ∀ b ∈ (dropM mas ss n).flatMap MA.all, mfoot ml mas b := fun b hb => .inr (fsub.subset hb)
  refine ⟨by rw [e]; unfold dropM; rw [List.map_map]; rfl, by rw [hS]; unfold dropM; rw [List.length_map, List.length_map], ?_, fun b hb => ?_, fun i a s h1 h2 => ?_⟩
  · rw [List.nodup_cons]
    exact ⟨fun z => nD (ff D z), fsub.nodup (List.nodup_cons.mp M.nd).2⟩
  · rcases hb with rfl | hb
    · exact sU.free hD
    · exact M.uu b (ff b hb)
  · rw [hS, List.getElem?_map] at h2
    unfold dropM at h1
    rw [List.getElem?_map] at h1
    obtain ⟨z, hz, rfl⟩ := Option.map_eq_some_iff.mp h1
    rw [hz] at h2
    obtain rfl := Option.some.inj h2
    obtain ⟨hm, _⟩ := List.mem_filter.mp (List.mem_of_getElem? hz)
    obtain ⟨j, hj⟩ := List.getElem?_of_mem hm
    rw [List.getElem?_zip_eq_some] at hj
    refine (M.io j z.1 z.2 hj.1 hj.2).keep (Same.refl U) fun b hb => ?_
    have hf : mfoot ml mas b := .inr (List.mem_flatMap.mpr ⟨z.1, List.mem_of_getElem? hj.1, hb⟩)
    exact k b (fun y => nD (y ▸ hf))
/-! ### what the sources keep -/
structure okS (s : Src) : Prop where
  l : s.ps.length ≤ 16
  m : (lens s).sum ≤ 32768
  k : ∀ x ∈ s.ps, PyData.strOk x.1 = true
def okSs (ss : List Src) : Prop := ∀ s ∈ ss, okS s
theorem sum_mem {x : Int} : ∀ {xs : List Int}, (∀ y ∈ xs, 0 ≤ y) → x ∈ xs → x ≤ xs.sum
  | y :: r, h, hx => by
    have hr : ∀ {zs : List Int}, (∀ y ∈ zs, 0 ≤ y) → 0 ≤ zs.sum := fun {zs} h => by
      induction zs with
      | nil => exact Int.le_refl _
      | cons z t ih =>
        rw [List.sum_cons]
        have := h z List.mem_cons_self
        have := ih fun y hy => h y (List.mem_cons_of_mem _ hy)
        omega
    rw [List.sum_cons]
    have h0 := h y List.mem_cons_self
    have ht := hr fun z hz => h z (List.mem_cons_of_mem _ hz)
    rcases List.mem_cons.mp hx with rfl | hx
    · omega
    · have := sum_mem (fun z hz => h z (List.mem_cons_of_mem _ hz)) hx
      omega
/-! ### what a write keeps -/
def plens (ps : List (Str × List Int)) : Int := (ps.map fun p => (p.2.length : Int)).sum
theorem plens_map {k : Str} {os : List Int} : ∀ {ps : List (Str × List Int)}, (ps.map Prod.fst).Nodup → k ∈ ps.map Prod.fst → plens (ps.map fun p => if p.1 = k then (p.1, p.2 ++ os) else p) = plens ps + (os.length : Int)
  | p :: r, nd, h => by
    rw [List.map_cons, List.nodup_cons] at nd
    have e1 : ∀ (q : Str × List Int) (t : List (Str × List Int)), plens (q :: t) = (q.2.length : Int) + plens t := fun q t => by unfold plens; rw [List.map_cons, List.sum_cons]
    rw [List.map_cons, e1, e1]
    by_cases c : p.1 = k
    · rw [if_pos c]
      have hr : (r.map fun p => if p.1 = k then (p.1, p.2 ++ os) else p) = r := by
        conv => rhs; rw [← List.map_id r]
        refine List.map_congr_left fun q hq => if_neg fun z => nd.1 ?_
        rw [c, ← z]; exact List.mem_map_of_mem hq
      rw [hr]
      show ((p.2 ++ os).length : Int) + plens r = _
      rw [List.length_append]
      omega
    · rw [if_neg c]
      have h' : k ∈ r.map Prod.fst := by
        rw [List.map_cons] at h
        exact (List.mem_cons.mp h).resolve_left fun z => c z.symm
      rw [plens_map nd.2 h']
      omega
theorem plens_put {k : Str} {os : List Int} {ps : List (Str × List Int)} (nd : (ps.map Prod.fst).Nodup) : plens (putP ps k os) = plens ps + (os.length : Int) := by
  unfold putP
  cases h : pcFind ps k with
  | none =>
    dsimp only
    unfold plens
    rw [List.map_append, List.sum_append]
    simp
  | some o =>
    dsimp only
    refine plens_map nd ?_
    unfold pcFind at h
    obtain ⟨p, hp, rfl⟩ := Option.map_eq_some_iff.mp h
    have h1 := List.mem_of_find?_eq_some hp
    have h2 := List.find?_some hp
    rw [decide_eq_true_eq] at h2
    rw [← h2]
    exact List.mem_map_of_mem h1
theorem lens_nn (s : Src) : ∀ y ∈ lens s, 0 ≤ y := fun y hy => by
  unfold lens at hy
  obtain ⟨p, _, rfl⟩ := List.mem_map.mp hy
  omega
theorem nn_sum : ∀ {zs : List Int}, (∀ y ∈ zs, 0 ≤ y) → 0 ≤ zs.sum
  | [], _ => Int.le_refl _
  | z :: t, h => by
    rw [List.sum_cons]
    have := h z List.mem_cons_self
    have := nn_sum fun y hy => h y (List.mem_cons_of_mem _ hy)
    omega
theorem lens_total {ss : List Src} {s : Src} (h : s ∈ ss) (hu : s.used = false) : (lens s).sum ≤ total ss := by
  unfold total
  rw [sum_flat]
  refine sum_mem (fun y hy => ?_) (List.mem_map_of_mem (f := fun s => (lens s).sum) (List.mem_filter.mpr ⟨h, by rw [hu]; rfl⟩))
  obtain ⟨t, _, rfl⟩ := List.mem_map.mp hy
  exact nn_sum (lens_nn t)
theorem okS.len {s : Src} (h : okS s) {x : Str × List Int} (hx : x ∈ s.ps) : x.2.length ≤ 32768 := by
  have := sum_mem (lens_nn s) (x := (x.2.length : Int)) (by unfold lens; exact List.mem_map_of_mem (f := fun p : Str × List Int => (p.2.length : Int)) hx)
  have := h.m
  omega
theorem okSs.few {ss : List Src} (h : okSs ss) (hl : ss.length ≤ 100) : few ss := ⟨hl, fun s hs => ⟨(h s hs).l, fun x hx => Nat.le_trans ((h s hs).len hx) (by decide)⟩⟩
theorem okSs.mark {ss : List Src} (h : okSs ss) {i : Nat} {s : Src} (hs : ss[i]? = some s) : okSs (ss.set i { s with used := true }) := fun t ht => by
  rcases List.mem_or_eq_of_mem_set ht with ht | rfl
  · exact h t ht
  · obtain ⟨h1, h2, h3⟩ := h s (List.mem_of_getElem? hs)
    exact ⟨h1, h2, h3⟩
theorem okSs.push {ss : List Src} (h : okSs ss) (n : Int) : okSs (ss ++ [⟨n, false, []⟩]) := fun t ht => by
  rcases List.mem_append.mp ht with ht | ht
  · exact h t ht
  · obtain rfl := List.mem_singleton.mp ht
    exact ⟨Nat.zero_le _, by show ([] : List Int).sum ≤ 32768; decide, fun x hx => by cases hx⟩
theorem okSs.drop {ss : List Src} (h : okSs ss) (n : Int) : okSs (dropS ss n) := fun t ht => h t (List.mem_filter.mp ht).1
theorem okSs.put {ss : List Src} (h : okSs ss) {i : Nat} {s : Src} (hs : ss[i]? = some s) (hu : s.used = false) (pk : (s.ps.map Prod.fst).Nodup) {kind : Str} {os : List Int} (hk : PyData.strOk kind = true) (hw : wrF ss s kind os = none) : okSs (ss.set i { s with ps := putP s.ps kind os }) := fun t ht => by
  rcases List.mem_or_eq_of_mem_set ht with ht | rfl
  · exact h t ht
  · obtain ⟨h1, h2, h3⟩ := h s (List.mem_of_getElem? hs)
    unfold wrF at hw
    split at hw
    · cases hw
    · split at hw
      · cases hw
      · rename_i hn
        have ht := lens_total (List.mem_of_getElem? hs) hu
        have hpl := plens_put (k := kind) (os := os) pk
        have e1 : plens s.ps = (lens s).sum := rfl
        refine ⟨?_, ?_, fun x hx => ?_⟩
        · show (putP s.ps kind os).length ≤ 16
          cases hp : pcFind s.ps kind with
          | none =>
            have : ¬ 16 ≤ s.ps.length := fun z => hn (.inr ⟨hp, z⟩)
            unfold putP
            rw [hp]
            show (s.ps ++ [(kind, os)]).length ≤ 16
            rw [List.length_append]
            show s.ps.length + 1 ≤ 16
            omega
          | some o =>
            unfold putP
            rw [hp]
            show (s.ps.map _).length ≤ 16
            rw [List.length_map]
            exact h1
        · show plens (putP s.ps kind os) ≤ 32768
          have : ¬ 32768 < total ss + (os.length : Int) := fun z => hn (.inl z)
          omega
        · have hx' : x ∈ putP s.ps kind os := hx
          unfold putP at hx'
          split at hx'
          · rcases List.mem_append.mp hx' with hx' | hx'
            · exact h3 x hx'
            · obtain rfl := List.mem_singleton.mp hx'
              exact hk
          · obtain ⟨p, hp, rfl⟩ := List.mem_map.mp hx'
            by_cases c : p.1 = kind
            · rw [if_pos c]; exact h3 p hp
            · rw [if_neg c]; exact h3 p hp
/-! ### the law -/
structure LI (A : Adr) (U H : Hp) (h so sd ml : Addr) (as : List (Addr × Addr)) (mas : List MA) (ss : List Src) (m : Nat) : Prop where
  sU : Same U H
  hd : HdS A U h so
  S : Ss A U H so sd as ss
  M : Md U H ml mas ss
  ok : okSs ss
  l : ss.length ≤ m
theorem LI.pu {A : Adr} {U H U' H' : Hp} {h so sd ml : Addr} {as : List (Addr × Addr)} {mas : List MA} {ss : List Src} {m : Nat} (L : LI A U H h so sd ml as mas ss m) (p : Pu U H U' H') : LI A U' H' h so sd ml as mas ss m :=
  ⟨p.vh, L.hd.to p.vv, L.S.pu p, L.M.pu p, L.ok, L.l⟩
/-- what was told of a row, and the law's own fault -/
def Fin (A : Adr) (K : PySem.W.Frag) (U H : Hp) (p9 : Addr) (vf : V) : Prop := (∃ (e t : Addr) (n c : Int) (wd : Str), U p9 = some (.tup [.non, .ref e]) ∧ Dp K U (.ref e) (fD n c wd) ∧ vf = .ref t ∧ U t = some (.tup [.int n, .int c, .str wd]) ∧ PyData.strOk wd = true) ∨ (∃ (o lt le lw : Addr), U p9 = some (.tup [.ref o, .non]) ∧ Rp A.CReply K U H o lt le lw [] [] [] ∧ vf = .non)
theorem there_len {mas : List MA} {ss : List Src} (hl : mas.length = ss.length) (n : Int) : (0 < ((mas.zip ss).filter fun z => decide (z.2.n = n)).length) ↔ ∃ (i : Nat) (s : Src), ss[i]? = some s ∧ s.n = n := by
  rw [zf_len (fun s => decide (s.n = n)) hl]
  constructor
  · intro h
    obtain ⟨s, hs⟩ := List.exists_mem_of_length_pos h
    obtain ⟨h1, h2⟩ := List.mem_filter.mp hs
    obtain ⟨i, hi⟩ := List.getElem?_of_mem h1
    exact ⟨i, s, hi, by simpa using h2⟩
  · rintro ⟨i, s, h1, h2⟩
    exact List.length_pos_of_mem (List.mem_filter.mpr ⟨List.mem_of_getElem? h1, by simpa using h2⟩)
theorem refs_zip {mas : List MA} {ss : List Src} (hl : mas.length = ss.length) : (mas.map fun a => V.ref a.o) = (mas.zip ss).map fun z => V.ref z.1.o := by
  rw [show (fun z : MA × Src => V.ref z.1.o) = (fun a : MA => V.ref a.o) ∘ Prod.fst from rfl, ← List.map_map, List.map_fst_zip (by omega)]
theorem dropS_idem (ss : List Src) (n : Int) : dropS (dropS ss n) n = dropS ss n := by
  unfold dropS
  rw [List.filter_filter]
  exact List.filter_congr fun s _ => by rw [Bool.and_self]
theorem _root_.My.Rp.pu {C : Addr} {K : PySem.W.Frag} {U H U' H' : Hp} {o lt le lw : Addr} {ts : List (List Int)} {es : List Int} {ws : List PyData} (R : Rp C K U H o lt le lw ts es ws) (P : Pu U H U' H') : Rp C K U' H' o lt le lw ts es ws := R.frame P.vv fun b hb hu _ => ⟨P.out b hu hb, P.kp b hb⟩
theorem _root_.My.Rp.chm {C : Addr} {K : PySem.W.Frag} {U H U' H' : Hp} {o lt le lw ml : Addr} {mas : List MA} {ts : List (List Int)} {es : List Int} {ws : List PyData} (R : Rp C K U H o lt le lw ts es ws) (nf : ∀ b, (b = o ∨ b = lt ∨ b = le ∨ b = lw) → ¬ mfoot ml mas b) (c : Chm U H U' H' ml mas) : Rp C K U' H' o lt le lw ts es ws := R.frame c.vv fun b hb hu hx => ⟨c.out b hu hb, c.kp b (nf b hx) hb⟩
theorem Md.nf {U H : Hp} {ml : Addr} {mas : List MA} {ss : List Src} (M : Md U H ml mas ss) {o lt le lw : Addr} (h1 : H o = none) (h2 : H lt = none) (h3 : H le = none) (h4 : H lw = none) : ∀ b, (b = o ∨ b = lt ∨ b = le ∨ b = lw) → ¬ mfoot ml mas b := fun b hb => by
  rcases hb with rfl | rfl | rfl | rfl
  · exact M.new h1
  · exact M.new h2
  · exact M.new h3
  · exact M.new h4
theorem Ss.new {A : Adr} {U H : Hp} {so sd : Addr} {as : List (Addr × Addr)} {ss : List Src} (S : Ss A U H so sd as ss) {b : Addr} (hb : H b = none) : ¬ foot sd as b := fun hf => by
  rcases hf with rfl | ⟨p, hp, hpb⟩
  · rw [S.e] at hb; cases hb
  · obtain ⟨j, hj⟩ := List.getElem?_of_mem hp
    have hl : j < ss.length := by have := (List.getElem?_eq_some_iff.mp hj).1; have := S.len; omega
    obtain ⟨dx1, e1⟩ := S.io j p _ hj (List.getElem?_eq_getElem hl)
    obtain ⟨kvs, e2, _⟩ := S.po j p _ hj (List.getElem?_eq_getElem hl)
    rcases hpb with rfl | rfl
    · rw [e1] at hb; cases hb
    · rw [e2] at hb; cases hb
theorem Ch.chf {U H U' H' : Hp} {sd : Addr} (c : Ch U H U' H' [sd]) (as : List (Addr × Addr)) : Chf U H U' H' sd as := ⟨c.vv, c.vh, c.out, c.nn, fun b hb => c.kp b fun z => hb (.inl (List.mem_singleton.mp z))⟩
theorem Rp.chf {C : Addr} {K : PySem.W.Frag} {U H U' H' : Hp} {o lt le lw sd : Addr} {as : List (Addr × Addr)} {ts : List (List Int)} {es : List Int} {ws : List PyData} (R : Rp C K U H o lt le lw ts es ws) (nf : ∀ b, (b = o ∨ b = lt ∨ b = le ∨ b = lw) → ¬ foot sd as b) (c : Chf U H U' H' sd as) : Rp C K U' H' o lt le lw ts es ws := R.frame c.vv fun b hb hu hx => ⟨c.out b hu hb, c.kp b (nf b hx) hb⟩
theorem Ss.nf {A : Adr} {U H : Hp} {so sd : Addr} {as : List (Addr × Addr)} {ss : List Src} (S : Ss A U H so sd as ss) (n : Int) {o lt le lw : Addr} (h1 : H o = none) (h2 : H lt = none) (h3 : H le = none) (h4 : H lw = none) : ∀ b, (b = o ∨ b = lt ∨ b = le ∨ b = lw) → ¬ foot sd (dropA as ss n) b := fun b hb hf => by
  have hf' : foot sd as b := hf.imp id fun ⟨p, hp, e⟩ => ⟨p, by
    unfold dropA at hp
    obtain ⟨z, hz, rfl⟩ := List.mem_map.mp hp
    exact (List.of_mem_zip (List.mem_filter.mp hz).1).1, e⟩
  rcases hb with rfl | rfl | rfl | rfl
  · exact S.new h1 hf'
  · exact S.new h2 hf'
  · exact S.new h3 hf'
  · exact S.new h4 hf'
theorem wrF_ok {ss : List Src} {s : Src} {kind : Str} {os : List Int} {c : Int} {wd : Str} (h : wrF ss s kind os = some (c, wd)) : PyData.strOk wd = true := by
  unfold wrF at h
  split at h
  · obtain ⟨rfl, rfl⟩ := Prod.mk.inj (Option.some.inj h); decide +kernel
  · split at h
    · obtain ⟨rfl, rfl⟩ := Prod.mk.inj (Option.some.inj h); decide +kernel
    · cases h
/-- a list that is new beside what is there -/
theorem Pu.list {U H H1 : Hp} {D : Addr} {xs : List V} (sU : Same U H) (hD : H D = none) (e : H1 D = some (.lst xs)) (k : ∀ b, b ≠ D → H1 b = H b) : Pu U H U H1 :=
  ⟨Same.refl _, fun b u e => (k b (fun z => by rw [z, sU.free hD] at e; cases e)).trans (sU b u e), fun _ h _ => h, fun b hb => by
    by_cases c : b = D
    · rw [c]; exact hD
    · rw [← k b c]; exact hb, fun b hb => k b (fun z => hb (by rw [z]; exact hD))⟩
theorem sc_law : FnScope ["script", "holdings", "model", "k", "row", "number", "there", "one", "fault", "told", "kind", "octets"] ["script"] (defScope s_law) := ⟨rfl, rfl, rfl, by decide +kernel, rfl, by decide +kernel, by decide +kernel⟩
set_option maxHeartbeats 4000000 in
theorem ok_law (T : Txt0 P K mg A) : FnOk P w K mg base CX0 14 A.flaw A.dlaw ["script"] (sp_law K) := by
  refine T.Flaw.ok sc_law (fun vs H Q E h => ?_) (fun cdv Ar outer s H vs Q E hr h => ?_)
  · obtain ⟨a, ns, rfl, _⟩ := h
    rfl
  · obtain ⟨a, ns, rfl, hS, hlen, q⟩ := h
    replace q := Hid.mk q
    refine ⟨_, (pss_cons (ps_set (i := 1) sc_law.nd rfl (Or.inl rfl) (pe_make0 T.MHoldings (ok_Holdings___init__ T) (hr.mono (by decide)) rfl T.gHoldings T.bHoldings___init__ .nil pass0))
      (pss_cons (ps_set (i := 2) sc_law.nd rfl (Or.inl rfl) (pe_lst pa_nil))
      (pss_cons (ps_for PassesOwn.never rfl (pi_range1 (by rfl) T.range (pa_cons (pe_op op_add (pe_callB (call_min2 rfl) (by rfl) T.min (by decide +kernel) (pa_cons pe_int (pa_cons (pe_callB call_len_seq (by rfl) T.len PySem.boot_len (pa_cons (pv 0) pa_nil)) pa_nil))) pe_int) pa_nil)) (pg_name (i := 3) sc_law.nd rfl (Or.inl rfl))
      (pss_cons (ps_set (i := 4) sc_law.nd rfl (Or.inl rfl) (pe_call (ok__law_row T) (hr.mono (by decide)) rfl T.g_law_row T.k_law_row T.b_law_row .nil pass0 (pa_cons (pv 0) (pa_cons (pv 3) pa_nil))))
      (pss_cons (ps_set (i := 5) sc_law.nd rfl (Or.inr rfl) (pe_op op_add (pe_op op_mod (pe_callTy call_int1 (by rfl) T.int (by decide +kernel) (pa_cons (pe_op op_fdiv (pv 4) pe_int) pa_nil)) pe_int) pe_int))
      (pss_cons (ps_set (i := 6) sc_law.nd rfl (Or.inl rfl) (pe_cmpR op_gt (pe_callB call_len_seq (by rfl) T.len PySem.boot_len (pa_cons (pe_lc (own := [("one", 7)]) (g := (gName 7)) rfl sc_law.nd (pi_list (pv 2)) (blkOk_by (own := [("one", 7)]) (N := ["script", "holdings", "model", "k", "row", "number", "there", "one", "fault", "told", "kind", "octets"]) (sc := defScope s_law) (by decide +kernel)) (fun _ _ _ _ _ => (pg_name (i := 7) sc_law.nd rfl (Or.inl rfl))) (fun _ _ _ _ _ => (pts_one (pt_cmpR op_eq (pe_ix (r := rIxL K) ix_list (pv 7) pe_int (fun _ _ => rfl)) (pv 5) (nomark _)))) (fun _ _ _ _ _ => by exact (pv 7))) pa_nil)) pe_int (nomark _)))
      (pss_cons (ps_set (i := 8) sc_law.nd rfl (Or.inl rfl) pe_non)
      (C8.pss_cut (ps_if (pt_not (pt_val (pv 6)))
      (C8.pss_cut (ps_set (i := 9) sc_law.nd rfl (Or.inl rfl) (pe_call (ok__law_serve T) (hr.mono (by decide)) rfl T.g_law_serve T.k_law_serve T.b_law_serve .nil pass0 (pa_cons (pv 1) (pa_cons (pe_tup (pa_cons pe_int (pa_cons pe_str (pa_cons pe_str (pa_cons (pe_lst (pa_cons (pv 5) pa_nil)) pa_nil))))) (pa_cons pe_non (pa_cons pe_bl (pa_cons pe_bl pa_nil)))))))
      (pss_one (ps_if (pt_cmpR op_ge (pe_callB call_len_seq (by rfl) T.len PySem.boot_len (pa_cons (pe_lc (own := [("one", 7)]) (g := (gName 7)) rfl sc_law.nd (pi_list (pv 2)) (blkOk_by (own := [("one", 7)]) (N := ["script", "holdings", "model", "k", "row", "number", "there", "one", "fault", "told", "kind", "octets"]) (sc := defScope s_law) (by decide +kernel)) (fun _ _ _ _ _ => (pg_name (i := 7) sc_law.nd rfl (Or.inl rfl))) (fun _ _ _ _ _ => (pts_one (pt_not (pt_val (pe_ix (r := rIxL K) ix_list (pv 7) pe_int (fun _ _ => rfl)))))) (fun _ _ _ _ _ => by exact (pv 7))) pa_nil)) pe_int (nomark _))
      (pss_one (ps_set (i := 8) sc_law.nd rfl (Or.inl rfl) (pe_tup (pa_cons pe_int (pa_cons pe_int (pa_cons pe_str pa_nil))))))
      (pss_one (ps_expr (pe_bm PySem.F.plainAttrs_list PySem.F.slot_list_append PySem.F.type_list_append mt_append (pv 2) (pa_cons (pe_lst (pa_cons (pv 5) (pa_cons (pe_lst pa_nil) (pa_cons pe_bl pa_nil)))) pa_nil)))))))
      (pss_one (ps_if (pt_cmpR op_eq (pe_op op_mod (pe_callTy call_int1 (by rfl) T.int (by decide +kernel) (pa_cons (pv 4) pa_nil)) pe_int) pe_int (nomark _))
      (pss_cons (ps_if (pt_not (pt_val (pe_call (ok__law_give T) (hr.mono (by decide)) rfl T.g_law_give T.k_law_give T.b_law_give .nil pass0 (pa_cons (pv 1) (pa_cons (pv 2) (pa_cons (pv 5) pa_nil))))))
      (pss_one (ps_ret pe_bl))
      pss_nil)
      (pss_one (ps_set (i := 9) sc_law.nd rfl (Or.inl rfl) (pe_tup (pa_cons (pe_make0 T.MReply (ok_Reply___init__ T) (hr.mono (by decide)) rfl T.gReply T.bReply___init__ .nil pass0) (pa_cons pe_non pa_nil))))))
      (pss_one (ps_if (pt_cmpR op_eq (pe_op op_mod (pe_callTy call_int1 (by rfl) T.int (by decide +kernel) (pa_cons (pv 4) pa_nil)) pe_int) pe_int (nomark _))
      (pss_cons (ps_set (i := 9) sc_law.nd rfl (Or.inl rfl) (pe_call (ok__law_serve T) (hr.mono (by decide)) rfl T.g_law_serve T.k_law_serve T.b_law_serve .nil pass0 (pa_cons (pv 1) (pa_cons (pe_tup (pa_cons (pv 5) (pa_cons pe_str (pa_cons pe_str (pa_cons (pe_lst pa_nil) pa_nil))))) (pa_cons pe_non (pa_cons pe_bl (pa_cons pe_bl pa_nil)))))))
      (pss_cons (ps_expr (pe_meth (pv 1) T.clHoldings T.mHoldings_ended (ok_Holdings_ended T) (hr.mono (by decide)) T.bHoldings_ended .nil pass0 (pa_cons (pv 5) pa_nil)))
      (pss_one (ps_setLc (i := 2) (own := [("one", 7)]) (g := (gName 7)) rfl sc_law.nd rfl rfl (sw_true rfl rfl rfl (by decide +kernel)) (pi_list (pv 2)) (blkOk_by (own := [("one", 7)]) (N := ["script", "holdings", "model", "k", "row", "number", "there", "one", "fault", "told", "kind", "octets"]) (sc := defScope s_law) (by decide +kernel)) (fun _ _ _ _ _ => (pg_name (i := 7) sc_law.nd rfl (Or.inl rfl))) (fun _ _ _ _ _ => (pts_one (pt_cmpR op_ne (pe_ix (r := rIxL K) ix_list (pv 7) pe_int (fun _ _ => rfl)) (pv 5) (nomark _)))) (fun _ _ _ _ _ => by exact (pv 7))))))
      (pss_cons (ps_set (i := 10) sc_law.nd rfl (Or.inl rfl) (pe_call (ok__law_kind T) (hr.mono (by decide)) rfl T.g_law_kind T.k_law_kind T.b_law_kind .nil pass0 (pa_cons (pe_op op_fdiv (pv 4) pe_int) pa_nil)))
      (pss_cons (ps_set (i := 11) sc_law.nd rfl (Or.inl rfl) (pe_call (ok__law_octets T) (hr.mono (by decide)) rfl T.g_law_octets T.k_law_octets T.b_law_octets .nil pass0 (pa_cons (pe_op op_fdiv (pv 4) pe_int) pa_nil)))
      (C8.pss_cut (ps_set (i := 9) sc_law.nd rfl (Or.inl rfl) (pe_call (ok__law_serve T) (hr.mono (by decide)) rfl T.g_law_serve T.k_law_serve T.b_law_serve .nil pass0 (pa_cons (pv 1) (pa_cons (pe_tup (pa_cons (pv 5) (pa_cons pe_str (pa_cons pe_str (pa_cons (pe_lst (pa_cons (pv 10) (pa_cons (pv 11) pa_nil))) pa_nil))))) (pa_cons pe_non (pa_cons pe_bl (pa_cons pe_bl pa_nil)))))))
      (pss_one (ps_set (i := 8) sc_law.nd rfl (Or.inl rfl) (pe_call (ok__law_write T) (hr.mono (by decide)) rfl T.g_law_write T.k_law_write T.b_law_write .nil pass0 (pa_cons (pv 2) (pa_cons (pv 5) (pa_cons (pv 10) (pa_cons (pv 11) pa_nil)))))))))))))))
      (pss_one (ps_if (PW.pt (pw_or (pt_cmpR (op_neD hr.units) (pe_ix (r := rIxT K) ix_tup (pv 9) pe_int (fun _ _ => rfl)) (pv 8) (nomark _)) (pw_or1 (PW.pt (pw_and (pt_cmpR op_isN (pv 8) pe_non (nomark _)) (pw_and1 (PW.pt (pw_or (pt_cmpR (op_neD hr.units) (pe_fld (pe_ix (r := rIxT K) ix_tup (pv 9) pe_int (fun _ _ => rfl)) rfl) (pe_lst pa_nil) (nomark _)) (pw_or1 (pt_cmpR (op_neD hr.units) (pe_fld (pe_ix (r := rIxT K) ix_tup (pv 9) pe_int (fun _ _ => rfl)) rfl) (pe_lst pa_nil) (nomark _)))))))))))
      (pss_one (ps_ret pe_bl))
      pss_nil))))))))
      (pss_one (ps_ret pe_bl))))), ?_⟩
    walk_at "go"
    intro h dxh hh hdh ndh
    refine ⟨h, dxh, rfl, upd_same, fun so sd H1 nd0 hdC esoH ed k1 m1 => ⟨rfl, ?_⟩⟩
    have s1 : Same H H1 := by walk_at "h"
    have U1s : Same (hide H1 sd) H1 := fun b u e => by
      unfold hide at e; split at e
      · cases e
      · exact e
    have hsd : H sd = none := by walk_at "h"
    have hs1 : SqL K (hide H1 sd) a (ns.map V.int) := by
      have : Same H (hide H1 sd) := fun b u e => by
        have e' := s1 b u e
        unfold hide
        rw [if_neg (fun z => by rw [z, hsd] at e; cases e)]
        exact e'
      exact this.seq hS
    have S1 : Ss A (hide H1 sd) H1 so sd [] [] := by
      obtain ⟨x1, e1⟩ := esoH
      exact ⟨⟨x1, e1⟩, ed, if_pos rfl, rfl, List.nodup_nil, List.nodup_nil, List.nodup_nil, (fun z => by cases z), (fun p hp => by cases hp), (fun i p s h1 => by cases h1), (fun i p s h1 => by cases h1), fun s hs => by cases hs⟩
    generalize hide H1 sd = U1 at U1s hs1 hdC S1 esoH
    clear k1 m1 hh hdh ndh nd0 s1 hsd ed esoH
    walk_at "gf"
    rename_i ml0 hml0
    have L0 : LI A U1 (upd H1 ml0 (.lst [])) h so sd ml0 [] [] [] 0 := by
      have P1 := Pu.skip (o := .lst []) U1s hml0
      exact ⟨P1.vh, hdC, S1.pu P1, ⟨upd_same, rfl, by simp, fun b hb => hb.elim (fun z => by rw [z]; exact U1s.free hml0) (fun z => by cases z), fun i a s h1 => by cases h1⟩, fun s hs => (by cases hs), Nat.le_refl _⟩
    generalize upd H1 ml0 (.lst []) = H2 at L0 ⊢
    clear hml0 U1s S1 hdC
    rw [List.length_map]
    refine ⟨by split <;> omega, by split <;> omega, ?_⟩
    refine for_range (lo := 0) (fun i σ H' => ∃ (U : Hp) (ml : Addr) (as : List (Addr × Addr)) (mas : List MA) (ss : List Src) (v3 v4 v5 v6 v7 v8 v9 v10 v11 : Option V), σ = [some (.ref a), some (.ref h), some (.ref ml), v3, v4, v5, v6, v7, v8, v9, v10, v11] ∧ Same U1 U ∧ LI A U H' h so sd ml as mas ss i)
      ⟨U1, ml0, [], [], [], _, _, _, _, _, _, _, _, _, rfl, Same.refl _, L0⟩ ?_ ?_
    · clear L0
      rintro i σ H5 hi ⟨U, ml, as, mas, ss, v3, v4, v5, v6, v7, v8, v9, v10, v11, rfl, vU, L⟩
      walk_at "gf"
      refine ⟨a, ns, i, by rw [Int.zero_add]; rfl, L.sU.seq (vU.seq hs1), ?_⟩
      have hr0 := lawRow_nn ns i
      generalize lawRow ns i = row at hr0 ⊢
      walk_at "gf"
      generalize row / 8 % 10 = m8
      have hml := L.M.len
      have hl := L.l
      have hi40 : i ≤ 40 := by
        split at hi <;> omega
      refine ⟨⟨_, SqL.of L.M.e⟩, fun D hD => ?_⟩
      refine lc_keep (K := K) (a := ml) (mas.zip ss) (fun z => V.ref z.1.o) (fun z => decide (z.2.n = (m8 + 10))) _ rfl hD L.M.e (refs_zip hml) (by rw [List.length_zip]; omega) ?_ ?_
      · rintro j ⟨a', t⟩ H6 hz k6 Qy Qn hy hno
        rw [List.getElem?_zip_eq_some] at hz
        obtain ⟨e1, _⟩ := L.M.io j a' t hz.1 hz.2
        have e11 : H6 a'.o = _ := (k6 a'.o (fun z => by rw [z, hD] at e1; cases e1)).trans e1
        walk_at "gf"
        refine iteEq (fun c => ?_) (fun c => ?_)
        · exact ⟨_, rfl, hy (decide_eq_true c)⟩
        · exact hno (decide_eq_false c)
      · intro H6 eD k6
        have L6 := L.pu (Pu.list L.sU hD eD k6)
        walk_at "gf"
        clear eD k6 hD L
        walk_at "gf"
        refine ⟨fun σ' H' => ∃ (U' : Hp) (ml' p9 : Addr) (as' : List (Addr × Addr)) (mas' : List MA) (ss' : List Src) (vf : V) (w3 w4 w5 w6 w7 w10 w11 : Option V), σ' = [some (.ref a), some (.ref h), some (.ref ml'), w3, w4, w5, w6, w7, some vf, some (.ref p9), w10, w11] ∧ Same U U' ∧ LI A U' H' h so sd ml' as' mas' ss' (i + 1) ∧ Fin A K U' H' p9 vf, ?_, ?_⟩
        · have hth := there_len hml (m8 + 10)
          rw [List.length_map]
          walk_at "gf"
          refine iteN (fun c => ?_) (fun c => ?_)
          · have hno : ∀ s ∈ ss, s.n ≠ (m8 + 10) := fun s hs z => c (by
              obtain ⟨j, hj⟩ := List.getElem?_of_mem hs
              have := hth.mpr ⟨j, s, hj, z⟩
              omega)
            refine ⟨fun σ' H' => ∃ (U' : Hp) (p9 : Addr) (w6 : Option V), σ' = [some (.ref a), some (.ref h), some (.ref ml), some (.int (0 + (i : Int))), some (.int row), some (.int (m8 + 10)), w6, v7, some .non, some (.ref p9), v10, v11] ∧ Same U U' ∧ Same U' H' ∧ Md U' H' ml mas ss ∧ ((8 ≤ (fresh ss).length ∧ Ss A U' H' so sd as ss ∧ ∃ e, U' p9 = some (.tup [.non, .ref e]) ∧ Dp K U' (.ref e) (fD 3 2 "too much")) ∨ ((fresh ss).length < 8 ∧ ∃ (p : Addr × Addr) (o lt le lw : Addr), Ss A U' H' so sd (as ++ [p]) (ss ++ [⟨(m8 + 10), false, []⟩]) ∧ U' p9 = some (.tup [.ref o, .non]) ∧ Rp A.CReply K U' H' o lt le lw [] [] [] ∧ ∀ b, (b = o ∨ b = lt ∨ b = le ∨ b = lw) → ¬ mfoot ml mas b)), ?_, ?_⟩
            · walk_at "gf"
              rename_i la hla pt hpt
              have P7 := Pu.skip (o := .lst [.int (m8 + 10)]) L6.sU hla
              have P8 := P7.trans (Pu.skip (o := .tup [.int 3, .str "transfer", .str "source", .ref la]) P7.vh hpt)
              have ela : (upd (upd H6 la (.lst [.int (m8 + 10)])) pt (.tup [.int 3, .str "transfer", .str "source", .ref la])) la = some (.lst [.int (m8 + 10)]) := (upd_ne (fun z => by rw [← z, upd_same] at hpt; cases hpt)).trans upd_same
              have ept : (upd (upd H6 la (.lst [.int (m8 + 10)])) pt (.tup [.int 3, .str "transfer", .str "source", .ref la])) pt = some (.tup [.int 3, .str "transfer", .str "source", .ref la]) := upd_same
              have L8 := L6.pu P8
              generalize upd (upd H6 la (.lst [.int (m8 + 10)])) pt (.tup [.int 3, .str "transfer", .str "source", .ref la]) = H8 at L8 ela ept ⊢
              clear P7 P8 hla hpt L6
              walk_at "nl"
              refine ⟨h, so, sd, pt, la, 3, "transfer", "source", .non, false, false, _, as, ss, U, rfl, L8.hd, L8.sU, L8.S, by omega, (L8.ok.few (by omega)).2, ept, by decide +kernel, ela, .inl ⟨rfl, rfl, m8 + 10, rfl, hno, fun hc U' H' p9 e P9 ep de => ?_, fun hc p U' H' p9 o lt le lw C9 S9 z1 z2 z3 z4 R9 ep => ?_⟩⟩
              · exact ⟨U', p9, _, rfl, P9.vv, P9.vh, L8.M.pu P9, .inl ⟨hc, L8.S.pu P9, e, ep, de⟩⟩
              · exact ⟨U', p9, _, rfl, C9.vv, C9.vh, L8.M.chf L8.S C9, .inr ⟨hc, p, o, lt, le, lw, S9, ep, R9, L8.M.nf z1 z2 z3 z4⟩⟩
            · rintro σ' H9 ⟨U', p9, w6, rfl, v', s', M', hcase⟩
              have hd' := L6.hd.to v'
              have hok := L6.ok
              clear L6
              walk_at "gf"
              refine ⟨⟨_, SqL.of M'.e⟩, fun D hD => ?_⟩
              refine lc_keep (K := K) (a := ml) (mas.zip ss) (fun z => V.ref z.1.o) (fun z => !z.2.used) _ rfl hD M'.e (refs_zip hml) (by rw [List.length_zip]; omega) ?_ ?_
              · rintro j ⟨a', t⟩ H6 hz k6 Qy Qn hy hno
                rw [List.getElem?_zip_eq_some] at hz
                obtain ⟨e1, _⟩ := M'.io j a' t hz.1 hz.2
                have e11 : H6 a'.o = _ := (k6 a'.o (fun z => by rw [z, hD] at e1; cases e1)).trans e1
                refine ⟨rfl, _, rfl, a'.o, _, _, .bl t.used, rfl, rfl, SqL.of e11, atI_nat (j := 2) rfl, t.used, rfl, ?_⟩
                exact if_b (fun hb => ⟨_, rfl, hy hb⟩) (fun hb => hno hb)
              · intro H6 eD k6
                have P6 := Pu.list s' hD eD k6
                walk_at "gf"
                rw [List.length_map, zf_len (fun s => !s.used) hml]
                refine iteP (fun c8 => ?_) (fun c8 => ?_)
                · have c8' : 8 ≤ (fresh ss).length := by
                    have : 8 ≤ ((ss.filter fun s => !s.used).length : Int) := c8
                    unfold fresh; omega
                  rcases hcase with ⟨_, S', e, ep, de⟩ | ⟨hn, _⟩
                  · clear k6 eD hD
                    walk_at "gf"
                    rename_i tq htq
                    have P7 := P6.trans (Pu.new (o := .tup [.int 3, .int 2, .str "too much"]) P6.vh htq)
                    exact ⟨_, ml, p9, as, mas, ss, .ref tq, _, _, _, _, _, _, _, rfl, v'.trans P7.vv, ⟨P7.vh, hd'.to P7.vv, S'.pu P7, M'.pu P7, hok, by omega⟩, .inl ⟨e, tq, 3, 2, "too much", P7.vv _ _ ep, de.to P7.vv, rfl, upd_same, by decide +kernel⟩⟩
                  · exact absurd c8' (by omega)
                · have c8' : ¬ 8 ≤ (fresh ss).length := fun z => c8 (by
                    show 8 ≤ ((ss.filter fun s => !s.used).length : Int)
                    unfold fresh at z; omega)
                  rcases hcase with ⟨hn, _⟩ | ⟨_, p, o, lt, le, lw, S', ep, R, nf⟩
                  · exact absurd hn c8'
                  · have M6 := M'.pu P6
                    have S6 := S'.pu P6
                    have R6 := R.pu P6
                    clear k6 eD hD S' R
                    walk_at "gf"
                    refine ⟨.inl ⟨rfl, _, SqL.of M6.e⟩, ?_⟩
                    walk_at "gf"
                    rename_i p1 hp1 p2 hp2
                    have h21 : p2 ≠ p1 := fun z => by rw [z, upd_same] at hp2; cases hp2
                    rw [upd_ne h21] at hp2
                    obtain ⟨M7, C7⟩ := M6.push P6.vh (m8 + 10) hp1 hp2 h21
                    have hm1 : ml ≠ p1 := fun z => M6.new hp1 (.inl z.symm)
                    have hm2 : ml ≠ p2 := fun z => M6.new hp2 (.inl z.symm)
                    refine ⟨ml, _, _, rfl, rfl, (upd_ne hm2).trans ((upd_ne hm1).trans M6.e), lt_line (by rw [List.length_map]; omega), ?_⟩
                    exact ⟨U', ml, p9, _, _, _, .non, _, _, _, _, _, _, _, rfl, v', ⟨C7.vh, hd', Ss.chm S6 M6 C7, M7, hok.push _, by rw [List.length_append]; show ss.length + 1 ≤ i + 1; omega⟩, .inr ⟨o, lt, le, lw, ep, R6.chm nf C7, rfl⟩⟩
          · obtain ⟨ix, sr, hix, hnr⟩ := hth.mp (by omega)
            walk_at "gf"
            refine iteEq (fun c0 => ?_) (fun c0 => ?_)
            · walk_at "gf"
              refine ⟨h, so, sd, ml, m8 + 10, as, mas, ss, U, ix, sr, rfl, L6.hd, L6.sU, L6.S, L6.M, L6.ok.few (by omega), fun s hs => (L6.ok s hs).k, hix, hnr, fun U' H' v1 s1 S1 M1 => ?_⟩
              have hd1 := L6.hd.to v1
              have ok1 := L6.ok.mark hix
              clear L6 hth
              refine ⟨true, rfl, if_f rfl ?_⟩
              walk_at "gf"
              intro o dxo ho hdxo nod
              refine ⟨o, dxo, U', rfl, upd_same, by walk_at "h", s1.free ho, fun lt le lw H7 s7 k7 n7 f1 f2 f3 R7 => ⟨rfl, ?_⟩⟩
              have P7 : Pu U' H' U' H7 := ⟨Same.refl _, s7, fun _ h _ => h, by walk_at "h", by walk_at "h"⟩
              clear k7 n7 f1 f2 f3 ho hdxo nod
              walk_at "gf"
              rename_i pt hpt
              have P8 := Pu.new (o := .tup [.ref o, .non]) s7 hpt
              have P78 := P7.trans P8
              exact ⟨_, ml, pt, as, mas, _, .non, _, _, _, _, _, _, _, rfl, v1.trans P78.vv, ⟨P78.vh, hd1.to P78.vv, S1.pu P78, M1.pu P78, ok1, by rw [List.length_set]; omega⟩, .inr ⟨o, lt, le, lw, upd_same, R7.pu P8, rfl⟩⟩
            · walk_at "gf"
              refine iteEq (fun c1 => ?_) (fun c1 => ?_)
              · walk_at "gf"
                rename_i la hla pt hpt
                have P7 := Pu.skip (o := .lst []) L6.sU hla
                have P8 := P7.trans (Pu.skip (o := .tup [.int (m8 + 10), .str "source", .str "destroy", .ref la]) P7.vh hpt)
                have ela : (upd (upd H6 la (.lst [])) pt (.tup [.int (m8 + 10), .str "source", .str "destroy", .ref la])) la = some (.lst []) := (upd_ne (fun z => by rw [← z, upd_same] at hpt; cases hpt)).trans upd_same
                have ept : (upd (upd H6 la (.lst [])) pt (.tup [.int (m8 + 10), .str "source", .str "destroy", .ref la])) pt = some (.tup [.int (m8 + 10), .str "source", .str "destroy", .ref la]) := upd_same
                have L8 := L6.pu P8
                generalize upd (upd H6 la (.lst [])) pt (.tup [.int (m8 + 10), .str "source", .str "destroy", .ref la]) = H8 at L8 ela ept ⊢
                clear P7 P8 hla hpt L6 hth
                walk_at "nl"
                refine ⟨h, so, sd, pt, la, m8 + 10, "source", "destroy", .non, false, false, _, as, ss, U, rfl, L8.hd, L8.sU, L8.S, by omega, (L8.ok.few (by omega)).2, ept, by decide +kernel, ela, .inr (.inr (.inr ⟨rfl, fun U9 H9 p9 o lt le lw C9 S9 z1 z2 z3 z4 R9 ep => ?_⟩))⟩
                have M9 := L8.M.chf L8.S C9
                have nf := L8.S.nf (m8 + 10) z1 z2 z3 z4
                have hd9 := L8.hd.to C9.vv
                have ok9 := L8.ok.drop (m8 + 10)
                have v9 := C9.vv
                have s9 := C9.vh
                clear ela ept z1 z2 z3 z4 C9 L8
                obtain ⟨dx, f, cp, a3, tr, kd, d, d3, d4, xf, xc, x3, v, y1, y2, y3, y4, y5, y6, y7, y8, y9⟩ := (hd9.to s9).ex
                walk_at "gf"
                refine ⟨h, so, sd, m8 + 10, _, _, U9, rfl, hd9, s9, S9, fun HA CA SA => ?_⟩
                rw [dropS_idem] at SA
                have MA := M9.chf S9 (CA.chf _)
                have RA := R9.chf nf (CA.chf _)
                have sA := CA.vh
                clear y1 y2 y3 y4 y5 y6 y7 y8 y9 M9 R9 nf S9 CA
                walk_at "gf"
                refine ⟨⟨_, SqL.of MA.e⟩, fun D hD => ?_⟩
                refine lc_keep (K := K) (a := ml) (mas.zip ss) (fun z => V.ref z.1.o) (fun z => decide (z.2.n ≠ m8 + 10)) _ rfl hD MA.e (refs_zip hml) (by rw [List.length_zip]; omega) ?_ ?_
                · rintro j ⟨a', t⟩ H6 hz k6 Qy Qn hy hno
                  rw [List.getElem?_zip_eq_some] at hz
                  obtain ⟨e1, _⟩ := MA.io j a' t hz.1 hz.2
                  have e11 : H6 a'.o = _ := (k6 a'.o (fun z => by rw [z, hD] at e1; cases e1)).trans e1
                  walk_at "gf"
                  refine iteNe (fun c => ?_) (fun c => ?_)
                  · exact ⟨_, rfl, hy (decide_eq_true c)⟩
                  · exact hno (decide_eq_false (fun z => z c))
                · intro HB eD kB
                  have MB := MA.drop sA (m8 + 10) hD eD kB
                  have PB := Pu.list sA hD eD kB
                  walk_at "gf"
                  exact ⟨U9, D, p9, _, _, _, .non, _, _, _, _, _, _, _, rfl, v9, ⟨PB.vh, hd9, SA.pu PB, MB, ok9, Nat.le_trans (List.length_filter_le _ _) (by omega)⟩, .inr ⟨o, lt, le, lw, ep, RA.pu PB, rfl⟩⟩
              · walk_at "gf"
                intro kd HK hkd kK nK
                have P7 : Pu U H6 U HK := ⟨Same.refl _, fun b u e => (kK b (by rw [L6.sU b u e]; exact fun z => by cases z)).trans (L6.sU b u e), fun _ h _ => h, nK, kK⟩
                have L7 := L6.pu P7
                clear P7 kK nK L6
                walk_at "gf"
                refine ⟨row / 4320, U, rfl, by omega, L7.sU, fun U8 H8 ob os P8 eob hol => ?_⟩
                have L8 := L7.pu P8
                have v8 := P8.vv
                clear L7 P8 hth
                walk_at "gf"
                refine ⟨fun σ' H' => ∃ (U' : Hp) (p9 : Addr) (w6 : Option V), σ' = [some (.ref a), some (.ref h), some (.ref ml), some (.int (0 + (i : Int))), some (.int row), some (.int (m8 + 10)), w6, v7, some .non, some (.ref p9), some (.str kd), some (.ref ob)] ∧ Same U8 U' ∧ Same U' H' ∧ Md U' H' ml mas ss ∧ ((sr.used = false ∧ ∃ c wd, wrF ss sr kd os = some (c, wd) ∧ Ss A U' H' so sd as ss ∧ ∃ e, U' p9 = some (.tup [.non, .ref e]) ∧ Dp K U' (.ref e) (fD (m8 + 10) c wd)) ∨ (∃ (o lt le lw : Addr), U' p9 = some (.tup [.ref o, .non]) ∧ Rp A.CReply K U' H' o lt le lw [] [] [] ∧ (∀ b, (b = o ∨ b = lt ∨ b = le ∨ b = lw) → ¬ mfoot ml mas b) ∧ ((sr.used = true ∧ Ss A U' H' so sd as ss) ∨ (sr.used = false ∧ wrF ss sr kd os = none ∧ Ss A U' H' so sd as (ss.set ix { sr with ps := putP sr.ps kd os }))))), ?_, ?_⟩
                · walk_at "gf"
                  rename_i la hla pt hpt
                  have P7 := Pu.skip (o := .lst [.str kd, .ref ob]) L8.sU hla
                  have P9 := P7.trans (Pu.skip (o := .tup [.int (m8 + 10), .str "source", .str "write", .ref la]) P7.vh hpt)
                  have ela : (upd (upd H8 la (.lst [.str kd, .ref ob])) pt (.tup [.int (m8 + 10), .str "source", .str "write", .ref la])) la = some (.lst [.str kd, .ref ob]) := (upd_ne (fun z => by rw [← z, upd_same] at hpt; cases hpt)).trans upd_same
                  have ept : (upd (upd H8 la (.lst [.str kd, .ref ob])) pt (.tup [.int (m8 + 10), .str "source", .str "write", .ref la])) pt = some (.tup [.int (m8 + 10), .str "source", .str "write", .ref la]) := upd_same
                  have L9 := L8.pu P9
                  generalize upd (upd H8 la (.lst [.str kd, .ref ob])) pt (.tup [.int (m8 + 10), .str "source", .str "write", .ref la]) = HB at L9 ela ept ⊢
                  clear P7 P9 hla hpt L8
                  have has := List.getElem?_eq_getElem (l := as) (i := ix) (by have := L9.S.len; have := (List.getElem?_eq_some_iff.mp hix).1; omega)
                  walk_at "nl"
                  refine ⟨h, so, sd, pt, la, m8 + 10, "source", "write", .non, false, false, _, as, ss, U8, rfl, L9.hd, L9.sU, L9.S, by omega, (L9.ok.few (by omega)).2, ept, by decide +kernel, ela, .inr (.inl ⟨rfl, rfl, kd, ob, os, ix, _, sr, rfl, L9.sU _ _ eob, has, hix, hnr, hol, Nat.le_trans hkd.2 (by decide), fun hu U' H' p9 o lt le lw C9 S9 z1 z2 z3 z4 R9 ep => ?_, fun hu c wd hw U' H' p9 e P9 ep de => ?_, fun hu hw U' H' p9 o lt le lw C9 S9 z1 z2 z3 z4 R9 ep => ?_⟩)⟩
                  · exact ⟨U', p9, _, rfl, C9.vv, C9.vh, L9.M.chf L9.S C9, .inr ⟨o, lt, le, lw, ep, R9, L9.M.nf z1 z2 z3 z4, .inl ⟨hu, S9⟩⟩⟩
                  · exact ⟨U', p9, _, rfl, P9.vv, P9.vh, L9.M.pu P9, .inl ⟨hu, c, wd, hw, L9.S.pu P9, e, ep, de⟩⟩
                  · exact ⟨U', p9, _, rfl, C9.vv, C9.vh, L9.M.chf L9.S C9, .inr ⟨o, lt, le, lw, ep, R9, L9.M.nf z1 z2 z3 z4, .inr ⟨hu, hw, S9⟩⟩⟩
                · rintro σ' H9 ⟨U', p9, w6, rfl, v', s', M', hcase⟩
                  have vv := v8.trans v'
                  have hd' := L8.hd.to v'
                  have hok := L8.ok
                  have pk := L8.S.pk sr (List.mem_of_getElem? hix)
                  have nd := L8.S.nd
                  have eob' := v' _ _ eob
                  clear L8
                  walk_at "gf"
                  walk_at "nl"
                  refine ⟨ml, ob, mas, ss, U', m8 + 10, kd, os, ix, sr, rfl, s', M', hok.few (by omega), hix, hnr, nd, pk, eob', hol, Nat.le_trans hkd.2 (by decide), fun hu => ?_, fun hu c2 wd hw U9 H10 t P9 et => ?_, fun hu hw U9 H10 mas' C9 M9 => ?_⟩
                  · rcases hcase with ⟨hu', _⟩ | ⟨o, lt, le, lw, ep, R, nf, ⟨_, S'⟩ | ⟨hu', _⟩⟩
                    · rw [hu] at hu'; cases hu'
                    · exact ⟨U', ml, p9, _, _, _, .non, _, _, _, _, _, _, _, rfl, vv, ⟨s', hd', S', M', hok, by omega⟩, .inr ⟨o, lt, le, lw, ep, R, rfl⟩⟩
                    · rw [hu] at hu'; cases hu'
                  · rcases hcase with ⟨_, c3, wd3, hw3, S', e, ep, de⟩ | ⟨o, lt, le, lw, ep, R, nf, ⟨hu', _⟩ | ⟨_, hw3, _⟩⟩
                    · rw [hw] at hw3
                      obtain ⟨rfl, rfl⟩ := Prod.mk.inj (Option.some.inj hw3)
                      exact ⟨U9, ml, p9, _, _, _, .ref t, _, _, _, _, _, _, _, rfl, vv.trans P9.vv, ⟨P9.vh, hd'.to P9.vv, S'.pu P9, M'.pu P9, hok, by omega⟩, .inl ⟨e, t, _, _, _, P9.vv _ _ ep, de.to P9.vv, rfl, et, wrF_ok hw⟩⟩
                    · rw [hu] at hu'; cases hu'
                    · rw [hw] at hw3; cases hw3
                  · rcases hcase with ⟨_, c3, wd3, hw3, _⟩ | ⟨o, lt, le, lw, ep, R, nf, ⟨hu', _⟩ | ⟨_, _, S'⟩⟩
                    · rw [hw] at hw3; cases hw3
                    · rw [hu] at hu'; cases hu'
                    · exact ⟨U9, ml, p9, _, _, _, .non, _, _, _, _, _, _, _, rfl, vv.trans C9.vv, ⟨C9.vh, hd'.to C9.vv, Ss.chm S' M' C9, M9, hok.put hix hu pk hkd.1 hw, by rw [List.length_set]; omega⟩, .inr ⟨o, lt, le, lw, C9.vv _ _ ep, R.chm nf C9, rfl⟩⟩
        · rintro σ' H9 ⟨U', ml', p9, as', mas', ss', vf, w3, w4, w5, w6, w7, w10, w11, rfl, v', L', F⟩
          have stop : ∀ H', LI A U' H' h so sd ml' as' mas' ss' (i + 1) → ∃ (U : Hp) (ml : Addr) (as : List (Addr × Addr)) (mas : List MA) (ss : List Src) (v3 v4 v5 v6 v7 v8 v9 v10 v11 : Option V), ([some (.ref a), some (.ref h), some (.ref ml'), w3, w4, w5, w6, w7, some vf, some (.ref p9), w10, w11] : L2.St) = [some (.ref a), some (.ref h), some (.ref ml), v3, v4, v5, v6, v7, v8, v9, v10, v11] ∧ Same U1 U ∧ LI A U H' h so sd ml as mas ss (i + 1) := fun H' L => ⟨U', _, _, _, _, _, _, _, _, _, _, _, _, _, rfl, vU.trans v', L⟩
          rcases F with ⟨e, t, n, c, wd, ep, de, rfl, et, hwd⟩ | ⟨o, lt, le, lw, ep, R, rfl⟩
          · have epH := L'.sU _ _ ep
            have sh : Sh 1 (fD n c wd) := sh_tuple fun dd hdd => by
              simp only [List.mem_cons, List.not_mem_nil, or_false] at hdd
              rcases hdd with rfl | rfl | rfl
              · exact sh_int _
              · exact sh_int _
              · exact sh_str hwd
            walk_at "gf"
            refine t_ne (de.to L'.sU) (d := fD n c wd) (e := fD n c wd) (.tup (L'.sU.sqt (SqT.of et)) (.cons (.int _) (.cons (.int _) (.cons (.str _) .nil)))) sh.shaped sh.shaped ⟨_, rfl, ne_self sh.shaped rfl ?_⟩
            walk_at "gf"
            exact stop _ L'
          · have epH := L'.sU _ _ ep
            obtain ⟨dxo, wa, eo⟩ := R.ob
            obtain ⟨yt, elt, dlt⟩ := R.t
            obtain ⟨yw, elw, dlw⟩ := R.w
            obtain rfl : yt = [] := by cases dlt; rfl
            obtain rfl : yw = [] := by cases dlw; rfl
            walk_at "gf"
            refine t_ne .non .non sh_none.shaped sh_none.shaped ⟨_, rfl, ne_self sh_none.shaped rfl ?_⟩
            walk_at "gf"
            refine ⟨o, A.CReply, dxo, _, _, rfl, eo, T.clReply, T.nReply_wishes, by walk_at "lk", ?_⟩
            walk_at "gf"
            rename_i pn hpn
            have P10 := Pu.skip (o := .lst []) L'.sU hpn
            refine t_ne (.lst (ds := []) (SqL.of ((P10.kp lw (by rw [elw]; exact fun z => by cases z)).trans elw)) .nil) (.lst (ds := []) (SqL.of upd_same) .nil) sh_nil.shaped sh_nil.shaped ⟨_, rfl, ne_self sh_nil.shaped rfl ?_⟩
            have L10 := L'.pu P10
            have elt10 := (P10.kp lt (by rw [elt]; exact fun z => by cases z)).trans elt
            have eo10 := (P10.kp o (by rw [eo]; exact fun z => by cases z)).trans eo
            have ep10 := P10.vh _ _ ep
            generalize upd H9 pn (.lst []) = H10 at L10 elt10 ep10 eo10 ⊢
            clear P10 hpn elt elw epH
            walk_at "gf"
            refine ⟨o, A.CReply, dxo, _, _, rfl, eo10, T.clReply, T.nReply_told, by walk_at "lk", ?_⟩
            walk_at "gf"
            rename_i pn hpn
            have P11 := Pu.skip (o := .lst []) L10.sU hpn
            refine t_ne (.lst (ds := []) (SqL.of ((P11.kp lt (by rw [elt10]; exact fun z => by cases z)).trans elt10)) .nil) (.lst (ds := []) (SqL.of upd_same) .nil) sh_nil.shaped sh_nil.shaped ⟨_, rfl, ne_self sh_nil.shaped rfl ?_⟩
            exact stop _ (L10.pu P11)
    · rintro σ H5 ⟨U, ml, as, mas, ss, v3, v4, v5, v6, v7, v8, v9, v10, v11, rfl, vU, L⟩
      walk_at "gf"
      exact q.go H5
end
theorem all_mk {P : Program} (hP : Prg P) {K : PySem.W.Frag} {h : Heap} {mg : Str → Option Value} {fa : Addr} (X : K.In h) (G : h.Ns mainGlobals mg) (hfa : mg "law" = some (.ref fa))
    {f_check_new : Addr} {od1 an1 : Option Addr} {sl1 : Array (Option Value)} {oc1 kV1 dc1 pm1 cd1 ct1 : Value}
    {fis_integer : Addr} {od2 an2 : Option Addr} {sl2 : Array (Option Value)} {oc2 kV2 dc2 pm2 cd2 ct2 : Value}
    {fis_text : Addr} {od3 an3 : Option Addr} {sl3 : Array (Option Value)} {oc3 kV3 dc3 pm3 cd3 ct3 : Value}
    {fnumber_octets : Addr} {od4 an4 : Option Addr} {sl4 : Array (Option Value)} {oc4 kV4 dc4 pm4 cd4 ct4 : Value}
    {ffield_octets : Addr} {od5 an5 : Option Addr} {sl5 : Array (Option Value)} {oc5 kV5 dc5 pm5 cd5 ct5 : Value}
    {f_is_code : Addr} {od6 an6 : Option Addr} {sl6 : Array (Option Value)} {oc6 kV6 dc6 pm6 cd6 ct6 : Value}
    {f_is_of : Addr} {od7 an7 : Option Addr} {sl7 : Array (Option Value)} {oc7 kV7 dc7 pm7 cd7 ct7 : Value}
    {f_are_octets : Addr} {od8 an8 : Option Addr} {sl8 : Array (Option Value)} {oc8 kV8 dc8 pm8 cd8 ct8 : Value}
    {f_is_bound : Addr} {od9 an9 : Option Addr} {sl9 : Array (Option Value)} {oc9 kV9 dc9 pm9 cd9 ct9 : Value}
    {f_text_octets : Addr} {od10 an10 : Option Addr} {sl10 : Array (Option Value)} {oc10 kV10 dc10 pm10 cd10 ct10 : Value}
    {f_padded : Addr} {od11 an11 : Option Addr} {sl11 : Array (Option Value)} {oc11 kV11 dc11 pm11 cd11 ct11 : Value}
    {fencode_message : Addr} {od12 an12 : Option Addr} {sl12 : Array (Option Value)} {oc12 kV12 dc12 pm12 cd12 ct12 : Value}
    {fevent_octets : Addr} {od13 an13 : Option Addr} {sl13 : Array (Option Value)} {oc13 kV13 dc13 pm13 cd13 ct13 : Value}
    {f_opcode_of : Addr} {od14 an14 : Option Addr} {sl14 : Array (Option Value)} {oc14 kV14 dc14 pm14 cd14 ct14 : Value}
    {f_law_cell : Addr} {od15 an15 : Option Addr} {sl15 : Array (Option Value)} {oc15 kV15 dc15 pm15 cd15 ct15 : Value}
    {f_law_row : Addr} {od16 an16 : Option Addr} {sl16 : Array (Option Value)} {oc16 kV16 dc16 pm16 cd16 ct16 : Value}
    {f_law_serve : Addr} {od17 an17 : Option Addr} {sl17 : Array (Option Value)} {oc17 kV17 dc17 pm17 cd17 ct17 : Value}
    {f_law_kind : Addr} {od18 an18 : Option Addr} {sl18 : Array (Option Value)} {oc18 kV18 dc18 pm18 cd18 ct18 : Value}
    {f_law_octets : Addr} {od19 an19 : Option Addr} {sl19 : Array (Option Value)} {oc19 kV19 dc19 pm19 cd19 ct19 : Value}
    {f_law_total : Addr} {od20 an20 : Option Addr} {sl20 : Array (Option Value)} {oc20 kV20 dc20 pm20 cd20 ct20 : Value}
    {f_law_write : Addr} {od21 an21 : Option Addr} {sl21 : Array (Option Value)} {oc21 kV21 dc21 pm21 cd21 ct21 : Value}
    {f_law_goods : Addr} {od22 an22 : Option Addr} {sl22 : Array (Option Value)} {oc22 kV22 dc22 pm22 cd22 ct22 : Value}
    {f_law_give : Addr} {od23 an23 : Option Addr} {sl23 : Array (Option Value)} {oc23 kV23 dc23 pm23 cd23 ct23 : Value}
    {flaw : Addr} {od24 an24 : Option Addr} {sl24 : Array (Option Value)} {oc24 kV24 dc24 pm24 cd24 ct24 : Value}
    {fFault___init__ : Addr} {od25 an25 : Option Addr} {sl25 : Array (Option Value)} {oc25 kV25 dc25 pm25 ct25 : Value}
    {cc25 cda25 : Addr} {cl25 ccl25 : Value} {cld25 cdd25 : Option Addr} {csl25 ccs25 : Array (Option Value)} {fvs25 : Array Value} {tf25 : Tok} {cdD25 : ClassData}
    {fCaptures___init__ : Addr} {od26 an26 : Option Addr} {sl26 : Array (Option Value)} {oc26 kV26 dc26 pm26 cd26 ct26 : Value}
    {fCaptures_make : Addr} {od27 an27 : Option Addr} {sl27 : Array (Option Value)} {oc27 kV27 dc27 pm27 cd27 ct27 : Value}
    {fCaptures_read : Addr} {od28 an28 : Option Addr} {sl28 : Array (Option Value)} {oc28 kV28 dc28 pm28 cd28 ct28 : Value}
    {fCaptures_forget : Addr} {od29 an29 : Option Addr} {sl29 : Array (Option Value)} {oc29 kV29 dc29 pm29 cd29 ct29 : Value}
    {fFetch___init__ : Addr} {od30 an30 : Option Addr} {sl30 : Array (Option Value)} {oc30 kV30 dc30 pm30 cd30 ct30 : Value}
    {fWatch___init__ : Addr} {od31 an31 : Option Addr} {sl31 : Array (Option Value)} {oc31 kV31 dc31 pm31 cd31 ct31 : Value}
    {fFetches___init__ : Addr} {od32 an32 : Option Addr} {sl32 : Array (Option Value)} {oc32 kV32 dc32 pm32 cd32 ct32 : Value}
    {fFetches_make_fetch : Addr} {od33 an33 : Option Addr} {sl33 : Array (Option Value)} {oc33 kV33 dc33 pm33 cd33 ct33 : Value}
    {fFetches_make_watch : Addr} {od34 an34 : Option Addr} {sl34 : Array (Option Value)} {oc34 kV34 dc34 pm34 cd34 ct34 : Value}
    {fFetches_read : Addr} {od35 an35 : Option Addr} {sl35 : Array (Option Value)} {oc35 kV35 dc35 pm35 cd35 ct35 : Value}
    {fFetches_forget : Addr} {od36 an36 : Option Addr} {sl36 : Array (Option Value)} {oc36 kV36 dc36 pm36 cd36 ct36 : Value}
    {fOffers___init__ : Addr} {od37 an37 : Option Addr} {sl37 : Array (Option Value)} {oc37 kV37 dc37 pm37 cd37 ct37 : Value}
    {fOffers_forget : Addr} {od38 an38 : Option Addr} {sl38 : Array (Option Value)} {oc38 kV38 dc38 pm38 cd38 ct38 : Value}
    {fOffers_read : Addr} {od39 an39 : Option Addr} {sl39 : Array (Option Value)} {oc39 kV39 dc39 pm39 cd39 ct39 : Value}
    {fSource___init__ : Addr} {od40 an40 : Option Addr} {sl40 : Array (Option Value)} {oc40 kV40 dc40 pm40 cd40 ct40 : Value}
    {fSources___init__ : Addr} {od41 an41 : Option Addr} {sl41 : Array (Option Value)} {oc41 kV41 dc41 pm41 cd41 ct41 : Value}
    {fSources_make : Addr} {od42 an42 : Option Addr} {sl42 : Array (Option Value)} {oc42 kV42 dc42 pm42 cd42 ct42 : Value}
    {fSources_write : Addr} {od43 an43 : Option Addr} {sl43 : Array (Option Value)} {oc43 kV43 dc43 pm43 cd43 ct43 : Value}
    {fSources_is_used : Addr} {od44 an44 : Option Addr} {sl44 : Array (Option Value)} {oc44 kV44 dc44 pm44 cd44 ct44 : Value}
    {fSources_use_up : Addr} {od45 an45 : Option Addr} {sl45 : Array (Option Value)} {oc45 kV45 dc45 pm45 cd45 ct45 : Value}
    {fSources_forget : Addr} {od46 an46 : Option Addr} {sl46 : Array (Option Value)} {oc46 kV46 dc46 pm46 cd46 ct46 : Value}
    {fSources__fresh : Addr} {od47 an47 : Option Addr} {sl47 : Array (Option Value)} {oc47 kV47 dc47 pm47 cd47 ct47 : Value}
    {fHoldings___init__ : Addr} {od48 an48 : Option Addr} {sl48 : Array (Option Value)} {oc48 kV48 dc48 pm48 cd48 ct48 : Value}
    {fHoldings_serve : Addr} {od49 an49 : Option Addr} {sl49 : Array (Option Value)} {oc49 kV49 dc49 pm49 cd49 ct49 : Value}
    {fHoldings_ended : Addr} {od50 an50 : Option Addr} {sl50 : Array (Option Value)} {oc50 kV50 dc50 pm50 cd50 ct50 : Value}
    {fHoldings__serve_transfer : Addr} {od51 an51 : Option Addr} {sl51 : Array (Option Value)} {oc51 kV51 dc51 pm51 cd51 ct51 : Value}
    {fHoldings__give : Addr} {od52 an52 : Option Addr} {sl52 : Array (Option Value)} {oc52 kV52 dc52 pm52 cd52 ct52 : Value}
    {fHoldings__send : Addr} {od53 an53 : Option Addr} {sl53 : Array (Option Value)} {oc53 kV53 dc53 pm53 cd53 ct53 : Value}
    {fHoldings__unsend : Addr} {od54 an54 : Option Addr} {sl54 : Array (Option Value)} {oc54 kV54 dc54 pm54 cd54 ct54 : Value}
    {fReply___init__ : Addr} {od55 an55 : Option Addr} {sl55 : Array (Option Value)} {oc55 kV55 dc55 pm55 cd55 ct55 : Value}
    {fReply_tell : Addr} {od56 an56 : Option Addr} {sl56 : Array (Option Value)} {oc56 kV56 dc56 pm56 cd56 ct56 : Value}
    {fReply_wish : Addr} {od57 an57 : Option Addr} {sl57 : Array (Option Value)} {oc57 kV57 dc57 pm57 cd57 ct57 : Value}
    {fRequest___init__ : Addr} {od58 an58 : Option Addr} {sl58 : Array (Option Value)} {oc58 kV58 dc58 pm58 cd58 ct58 : Value}
    {tLONGEST_SIDE : Tok}
    {tMOST_PIXELS : Tok}
    {tMOST_CAPTURES : Tok}
    {tMOST_READ_captures : Tok}
    {tLONGEST_TEXT_fetches : Tok}
    {tMOST_FETCHES : Tok}
    {tMOST_WATCHES : Tok}
    {tMOST_READ_fetches : Tok}
    {tMOST_READ_offers : Tok}
    {tMOST_SOURCES : Tok}
    {tMOST_KINDS : Tok}
    {tMOST_OCTETS_sources : Tok}
    {tLONGEST_TEXT_sources : Tok}
    {tMOST_SENT_OCTETS : Tok}
    {tMOST_SENT_NAMES : Tok}
    {tGREATEST_NUMBER : Tok}
    {tLEAST_INT : Tok}
    {tGREATEST_INT : Tok}
    {tLONGEST_TEXT_fields : Tok}
    {tMOST_OCTETS_fields : Tok}
    {t_FIRST_CODE : Tok}
    {t_LAST_CODE : Tok}
    {t_PERCENT_CODE : Tok}
    {tHEADER_SIZE : Tok}
    {tGREATEST_SIZE : Tok}
    {tGREATEST_OPCODE : Tok}
    {tMOST_ARGUMENTS : Tok}
    {a_EVENTS : Addr}
    {CCaptures : Addr}
    {CFetch : Addr}
    {CWatch : Addr}
    {CFetches : Addr}
    {COffers : Addr}
    {CSource : Addr}
    {CSources : Addr}
    {CHoldings : Addr}
    {CReply : Addr}
    {CRequest : Addr}
    {CBadMessage : Addr}
    {CMessageTooLong : Addr}
    {CFault : Addr}
    {nmFault qnFault : Str} {NFault : Addr} {bsFault bmFault : List Value} {snFault : List Str} {sbFault : List Value} {abFault : Bool} {coFault : Option Bool} {ddFault : Option Addr} {k0Fault k1Fault k2Fault k3Fault k5Fault : Option Value}
    (a1 : PySem.W.nsIn K mainGlobals "_check_new" = some (some (.ref f_check_new)))
    (l1 : K.lookup f_check_new = some ⟨oc1, od1, .func (PySem.W.fnOf "_check_new" "_check_new" (defArgs s__check_new) (defBody s__check_new) (defScope s__check_new) .none kV1 dc1 pm1 an1 cd1 ct1), sl1⟩) (c1 : PySem.W.codeIn K cd1 "_check_new" = true) (k1 : PySem.W.keepIn K (.ref f_check_new) = true)
    (a2 : PySem.W.nsIn K mainGlobals "is_integer" = some (some (.ref fis_integer)))
    (l2 : K.lookup fis_integer = some ⟨oc2, od2, .func (PySem.W.fnOf "is_integer" "is_integer" (defArgs s_is_integer) (defBody s_is_integer) (defScope s_is_integer) .none kV2 dc2 pm2 an2 cd2 ct2), sl2⟩) (c2 : PySem.W.codeIn K cd2 "is_integer" = true) (k2 : PySem.W.keepIn K (.ref fis_integer) = true)
    (a3 : PySem.W.nsIn K mainGlobals "is_text" = some (some (.ref fis_text)))
    (l3 : K.lookup fis_text = some ⟨oc3, od3, .func (PySem.W.fnOf "is_text" "is_text" (defArgs s_is_text) (defBody s_is_text) (defScope s_is_text) .none kV3 dc3 pm3 an3 cd3 ct3), sl3⟩) (c3 : PySem.W.codeIn K cd3 "is_text" = true) (k3 : PySem.W.keepIn K (.ref fis_text) = true)
    (a4 : PySem.W.nsIn K mainGlobals "number_octets" = some (some (.ref fnumber_octets)))
    (l4 : K.lookup fnumber_octets = some ⟨oc4, od4, .func (PySem.W.fnOf "number_octets" "number_octets" (defArgs s_number_octets) (defBody s_number_octets) (defScope s_number_octets) .none kV4 dc4 pm4 an4 cd4 ct4), sl4⟩) (c4 : PySem.W.codeIn K cd4 "number_octets" = true) (k4 : PySem.W.keepIn K (.ref fnumber_octets) = true)
    (a5 : PySem.W.nsIn K mainGlobals "field_octets" = some (some (.ref ffield_octets)))
    (l5 : K.lookup ffield_octets = some ⟨oc5, od5, .func (PySem.W.fnOf "field_octets" "field_octets" (defArgs s_field_octets) (defBody s_field_octets) (defScope s_field_octets) .none kV5 dc5 pm5 an5 cd5 ct5), sl5⟩) (c5 : PySem.W.codeIn K cd5 "field_octets" = true) (k5 : PySem.W.keepIn K (.ref ffield_octets) = true)
    (a6 : PySem.W.nsIn K mainGlobals "_is_code" = some (some (.ref f_is_code)))
    (l6 : K.lookup f_is_code = some ⟨oc6, od6, .func (PySem.W.fnOf "_is_code" "_is_code" (defArgs s__is_code) (defBody s__is_code) (defScope s__is_code) .none kV6 dc6 pm6 an6 cd6 ct6), sl6⟩) (c6 : PySem.W.codeIn K cd6 "_is_code" = true) (k6 : PySem.W.keepIn K (.ref f_is_code) = true)
    (a7 : PySem.W.nsIn K mainGlobals "_is_of" = some (some (.ref f_is_of)))
    (l7 : K.lookup f_is_of = some ⟨oc7, od7, .func (PySem.W.fnOf "_is_of" "_is_of" (defArgs s__is_of) (defBody s__is_of) (defScope s__is_of) .none kV7 dc7 pm7 an7 cd7 ct7), sl7⟩) (c7 : PySem.W.codeIn K cd7 "_is_of" = true) (k7 : PySem.W.keepIn K (.ref f_is_of) = true)
    (a8 : PySem.W.nsIn K mainGlobals "_are_octets" = some (some (.ref f_are_octets)))
    (l8 : K.lookup f_are_octets = some ⟨oc8, od8, .func (PySem.W.fnOf "_are_octets" "_are_octets" (defArgs s__are_octets) (defBody s__are_octets) (defScope s__are_octets) .none kV8 dc8 pm8 an8 cd8 ct8), sl8⟩) (c8 : PySem.W.codeIn K cd8 "_are_octets" = true) (k8 : PySem.W.keepIn K (.ref f_are_octets) = true)
    (a9 : PySem.W.nsIn K mainGlobals "_is_bound" = some (some (.ref f_is_bound)))
    (l9 : K.lookup f_is_bound = some ⟨oc9, od9, .func (PySem.W.fnOf "_is_bound" "_is_bound" (defArgs s__is_bound) (defBody s__is_bound) (defScope s__is_bound) .none kV9 dc9 pm9 an9 cd9 ct9), sl9⟩) (c9 : PySem.W.codeIn K cd9 "_is_bound" = true) (k9 : PySem.W.keepIn K (.ref f_is_bound) = true)
    (a10 : PySem.W.nsIn K mainGlobals "_text_octets" = some (some (.ref f_text_octets)))
    (l10 : K.lookup f_text_octets = some ⟨oc10, od10, .func (PySem.W.fnOf "_text_octets" "_text_octets" (defArgs s__text_octets) (defBody s__text_octets) (defScope s__text_octets) .none kV10 dc10 pm10 an10 cd10 ct10), sl10⟩) (c10 : PySem.W.codeIn K cd10 "_text_octets" = true) (k10 : PySem.W.keepIn K (.ref f_text_octets) = true)
    (a11 : PySem.W.nsIn K mainGlobals "_padded" = some (some (.ref f_padded)))
    (l11 : K.lookup f_padded = some ⟨oc11, od11, .func (PySem.W.fnOf "_padded" "_padded" (defArgs s__padded) (defBody s__padded) (defScope s__padded) .none kV11 dc11 pm11 an11 cd11 ct11), sl11⟩) (c11 : PySem.W.codeIn K cd11 "_padded" = true) (k11 : PySem.W.keepIn K (.ref f_padded) = true)
    (a12 : PySem.W.nsIn K mainGlobals "encode_message" = some (some (.ref fencode_message)))
    (l12 : K.lookup fencode_message = some ⟨oc12, od12, .func (PySem.W.fnOf "encode_message" "encode_message" (defArgs s_encode_message) (defBody s_encode_message) (defScope s_encode_message) .none kV12 dc12 pm12 an12 cd12 ct12), sl12⟩) (c12 : PySem.W.codeIn K cd12 "encode_message" = true) (k12 : PySem.W.keepIn K (.ref fencode_message) = true)
    (a13 : PySem.W.nsIn K mainGlobals "event_octets" = some (some (.ref fevent_octets)))
    (l13 : K.lookup fevent_octets = some ⟨oc13, od13, .func (PySem.W.fnOf "event_octets" "event_octets" (defArgs s_event_octets) (defBody s_event_octets) (defScope s_event_octets) .none kV13 dc13 pm13 an13 cd13 ct13), sl13⟩) (c13 : PySem.W.codeIn K cd13 "event_octets" = true) (k13 : PySem.W.keepIn K (.ref fevent_octets) = true)
    (a14 : PySem.W.nsIn K mainGlobals "_opcode_of" = some (some (.ref f_opcode_of)))
    (l14 : K.lookup f_opcode_of = some ⟨oc14, od14, .func (PySem.W.fnOf "_opcode_of" "_opcode_of" (defArgs s__opcode_of) (defBody s__opcode_of) (defScope s__opcode_of) .none kV14 dc14 pm14 an14 cd14 ct14), sl14⟩) (c14 : PySem.W.codeIn K cd14 "_opcode_of" = true) (k14 : PySem.W.keepIn K (.ref f_opcode_of) = true)
    (a15 : PySem.W.nsIn K mainGlobals "_law_cell" = some (some (.ref f_law_cell)))
    (l15 : K.lookup f_law_cell = some ⟨oc15, od15, .func (PySem.W.fnOf "_law_cell" "_law_cell" (defArgs s__law_cell) (defBody s__law_cell) (defScope s__law_cell) .none kV15 dc15 pm15 an15 cd15 ct15), sl15⟩) (c15 : PySem.W.codeIn K cd15 "_law_cell" = true) (k15 : PySem.W.keepIn K (.ref f_law_cell) = true)
    (a16 : PySem.W.nsIn K mainGlobals "_law_row" = some (some (.ref f_law_row)))
    (l16 : K.lookup f_law_row = some ⟨oc16, od16, .func (PySem.W.fnOf "_law_row" "_law_row" (defArgs s__law_row) (defBody s__law_row) (defScope s__law_row) .none kV16 dc16 pm16 an16 cd16 ct16), sl16⟩) (c16 : PySem.W.codeIn K cd16 "_law_row" = true) (k16 : PySem.W.keepIn K (.ref f_law_row) = true)
    (a17 : PySem.W.nsIn K mainGlobals "_law_serve" = some (some (.ref f_law_serve)))
    (l17 : K.lookup f_law_serve = some ⟨oc17, od17, .func (PySem.W.fnOf "_law_serve" "_law_serve" (defArgs s__law_serve) (defBody s__law_serve) (defScope s__law_serve) .none kV17 dc17 pm17 an17 cd17 ct17), sl17⟩) (c17 : PySem.W.codeIn K cd17 "_law_serve" = true) (k17 : PySem.W.keepIn K (.ref f_law_serve) = true)
    (a18 : PySem.W.nsIn K mainGlobals "_law_kind" = some (some (.ref f_law_kind)))
    (l18 : K.lookup f_law_kind = some ⟨oc18, od18, .func (PySem.W.fnOf "_law_kind" "_law_kind" (defArgs s__law_kind) (defBody s__law_kind) (defScope s__law_kind) .none kV18 dc18 pm18 an18 cd18 ct18), sl18⟩) (c18 : PySem.W.codeIn K cd18 "_law_kind" = true) (k18 : PySem.W.keepIn K (.ref f_law_kind) = true)
    (a19 : PySem.W.nsIn K mainGlobals "_law_octets" = some (some (.ref f_law_octets)))
    (l19 : K.lookup f_law_octets = some ⟨oc19, od19, .func (PySem.W.fnOf "_law_octets" "_law_octets" (defArgs s__law_octets) (defBody s__law_octets) (defScope s__law_octets) .none kV19 dc19 pm19 an19 cd19 ct19), sl19⟩) (c19 : PySem.W.codeIn K cd19 "_law_octets" = true) (k19 : PySem.W.keepIn K (.ref f_law_octets) = true)
    (a20 : PySem.W.nsIn K mainGlobals "_law_total" = some (some (.ref f_law_total)))
    (l20 : K.lookup f_law_total = some ⟨oc20, od20, .func (PySem.W.fnOf "_law_total" "_law_total" (defArgs s__law_total) (defBody s__law_total) (defScope s__law_total) .none kV20 dc20 pm20 an20 cd20 ct20), sl20⟩) (c20 : PySem.W.codeIn K cd20 "_law_total" = true) (k20 : PySem.W.keepIn K (.ref f_law_total) = true)
    (a21 : PySem.W.nsIn K mainGlobals "_law_write" = some (some (.ref f_law_write)))
    (l21 : K.lookup f_law_write = some ⟨oc21, od21, .func (PySem.W.fnOf "_law_write" "_law_write" (defArgs s__law_write) (defBody s__law_write) (defScope s__law_write) .none kV21 dc21 pm21 an21 cd21 ct21), sl21⟩) (c21 : PySem.W.codeIn K cd21 "_law_write" = true) (k21 : PySem.W.keepIn K (.ref f_law_write) = true)
    (a22 : PySem.W.nsIn K mainGlobals "_law_goods" = some (some (.ref f_law_goods)))
    (l22 : K.lookup f_law_goods = some ⟨oc22, od22, .func (PySem.W.fnOf "_law_goods" "_law_goods" (defArgs s__law_goods) (defBody s__law_goods) (defScope s__law_goods) .none kV22 dc22 pm22 an22 cd22 ct22), sl22⟩) (c22 : PySem.W.codeIn K cd22 "_law_goods" = true) (k22 : PySem.W.keepIn K (.ref f_law_goods) = true)
    (a23 : PySem.W.nsIn K mainGlobals "_law_give" = some (some (.ref f_law_give)))
    (l23 : K.lookup f_law_give = some ⟨oc23, od23, .func (PySem.W.fnOf "_law_give" "_law_give" (defArgs s__law_give) (defBody s__law_give) (defScope s__law_give) .none kV23 dc23 pm23 an23 cd23 ct23), sl23⟩) (c23 : PySem.W.codeIn K cd23 "_law_give" = true) (k23 : PySem.W.keepIn K (.ref f_law_give) = true)
    (a24 : PySem.W.nsIn K mainGlobals "law" = some (some (.ref flaw)))
    (l24 : K.lookup flaw = some ⟨oc24, od24, .func (PySem.W.fnOf "law" "law" (defArgs s_law) (defBody s_law) (defScope s_law) .none kV24 dc24 pm24 an24 cd24 ct24), sl24⟩) (c24 : PySem.W.codeIn K cd24 "law" = true) (k24 : PySem.W.keepIn K (.ref flaw) = true)
    (a25 : PySem.W.findIn K (.ref CFault) "__init__" = some (some (.ref fFault___init__)))
    (i25 : PySem.W.isFn K (.ref fFault___init__) = true)
    (l25 : K.lookup fFault___init__ = some ⟨oc25, od25, .func (PySem.W.fnX "__init__" "Fault.__init__" (defArgs s_Fault___init__) (defBody s_Fault___init__) (defScope s_Fault___init__) [("__class__", cc25)] .none kV25 dc25 pm25 an25 (.ref cda25) ct25), sl25⟩) (c25 : PySem.W.codeIn K (.ref cda25) "Fault.__init__" = true) (k25 : PySem.W.keepIn K (.ref fFault___init__) = true)
    (lc25 : K.lookup cc25 = some ⟨cl25, cld25, .cell (some (.ref CFault)), csl25⟩) (ld25 : K.lookup cda25 = some ⟨ccl25, cdd25, .fields fvs25, ccs25⟩) (rv25 : fvs25[2]? = some (.str "/claim/cut.py" tf25)) (lD25 : PySem.W.clsIn K CFault = some cdD25) (ty25 : PySem.W.typeIn K (.ref fFault___init__) = some (.type "function"))
    (a26 : PySem.W.findIn K (.ref CCaptures) "__init__" = some (some (.ref fCaptures___init__)))
    (i26 : PySem.W.isFn K (.ref fCaptures___init__) = true)
    (l26 : K.lookup fCaptures___init__ = some ⟨oc26, od26, .func (PySem.W.fnOf "__init__" "Captures.__init__" (defArgs s_Captures___init__) (defBody s_Captures___init__) (defScope s_Captures___init__) .none kV26 dc26 pm26 an26 cd26 ct26), sl26⟩) (c26 : PySem.W.codeIn K cd26 "Captures.__init__" = true) (k26 : PySem.W.keepIn K (.ref fCaptures___init__) = true)
    (a27 : PySem.W.findIn K (.ref CCaptures) "make" = some (some (.ref fCaptures_make)))
    (i27 : PySem.W.isFn K (.ref fCaptures_make) = true)
    (l27 : K.lookup fCaptures_make = some ⟨oc27, od27, .func (PySem.W.fnOf "make" "Captures.make" (defArgs s_Captures_make) (defBody s_Captures_make) (defScope s_Captures_make) .none kV27 dc27 pm27 an27 cd27 ct27), sl27⟩) (c27 : PySem.W.codeIn K cd27 "Captures.make" = true) (k27 : PySem.W.keepIn K (.ref fCaptures_make) = true)
    (a28 : PySem.W.findIn K (.ref CCaptures) "read" = some (some (.ref fCaptures_read)))
    (i28 : PySem.W.isFn K (.ref fCaptures_read) = true)
    (l28 : K.lookup fCaptures_read = some ⟨oc28, od28, .func (PySem.W.fnOf "read" "Captures.read" (defArgs s_Captures_read) (defBody s_Captures_read) (defScope s_Captures_read) .none kV28 dc28 pm28 an28 cd28 ct28), sl28⟩) (c28 : PySem.W.codeIn K cd28 "Captures.read" = true) (k28 : PySem.W.keepIn K (.ref fCaptures_read) = true)
    (a29 : PySem.W.findIn K (.ref CCaptures) "forget" = some (some (.ref fCaptures_forget)))
    (i29 : PySem.W.isFn K (.ref fCaptures_forget) = true)
    (l29 : K.lookup fCaptures_forget = some ⟨oc29, od29, .func (PySem.W.fnOf "forget" "Captures.forget" (defArgs s_Captures_forget) (defBody s_Captures_forget) (defScope s_Captures_forget) .none kV29 dc29 pm29 an29 cd29 ct29), sl29⟩) (c29 : PySem.W.codeIn K cd29 "Captures.forget" = true) (k29 : PySem.W.keepIn K (.ref fCaptures_forget) = true)
    (a30 : PySem.W.findIn K (.ref CFetch) "__init__" = some (some (.ref fFetch___init__)))
    (i30 : PySem.W.isFn K (.ref fFetch___init__) = true)
    (l30 : K.lookup fFetch___init__ = some ⟨oc30, od30, .func (PySem.W.fnOf "__init__" "Fetch.__init__" (defArgs s_Fetch___init__) (defBody s_Fetch___init__) (defScope s_Fetch___init__) .none kV30 dc30 pm30 an30 cd30 ct30), sl30⟩) (c30 : PySem.W.codeIn K cd30 "Fetch.__init__" = true) (k30 : PySem.W.keepIn K (.ref fFetch___init__) = true)
    (a31 : PySem.W.findIn K (.ref CWatch) "__init__" = some (some (.ref fWatch___init__)))
    (i31 : PySem.W.isFn K (.ref fWatch___init__) = true)
    (l31 : K.lookup fWatch___init__ = some ⟨oc31, od31, .func (PySem.W.fnOf "__init__" "Watch.__init__" (defArgs s_Watch___init__) (defBody s_Watch___init__) (defScope s_Watch___init__) .none kV31 dc31 pm31 an31 cd31 ct31), sl31⟩) (c31 : PySem.W.codeIn K cd31 "Watch.__init__" = true) (k31 : PySem.W.keepIn K (.ref fWatch___init__) = true)
    (a32 : PySem.W.findIn K (.ref CFetches) "__init__" = some (some (.ref fFetches___init__)))
    (i32 : PySem.W.isFn K (.ref fFetches___init__) = true)
    (l32 : K.lookup fFetches___init__ = some ⟨oc32, od32, .func (PySem.W.fnOf "__init__" "Fetches.__init__" (defArgs s_Fetches___init__) (defBody s_Fetches___init__) (defScope s_Fetches___init__) .none kV32 dc32 pm32 an32 cd32 ct32), sl32⟩) (c32 : PySem.W.codeIn K cd32 "Fetches.__init__" = true) (k32 : PySem.W.keepIn K (.ref fFetches___init__) = true)
    (a33 : PySem.W.findIn K (.ref CFetches) "make_fetch" = some (some (.ref fFetches_make_fetch)))
    (i33 : PySem.W.isFn K (.ref fFetches_make_fetch) = true)
    (l33 : K.lookup fFetches_make_fetch = some ⟨oc33, od33, .func (PySem.W.fnOf "make_fetch" "Fetches.make_fetch" (defArgs s_Fetches_make_fetch) (defBody s_Fetches_make_fetch) (defScope s_Fetches_make_fetch) .none kV33 dc33 pm33 an33 cd33 ct33), sl33⟩) (c33 : PySem.W.codeIn K cd33 "Fetches.make_fetch" = true) (k33 : PySem.W.keepIn K (.ref fFetches_make_fetch) = true)
    (a34 : PySem.W.findIn K (.ref CFetches) "make_watch" = some (some (.ref fFetches_make_watch)))
    (i34 : PySem.W.isFn K (.ref fFetches_make_watch) = true)
    (l34 : K.lookup fFetches_make_watch = some ⟨oc34, od34, .func (PySem.W.fnOf "make_watch" "Fetches.make_watch" (defArgs s_Fetches_make_watch) (defBody s_Fetches_make_watch) (defScope s_Fetches_make_watch) .none kV34 dc34 pm34 an34 cd34 ct34), sl34⟩) (c34 : PySem.W.codeIn K cd34 "Fetches.make_watch" = true) (k34 : PySem.W.keepIn K (.ref fFetches_make_watch) = true)
    (a35 : PySem.W.findIn K (.ref CFetches) "read" = some (some (.ref fFetches_read)))
    (i35 : PySem.W.isFn K (.ref fFetches_read) = true)
    (l35 : K.lookup fFetches_read = some ⟨oc35, od35, .func (PySem.W.fnOf "read" "Fetches.read" (defArgs s_Fetches_read) (defBody s_Fetches_read) (defScope s_Fetches_read) .none kV35 dc35 pm35 an35 cd35 ct35), sl35⟩) (c35 : PySem.W.codeIn K cd35 "Fetches.read" = true) (k35 : PySem.W.keepIn K (.ref fFetches_read) = true)
    (a36 : PySem.W.findIn K (.ref CFetches) "forget" = some (some (.ref fFetches_forget)))
    (i36 : PySem.W.isFn K (.ref fFetches_forget) = true)
    (l36 : K.lookup fFetches_forget = some ⟨oc36, od36, .func (PySem.W.fnOf "forget" "Fetches.forget" (defArgs s_Fetches_forget) (defBody s_Fetches_forget) (defScope s_Fetches_forget) .none kV36 dc36 pm36 an36 cd36 ct36), sl36⟩) (c36 : PySem.W.codeIn K cd36 "Fetches.forget" = true) (k36 : PySem.W.keepIn K (.ref fFetches_forget) = true)
    (a37 : PySem.W.findIn K (.ref COffers) "__init__" = some (some (.ref fOffers___init__)))
    (i37 : PySem.W.isFn K (.ref fOffers___init__) = true)
    (l37 : K.lookup fOffers___init__ = some ⟨oc37, od37, .func (PySem.W.fnOf "__init__" "Offers.__init__" (defArgs s_Offers___init__) (defBody s_Offers___init__) (defScope s_Offers___init__) .none kV37 dc37 pm37 an37 cd37 ct37), sl37⟩) (c37 : PySem.W.codeIn K cd37 "Offers.__init__" = true) (k37 : PySem.W.keepIn K (.ref fOffers___init__) = true)
    (a38 : PySem.W.findIn K (.ref COffers) "forget" = some (some (.ref fOffers_forget)))
    (i38 : PySem.W.isFn K (.ref fOffers_forget) = true)
    (l38 : K.lookup fOffers_forget = some ⟨oc38, od38, .func (PySem.W.fnOf "forget" "Offers.forget" (defArgs s_Offers_forget) (defBody s_Offers_forget) (defScope s_Offers_forget) .none kV38 dc38 pm38 an38 cd38 ct38), sl38⟩) (c38 : PySem.W.codeIn K cd38 "Offers.forget" = true) (k38 : PySem.W.keepIn K (.ref fOffers_forget) = true)
    (a39 : PySem.W.findIn K (.ref COffers) "read" = some (some (.ref fOffers_read)))
    (i39 : PySem.W.isFn K (.ref fOffers_read) = true)
    (l39 : K.lookup fOffers_read = some ⟨oc39, od39, .func (PySem.W.fnOf "read" "Offers.read" (defArgs s_Offers_read) (defBody s_Offers_read) (defScope s_Offers_read) .none kV39 dc39 pm39 an39 cd39 ct39), sl39⟩) (c39 : PySem.W.codeIn K cd39 "Offers.read" = true) (k39 : PySem.W.keepIn K (.ref fOffers_read) = true)
    (a40 : PySem.W.findIn K (.ref CSource) "__init__" = some (some (.ref fSource___init__)))
    (i40 : PySem.W.isFn K (.ref fSource___init__) = true)
    (l40 : K.lookup fSource___init__ = some ⟨oc40, od40, .func (PySem.W.fnOf "__init__" "Source.__init__" (defArgs s_Source___init__) (defBody s_Source___init__) (defScope s_Source___init__) .none kV40 dc40 pm40 an40 cd40 ct40), sl40⟩) (c40 : PySem.W.codeIn K cd40 "Source.__init__" = true) (k40 : PySem.W.keepIn K (.ref fSource___init__) = true)
    (a41 : PySem.W.findIn K (.ref CSources) "__init__" = some (some (.ref fSources___init__)))
    (i41 : PySem.W.isFn K (.ref fSources___init__) = true)
    (l41 : K.lookup fSources___init__ = some ⟨oc41, od41, .func (PySem.W.fnOf "__init__" "Sources.__init__" (defArgs s_Sources___init__) (defBody s_Sources___init__) (defScope s_Sources___init__) .none kV41 dc41 pm41 an41 cd41 ct41), sl41⟩) (c41 : PySem.W.codeIn K cd41 "Sources.__init__" = true) (k41 : PySem.W.keepIn K (.ref fSources___init__) = true)
    (a42 : PySem.W.findIn K (.ref CSources) "make" = some (some (.ref fSources_make)))
    (i42 : PySem.W.isFn K (.ref fSources_make) = true)
    (l42 : K.lookup fSources_make = some ⟨oc42, od42, .func (PySem.W.fnOf "make" "Sources.make" (defArgs s_Sources_make) (defBody s_Sources_make) (defScope s_Sources_make) .none kV42 dc42 pm42 an42 cd42 ct42), sl42⟩) (c42 : PySem.W.codeIn K cd42 "Sources.make" = true) (k42 : PySem.W.keepIn K (.ref fSources_make) = true)
    (a43 : PySem.W.findIn K (.ref CSources) "write" = some (some (.ref fSources_write)))
    (i43 : PySem.W.isFn K (.ref fSources_write) = true)
    (l43 : K.lookup fSources_write = some ⟨oc43, od43, .func (PySem.W.fnOf "write" "Sources.write" (defArgs s_Sources_write) (defBody s_Sources_write) (defScope s_Sources_write) .none kV43 dc43 pm43 an43 cd43 ct43), sl43⟩) (c43 : PySem.W.codeIn K cd43 "Sources.write" = true) (k43 : PySem.W.keepIn K (.ref fSources_write) = true)
    (a44 : PySem.W.findIn K (.ref CSources) "is_used" = some (some (.ref fSources_is_used)))
    (i44 : PySem.W.isFn K (.ref fSources_is_used) = true)
    (l44 : K.lookup fSources_is_used = some ⟨oc44, od44, .func (PySem.W.fnOf "is_used" "Sources.is_used" (defArgs s_Sources_is_used) (defBody s_Sources_is_used) (defScope s_Sources_is_used) .none kV44 dc44 pm44 an44 cd44 ct44), sl44⟩) (c44 : PySem.W.codeIn K cd44 "Sources.is_used" = true) (k44 : PySem.W.keepIn K (.ref fSources_is_used) = true)
    (a45 : PySem.W.findIn K (.ref CSources) "use_up" = some (some (.ref fSources_use_up)))
    (i45 : PySem.W.isFn K (.ref fSources_use_up) = true)
    (l45 : K.lookup fSources_use_up = some ⟨oc45, od45, .func (PySem.W.fnOf "use_up" "Sources.use_up" (defArgs s_Sources_use_up) (defBody s_Sources_use_up) (defScope s_Sources_use_up) .none kV45 dc45 pm45 an45 cd45 ct45), sl45⟩) (c45 : PySem.W.codeIn K cd45 "Sources.use_up" = true) (k45 : PySem.W.keepIn K (.ref fSources_use_up) = true)
    (a46 : PySem.W.findIn K (.ref CSources) "forget" = some (some (.ref fSources_forget)))
    (i46 : PySem.W.isFn K (.ref fSources_forget) = true)
    (l46 : K.lookup fSources_forget = some ⟨oc46, od46, .func (PySem.W.fnOf "forget" "Sources.forget" (defArgs s_Sources_forget) (defBody s_Sources_forget) (defScope s_Sources_forget) .none kV46 dc46 pm46 an46 cd46 ct46), sl46⟩) (c46 : PySem.W.codeIn K cd46 "Sources.forget" = true) (k46 : PySem.W.keepIn K (.ref fSources_forget) = true)
    (a47 : PySem.W.findIn K (.ref CSources) "_fresh" = some (some (.ref fSources__fresh)))
    (i47 : PySem.W.isFn K (.ref fSources__fresh) = true)
    (l47 : K.lookup fSources__fresh = some ⟨oc47, od47, .func (PySem.W.fnOf "_fresh" "Sources._fresh" (defArgs s_Sources__fresh) (defBody s_Sources__fresh) (defScope s_Sources__fresh) .none kV47 dc47 pm47 an47 cd47 ct47), sl47⟩) (c47 : PySem.W.codeIn K cd47 "Sources._fresh" = true) (k47 : PySem.W.keepIn K (.ref fSources__fresh) = true)
    (a48 : PySem.W.findIn K (.ref CHoldings) "__init__" = some (some (.ref fHoldings___init__)))
    (i48 : PySem.W.isFn K (.ref fHoldings___init__) = true)
    (l48 : K.lookup fHoldings___init__ = some ⟨oc48, od48, .func (PySem.W.fnOf "__init__" "Holdings.__init__" (defArgs s_Holdings___init__) (defBody s_Holdings___init__) (defScope s_Holdings___init__) .none kV48 dc48 pm48 an48 cd48 ct48), sl48⟩) (c48 : PySem.W.codeIn K cd48 "Holdings.__init__" = true) (k48 : PySem.W.keepIn K (.ref fHoldings___init__) = true)
    (a49 : PySem.W.findIn K (.ref CHoldings) "serve" = some (some (.ref fHoldings_serve)))
    (i49 : PySem.W.isFn K (.ref fHoldings_serve) = true)
    (l49 : K.lookup fHoldings_serve = some ⟨oc49, od49, .func (PySem.W.fnOf "serve" "Holdings.serve" (defArgs s_Holdings_serve) (defBody s_Holdings_serve) (defScope s_Holdings_serve) .none kV49 dc49 pm49 an49 cd49 ct49), sl49⟩) (c49 : PySem.W.codeIn K cd49 "Holdings.serve" = true) (k49 : PySem.W.keepIn K (.ref fHoldings_serve) = true)
    (a50 : PySem.W.findIn K (.ref CHoldings) "ended" = some (some (.ref fHoldings_ended)))
    (i50 : PySem.W.isFn K (.ref fHoldings_ended) = true)
    (l50 : K.lookup fHoldings_ended = some ⟨oc50, od50, .func (PySem.W.fnOf "ended" "Holdings.ended" (defArgs s_Holdings_ended) (defBody s_Holdings_ended) (defScope s_Holdings_ended) .none kV50 dc50 pm50 an50 cd50 ct50), sl50⟩) (c50 : PySem.W.codeIn K cd50 "Holdings.ended" = true) (k50 : PySem.W.keepIn K (.ref fHoldings_ended) = true)
    (a51 : PySem.W.findIn K (.ref CHoldings) "_serve_transfer" = some (some (.ref fHoldings__serve_transfer)))
    (i51 : PySem.W.isFn K (.ref fHoldings__serve_transfer) = true)
    (l51 : K.lookup fHoldings__serve_transfer = some ⟨oc51, od51, .func (PySem.W.fnOf "_serve_transfer" "Holdings._serve_transfer" (defArgs s_Holdings__serve_transfer) (defBody s_Holdings__serve_transfer) (defScope s_Holdings__serve_transfer) .none kV51 dc51 pm51 an51 cd51 ct51), sl51⟩) (c51 : PySem.W.codeIn K cd51 "Holdings._serve_transfer" = true) (k51 : PySem.W.keepIn K (.ref fHoldings__serve_transfer) = true)
    (a52 : PySem.W.findIn K (.ref CHoldings) "_give" = some (some (.ref fHoldings__give)))
    (i52 : PySem.W.isFn K (.ref fHoldings__give) = true)
    (l52 : K.lookup fHoldings__give = some ⟨oc52, od52, .func (PySem.W.fnOf "_give" "Holdings._give" (defArgs s_Holdings__give) (defBody s_Holdings__give) (defScope s_Holdings__give) .none kV52 dc52 pm52 an52 cd52 ct52), sl52⟩) (c52 : PySem.W.codeIn K cd52 "Holdings._give" = true) (k52 : PySem.W.keepIn K (.ref fHoldings__give) = true)
    (a53 : PySem.W.findIn K (.ref CHoldings) "_send" = some (some (.ref fHoldings__send)))
    (i53 : PySem.W.isFn K (.ref fHoldings__send) = true)
    (l53 : K.lookup fHoldings__send = some ⟨oc53, od53, .func (PySem.W.fnOf "_send" "Holdings._send" (defArgs s_Holdings__send) (defBody s_Holdings__send) (defScope s_Holdings__send) .none kV53 dc53 pm53 an53 cd53 ct53), sl53⟩) (c53 : PySem.W.codeIn K cd53 "Holdings._send" = true) (k53 : PySem.W.keepIn K (.ref fHoldings__send) = true)
    (a54 : PySem.W.findIn K (.ref CHoldings) "_unsend" = some (some (.ref fHoldings__unsend)))
    (i54 : PySem.W.isFn K (.ref fHoldings__unsend) = true)
    (l54 : K.lookup fHoldings__unsend = some ⟨oc54, od54, .func (PySem.W.fnOf "_unsend" "Holdings._unsend" (defArgs s_Holdings__unsend) (defBody s_Holdings__unsend) (defScope s_Holdings__unsend) .none kV54 dc54 pm54 an54 cd54 ct54), sl54⟩) (c54 : PySem.W.codeIn K cd54 "Holdings._unsend" = true) (k54 : PySem.W.keepIn K (.ref fHoldings__unsend) = true)
    (a55 : PySem.W.findIn K (.ref CReply) "__init__" = some (some (.ref fReply___init__)))
    (i55 : PySem.W.isFn K (.ref fReply___init__) = true)
    (l55 : K.lookup fReply___init__ = some ⟨oc55, od55, .func (PySem.W.fnOf "__init__" "Reply.__init__" (defArgs s_Reply___init__) (defBody s_Reply___init__) (defScope s_Reply___init__) .none kV55 dc55 pm55 an55 cd55 ct55), sl55⟩) (c55 : PySem.W.codeIn K cd55 "Reply.__init__" = true) (k55 : PySem.W.keepIn K (.ref fReply___init__) = true)
    (a56 : PySem.W.findIn K (.ref CReply) "tell" = some (some (.ref fReply_tell)))
    (i56 : PySem.W.isFn K (.ref fReply_tell) = true)
    (l56 : K.lookup fReply_tell = some ⟨oc56, od56, .func (PySem.W.fnOf "tell" "Reply.tell" (defArgs s_Reply_tell) (defBody s_Reply_tell) (defScope s_Reply_tell) .none kV56 dc56 pm56 an56 cd56 ct56), sl56⟩) (c56 : PySem.W.codeIn K cd56 "Reply.tell" = true) (k56 : PySem.W.keepIn K (.ref fReply_tell) = true)
    (a57 : PySem.W.findIn K (.ref CReply) "wish" = some (some (.ref fReply_wish)))
    (i57 : PySem.W.isFn K (.ref fReply_wish) = true)
    (l57 : K.lookup fReply_wish = some ⟨oc57, od57, .func (PySem.W.fnOf "wish" "Reply.wish" (defArgs s_Reply_wish) (defBody s_Reply_wish) (defScope s_Reply_wish) .none kV57 dc57 pm57 an57 cd57 ct57), sl57⟩) (c57 : PySem.W.codeIn K cd57 "Reply.wish" = true) (k57 : PySem.W.keepIn K (.ref fReply_wish) = true)
    (a58 : PySem.W.findIn K (.ref CRequest) "__init__" = some (some (.ref fRequest___init__)))
    (i58 : PySem.W.isFn K (.ref fRequest___init__) = true)
    (l58 : K.lookup fRequest___init__ = some ⟨oc58, od58, .func (PySem.W.fnOf "__init__" "Request.__init__" (defArgs s_Request___init__) (defBody s_Request___init__) (defScope s_Request___init__) .none kV58 dc58 pm58 an58 cd58 ct58), sl58⟩) (c58 : PySem.W.codeIn K cd58 "Request.__init__" = true) (k58 : PySem.W.keepIn K (.ref fRequest___init__) = true)
    (z_all : PySem.W.nsIn K mainGlobals "all" = some none)
    (z_bool : PySem.W.nsIn K mainGlobals "bool" = some none)
    (z_int : PySem.W.nsIn K mainGlobals "int" = some none)
    (z_isinstance : PySem.W.nsIn K mainGlobals "isinstance" = some none)
    (z_len : PySem.W.nsIn K mainGlobals "len" = some none)
    (z_list : PySem.W.nsIn K mainGlobals "list" = some none)
    (z_max : PySem.W.nsIn K mainGlobals "max" = some none)
    (z_min : PySem.W.nsIn K mainGlobals "min" = some none)
    (z_ord : PySem.W.nsIn K mainGlobals "ord" = some none)
    (z_range : PySem.W.nsIn K mainGlobals "range" = some none)
    (z_str : PySem.W.nsIn K mainGlobals "str" = some none)
    (z_sum : PySem.W.nsIn K mainGlobals "sum" = some none)
    (z_super : PySem.W.nsIn K mainGlobals "super" = some none)
    (z_tuple : PySem.W.nsIn K mainGlobals "tuple" = some none)
    (z_zip : PySem.W.nsIn K mainGlobals "zip" = some none)
    (q_LONGEST_SIDE : PySem.W.nsIn K mainGlobals "LONGEST_SIDE" = some (some (.int (256) tLONGEST_SIDE)))
    (q_MOST_PIXELS : PySem.W.nsIn K mainGlobals "MOST_PIXELS" = some (some (.int (4096) tMOST_PIXELS)))
    (q_MOST_CAPTURES : PySem.W.nsIn K mainGlobals "MOST_CAPTURES" = some (some (.int (2) tMOST_CAPTURES)))
    (q_MOST_READ_captures : PySem.W.nsIn K mainGlobals "MOST_READ_captures" = some (some (.int (1024) tMOST_READ_captures)))
    (q_LONGEST_TEXT_fetches : PySem.W.nsIn K mainGlobals "LONGEST_TEXT_fetches" = some (some (.int (128) tLONGEST_TEXT_fetches)))
    (q_MOST_FETCHES : PySem.W.nsIn K mainGlobals "MOST_FETCHES" = some (some (.int (4) tMOST_FETCHES)))
    (q_MOST_WATCHES : PySem.W.nsIn K mainGlobals "MOST_WATCHES" = some (some (.int (8) tMOST_WATCHES)))
    (q_MOST_READ_fetches : PySem.W.nsIn K mainGlobals "MOST_READ_fetches" = some (some (.int (1024) tMOST_READ_fetches)))
    (q_MOST_READ_offers : PySem.W.nsIn K mainGlobals "MOST_READ_offers" = some (some (.int (1024) tMOST_READ_offers)))
    (q_MOST_SOURCES : PySem.W.nsIn K mainGlobals "MOST_SOURCES" = some (some (.int (8) tMOST_SOURCES)))
    (q_MOST_KINDS : PySem.W.nsIn K mainGlobals "MOST_KINDS" = some (some (.int (16) tMOST_KINDS)))
    (q_MOST_OCTETS_sources : PySem.W.nsIn K mainGlobals "MOST_OCTETS_sources" = some (some (.int (32768) tMOST_OCTETS_sources)))
    (q_LONGEST_TEXT_sources : PySem.W.nsIn K mainGlobals "LONGEST_TEXT_sources" = some (some (.int (128) tLONGEST_TEXT_sources)))
    (q_MOST_SENT_OCTETS : PySem.W.nsIn K mainGlobals "MOST_SENT_OCTETS" = some (some (.int (8192) tMOST_SENT_OCTETS)))
    (q_MOST_SENT_NAMES : PySem.W.nsIn K mainGlobals "MOST_SENT_NAMES" = some (some (.int (4) tMOST_SENT_NAMES)))
    (q_GREATEST_NUMBER : PySem.W.nsIn K mainGlobals "GREATEST_NUMBER" = some (some (.int (4294967295) tGREATEST_NUMBER)))
    (q_LEAST_INT : PySem.W.nsIn K mainGlobals "LEAST_INT" = some (some (.int (-2147483648) tLEAST_INT)))
    (q_GREATEST_INT : PySem.W.nsIn K mainGlobals "GREATEST_INT" = some (some (.int (2147483647) tGREATEST_INT)))
    (q_LONGEST_TEXT_fields : PySem.W.nsIn K mainGlobals "LONGEST_TEXT_fields" = some (some (.int (1000) tLONGEST_TEXT_fields)))
    (q_MOST_OCTETS_fields : PySem.W.nsIn K mainGlobals "MOST_OCTETS_fields" = some (some (.int (16384) tMOST_OCTETS_fields)))
    (q__FIRST_CODE : PySem.W.nsIn K mainGlobals "_FIRST_CODE" = some (some (.int (32) t_FIRST_CODE)))
    (q__LAST_CODE : PySem.W.nsIn K mainGlobals "_LAST_CODE" = some (some (.int (126) t_LAST_CODE)))
    (q__PERCENT_CODE : PySem.W.nsIn K mainGlobals "_PERCENT_CODE" = some (some (.int (37) t_PERCENT_CODE)))
    (q_HEADER_SIZE : PySem.W.nsIn K mainGlobals "HEADER_SIZE" = some (some (.int (8) tHEADER_SIZE)))
    (q_GREATEST_SIZE : PySem.W.nsIn K mainGlobals "GREATEST_SIZE" = some (some (.int (20480) tGREATEST_SIZE)))
    (q_GREATEST_OPCODE : PySem.W.nsIn K mainGlobals "GREATEST_OPCODE" = some (some (.int (65535) tGREATEST_OPCODE)))
    (q_MOST_ARGUMENTS : PySem.W.nsIn K mainGlobals "MOST_ARGUMENTS" = some (some (.int (20) tMOST_ARGUMENTS)))
    (q__EVENTS : PySem.W.nsIn K mainGlobals "_EVENTS" = some (some (.ref a_EVENTS)))
    (uCaptures : PySem.W.nsIn K mainGlobals "Captures" = some (some (.ref CCaptures)))
    (pgCaptures : PySem.W.plainGet K CCaptures Str.empty = true) (hdCaptures : PySem.W.hasDictIn K CCaptures = true) (poCaptures : PySem.W.plainOver K CCaptures = true) (saCaptures : PySem.W.findIn K (.ref CCaptures) "__setattr__" = some (some (.builtin "object.__setattr__"))) (mkCaptures : PySem.W.makesIn K CCaptures = true) (kcCaptures : PySem.W.keepIn K (.ref CCaptures) = true)
    (nCaptures__pictures : PySem.W.findIn K (.ref CCaptures) "_pictures" = some none)
    (uFetch : PySem.W.nsIn K mainGlobals "Fetch" = some (some (.ref CFetch)))
    (pgFetch : PySem.W.plainGet K CFetch Str.empty = true) (hdFetch : PySem.W.hasDictIn K CFetch = true) (poFetch : PySem.W.plainOver K CFetch = true) (saFetch : PySem.W.findIn K (.ref CFetch) "__setattr__" = some (some (.builtin "object.__setattr__"))) (mkFetch : PySem.W.makesIn K CFetch = true) (kcFetch : PySem.W.keepIn K (.ref CFetch) = true)
    (nFetch_name : PySem.W.findIn K (.ref CFetch) "name" = some none)
    (nFetch_octets : PySem.W.findIn K (.ref CFetch) "octets" = some none)
    (uWatch : PySem.W.nsIn K mainGlobals "Watch" = some (some (.ref CWatch)))
    (pgWatch : PySem.W.plainGet K CWatch Str.empty = true) (hdWatch : PySem.W.hasDictIn K CWatch = true) (poWatch : PySem.W.plainOver K CWatch = true) (saWatch : PySem.W.findIn K (.ref CWatch) "__setattr__" = some (some (.builtin "object.__setattr__"))) (mkWatch : PySem.W.makesIn K CWatch = true) (kcWatch : PySem.W.keepIn K (.ref CWatch) = true)
    (nWatch_label : PySem.W.findIn K (.ref CWatch) "label" = some none)
    (nWatch_told : PySem.W.findIn K (.ref CWatch) "told" = some none)
    (uFetches : PySem.W.nsIn K mainGlobals "Fetches" = some (some (.ref CFetches)))
    (pgFetches : PySem.W.plainGet K CFetches Str.empty = true) (hdFetches : PySem.W.hasDictIn K CFetches = true) (poFetches : PySem.W.plainOver K CFetches = true) (saFetches : PySem.W.findIn K (.ref CFetches) "__setattr__" = some (some (.builtin "object.__setattr__"))) (mkFetches : PySem.W.makesIn K CFetches = true) (kcFetches : PySem.W.keepIn K (.ref CFetches) = true)
    (nFetches__fetches : PySem.W.findIn K (.ref CFetches) "_fetches" = some none)
    (nFetches__watches : PySem.W.findIn K (.ref CFetches) "_watches" = some none)
    (uOffers : PySem.W.nsIn K mainGlobals "Offers" = some (some (.ref COffers)))
    (pgOffers : PySem.W.plainGet K COffers Str.empty = true) (hdOffers : PySem.W.hasDictIn K COffers = true) (poOffers : PySem.W.plainOver K COffers = true) (saOffers : PySem.W.findIn K (.ref COffers) "__setattr__" = some (some (.builtin "object.__setattr__"))) (mkOffers : PySem.W.makesIn K COffers = true) (kcOffers : PySem.W.keepIn K (.ref COffers) = true)
    (nOffers__transfers : PySem.W.findIn K (.ref COffers) "_transfers" = some none)
    (nOffers__kept : PySem.W.findIn K (.ref COffers) "_kept" = some none)
    (nOffers__is_hovered : PySem.W.findIn K (.ref COffers) "_is_hovered" = some none)
    (uSource : PySem.W.nsIn K mainGlobals "Source" = some (some (.ref CSource)))
    (pgSource : PySem.W.plainGet K CSource Str.empty = true) (hdSource : PySem.W.hasDictIn K CSource = true) (poSource : PySem.W.plainOver K CSource = true) (saSource : PySem.W.findIn K (.ref CSource) "__setattr__" = some (some (.builtin "object.__setattr__"))) (mkSource : PySem.W.makesIn K CSource = true) (kcSource : PySem.W.keepIn K (.ref CSource) = true)
    (nSource_pieces : PySem.W.findIn K (.ref CSource) "pieces" = some none)
    (nSource_is_used : PySem.W.findIn K (.ref CSource) "is_used" = some none)
    (uSources : PySem.W.nsIn K mainGlobals "Sources" = some (some (.ref CSources)))
    (pgSources : PySem.W.plainGet K CSources Str.empty = true) (hdSources : PySem.W.hasDictIn K CSources = true) (poSources : PySem.W.plainOver K CSources = true) (saSources : PySem.W.findIn K (.ref CSources) "__setattr__" = some (some (.builtin "object.__setattr__"))) (mkSources : PySem.W.makesIn K CSources = true) (kcSources : PySem.W.keepIn K (.ref CSources) = true)
    (nSources__sources : PySem.W.findIn K (.ref CSources) "_sources" = some none)
    (uHoldings : PySem.W.nsIn K mainGlobals "Holdings" = some (some (.ref CHoldings)))
    (pgHoldings : PySem.W.plainGet K CHoldings Str.empty = true) (hdHoldings : PySem.W.hasDictIn K CHoldings = true) (poHoldings : PySem.W.plainOver K CHoldings = true) (saHoldings : PySem.W.findIn K (.ref CHoldings) "__setattr__" = some (some (.builtin "object.__setattr__"))) (mkHoldings : PySem.W.makesIn K CHoldings = true) (kcHoldings : PySem.W.keepIn K (.ref CHoldings) = true)
    (nHoldings__sources : PySem.W.findIn K (.ref CHoldings) "_sources" = some none)
    (nHoldings__offers : PySem.W.findIn K (.ref CHoldings) "_offers" = some none)
    (nHoldings__captures : PySem.W.findIn K (.ref CHoldings) "_captures" = some none)
    (nHoldings__fetches : PySem.W.findIn K (.ref CHoldings) "_fetches" = some none)
    (nHoldings__sent_names : PySem.W.findIn K (.ref CHoldings) "_sent_names" = some none)
    (uReply : PySem.W.nsIn K mainGlobals "Reply" = some (some (.ref CReply)))
    (pgReply : PySem.W.plainGet K CReply Str.empty = true) (hdReply : PySem.W.hasDictIn K CReply = true) (poReply : PySem.W.plainOver K CReply = true) (saReply : PySem.W.findIn K (.ref CReply) "__setattr__" = some (some (.builtin "object.__setattr__"))) (mkReply : PySem.W.makesIn K CReply = true) (kcReply : PySem.W.keepIn K (.ref CReply) = true)
    (nReply_told : PySem.W.findIn K (.ref CReply) "told" = some none)
    (nReply_ended : PySem.W.findIn K (.ref CReply) "ended" = some none)
    (nReply_wishes : PySem.W.findIn K (.ref CReply) "wishes" = some none)
    (nReply_applied : PySem.W.findIn K (.ref CReply) "applied" = some none)
    (uRequest : PySem.W.nsIn K mainGlobals "Request" = some (some (.ref CRequest)))
    (pgRequest : PySem.W.plainGet K CRequest Str.empty = true) (hdRequest : PySem.W.hasDictIn K CRequest = true) (poRequest : PySem.W.plainOver K CRequest = true) (saRequest : PySem.W.findIn K (.ref CRequest) "__setattr__" = some (some (.builtin "object.__setattr__"))) (mkRequest : PySem.W.makesIn K CRequest = true) (kcRequest : PySem.W.keepIn K (.ref CRequest) = true)
    (nRequest_number : PySem.W.findIn K (.ref CRequest) "number" = some none)
    (nRequest_interface : PySem.W.findIn K (.ref CRequest) "interface" = some none)
    (nRequest_name : PySem.W.findIn K (.ref CRequest) "name" = some none)
    (nRequest_arguments : PySem.W.findIn K (.ref CRequest) "arguments" = some none)
    (nRequest_ends : PySem.W.findIn K (.ref CRequest) "ends" = some none)
    (uBadMessage : PySem.W.nsIn K mainGlobals "BadMessage" = some (some (.ref CBadMessage))) (xBadMessage : PySem.W.excIn K CBadMessage [.type "ValueError", .type "Exception", .type "BaseException", .type "object"] "ValueError.__new__" = true) (keBadMessage : PySem.W.keepIn K (.ref CBadMessage) = true) (bxBadMessage : PySem.W.subIn K (.ref CBadMessage) (.type "BaseException") = some true) (txBadMessage : PySem.W.typeIn K (.ref CBadMessage) = some (.type "type")) (ixBadMessage : PySem.W.isClsIn K CBadMessage = true) (sxBadMessage : PySem.W.subIn K (.ref CBadMessage) (.ref CBadMessage) = some true)
    (uMessageTooLong : PySem.W.nsIn K mainGlobals "MessageTooLong" = some (some (.ref CMessageTooLong))) (xMessageTooLong : PySem.W.excIn K CMessageTooLong [.type "ValueError", .type "Exception", .type "BaseException", .type "object"] "ValueError.__new__" = true) (keMessageTooLong : PySem.W.keepIn K (.ref CMessageTooLong) = true) (bxMessageTooLong : PySem.W.subIn K (.ref CMessageTooLong) (.type "BaseException") = some true) (txMessageTooLong : PySem.W.typeIn K (.ref CMessageTooLong) = some (.type "type")) (ixMessageTooLong : PySem.W.isClsIn K CMessageTooLong = true) (sxMessageTooLong : PySem.W.subIn K (.ref CMessageTooLong) (.ref CMessageTooLong) = some true)
    (uFault : PySem.W.nsIn K mainGlobals "Fault" = some (some (.ref CFault))) (loFault : K.lookup CFault = some (excClassObj nmFault qnFault CFault NFault bsFault bmFault true snFault sbFault abFault coFault ddFault k0Fault k1Fault k2Fault k3Fault k5Fault "ValueError.__new__")) (rmFault : PySem.HandSPX.refsVE bmFault = true) (keFault : PySem.W.keepIn K (.ref CFault) = true) (bxFault : PySem.W.subIn K (.ref CFault) (.type "BaseException") = some true) (txFault : PySem.W.typeIn K (.ref CFault) = some (.type "type")) (ixFault : PySem.W.isClsIn K CFault = true) (sxFault : PySem.W.subIn K (.ref CFault) (.ref CFault) = some true)
    (saFault : PySem.W.findIn K (.ref CFault) "__setattr__" = some (some (.builtin "object.__setattr__"))) (mrFault : PySem.W.mroIn K CFault (.ref CFault) = some true) (ksFault : PySem.W.ks_superIn K CFault CFault "__init__" = some (some (.builtin "ValueError.__init__"))) (veFault : PySem.W.subIn K (.ref CFault) (.type "ValueError") = some true) (tpFault : PySem.W.nsIn K PySem.cStatics "thirdparty.any" = some none)
    (gaFault : PySem.W.findIn K (.ref CFault) "__getattribute__" = some (some (.builtin "BaseException.__getattribute__"))) (gtFault : PySem.W.findIn K (.ref CFault) "__getattr__" = some none) (hxFault : PySem.W.hasDictIn K CFault = true) (fcFault : PySem.W.findIn K (.ref CFault) "__class__" = some (some (.builtin "object.__class__"))) (moFault : PySem.W.mroIn K CFault (.type "object") = some true) (sgFault : PySem.W.specialIn K (.builtin "object.__class__") "__get__" = some (some (.builtin "getset_descriptor.__get__"))) (tkFault : PySem.W.takesIn K (.builtin "object.__class__") = some true)
    (nFault_number : PySem.W.findIn K (.ref CFault) "number" = some none)
    (nFault_code : PySem.W.findIn K (.ref CFault) "code" = some none)
    (nFault_words : PySem.W.findIn K (.ref CFault) "words" = some none)
    : ∃ A : Adr, A.flaw = fa ∧ Txt0 P K mg A ∧ (∀ (s : Shared) (v : Value), BindsTo s A.dlaw ⟨[v], []⟩ [("script", v)]) := by
  have e := hfa.symm.trans (PySem.W.mg_of X G a24)
  cases e
  have F1 := fun_mk (st := s__check_new) l1 c1 k1
  have b1 := F1.binds (ps := ["request", "present", "most"]) fun _ _ _ _ _ _ us hl => match us, hl with | [_, _, _], _ => rfl
  have F2 := fun_mk (st := s_is_integer) l2 c2 k2
  have b2 := F2.binds (ps := ["value", "least", "greatest"]) fun _ _ _ _ _ _ us hl => match us, hl with | [_, _, _], _ => rfl
  have F3 := fun_mk (st := s_is_text) l3 c3 k3
  have b3 := F3.binds (ps := ["value"]) fun _ _ _ _ _ _ us hl => match us, hl with | [_], _ => rfl
  have F4 := fun_mk (st := s_number_octets) l4 c4 k4
  have b4 := F4.binds (ps := ["number", "count"]) fun _ _ _ _ _ _ us hl => match us, hl with | [_, _], _ => rfl
  have F5 := fun_mk (st := s_field_octets) l5 c5 k5
  have b5 := F5.binds (ps := ["kind", "value"]) fun _ _ _ _ _ _ us hl => match us, hl with | [_, _], _ => rfl
  have F6 := fun_mk (st := s__is_code) l6 c6 k6
  have b6 := F6.binds (ps := ["code"]) fun _ _ _ _ _ _ us hl => match us, hl with | [_], _ => rfl
  have F7 := fun_mk (st := s__is_of) l7 c7 k7
  have b7 := F7.binds (ps := ["kind", "value"]) fun _ _ _ _ _ _ us hl => match us, hl with | [_, _], _ => rfl
  have F8 := fun_mk (st := s__are_octets) l8 c8 k8
  have b8 := F8.binds (ps := ["value"]) fun _ _ _ _ _ _ us hl => match us, hl with | [_], _ => rfl
  have F9 := fun_mk (st := s__is_bound) l9 c9 k9
  have b9 := F9.binds (ps := ["value"]) fun _ _ _ _ _ _ us hl => match us, hl with | [_], _ => rfl
  have F10 := fun_mk (st := s__text_octets) l10 c10 k10
  have b10 := F10.binds (ps := ["text"]) fun _ _ _ _ _ _ us hl => match us, hl with | [_], _ => rfl
  have F11 := fun_mk (st := s__padded) l11 c11 k11
  have b11 := F11.binds (ps := ["octets"]) fun _ _ _ _ _ _ us hl => match us, hl with | [_], _ => rfl
  have F12 := fun_mk (st := s_encode_message) l12 c12 k12
  have b12 := F12.binds (ps := ["number", "opcode", "arguments"]) fun _ _ _ _ _ _ us hl => match us, hl with | [_, _, _], _ => rfl
  have F13 := fun_mk (st := s_event_octets) l13 c13 k13
  have b13 := F13.binds (ps := ["number", "interface", "name", "values"]) fun _ _ _ _ _ _ us hl => match us, hl with | [_, _, _, _], _ => rfl
  have F14 := fun_mk (st := s__opcode_of) l14 c14 k14
  have b14 := F14.binds (ps := ["rows", "name"]) fun _ _ _ _ _ _ us hl => match us, hl with | [_, _], _ => rfl
  have F15 := fun_mk (st := s__law_cell) l15 c15 k15
  have b15 := F15.binds (ps := ["script", "k"]) fun _ _ _ _ _ _ us hl => match us, hl with | [_, _], _ => rfl
  have F16 := fun_mk (st := s__law_row) l16 c16 k16
  have b16 := F16.binds (ps := ["script", "k"]) fun _ _ _ _ _ _ us hl => match us, hl with | [_, _], _ => rfl
  have F17 := fun_mk (st := s__law_serve) l17 c17 k17
  have b17 := F17.binds (ps := ["holdings", "row", "grant", "gripped", "dragging"]) fun _ _ _ _ _ _ us hl => match us, hl with | [_, _, _, _, _], _ => rfl
  have F18 := fun_mk (st := s__law_kind) l18 c18 k18
  have b18 := F18.binds (ps := ["row"]) fun _ _ _ _ _ _ us hl => match us, hl with | [_], _ => rfl
  have F19 := fun_mk (st := s__law_octets) l19 c19 k19
  have b19 := F19.binds (ps := ["row"]) fun _ _ _ _ _ _ us hl => match us, hl with | [_], _ => rfl
  have F20 := fun_mk (st := s__law_total) l20 c20 k20
  have b20 := F20.binds (ps := ["model"]) fun _ _ _ _ _ _ us hl => match us, hl with | [_], _ => rfl
  have F21 := fun_mk (st := s__law_write) l21 c21 k21
  have b21 := F21.binds (ps := ["model", "number", "kind", "octets"]) fun _ _ _ _ _ _ us hl => match us, hl with | [_, _, _, _], _ => rfl
  have F22 := fun_mk (st := s__law_goods) l22 c22 k22
  have b22 := F22.binds (ps := ["model", "number"]) fun _ _ _ _ _ _ us hl => match us, hl with | [_, _], _ => rfl
  have F23 := fun_mk (st := s__law_give) l23 c23 k23
  have b23 := F23.binds (ps := ["holdings", "model", "number"]) fun _ _ _ _ _ _ us hl => match us, hl with | [_, _, _], _ => rfl
  have F24 := fun_mk (st := s_law) l24 c24 k24
  have b24 := F24.binds (ps := ["script"]) fun _ _ _ _ _ _ us hl => match us, hl with | [_], _ => rfl
  have F25 : FunSup K "__init__" "Fault.__init__" s_Fault___init__ fFault___init__ (PySem.W.fnX "__init__" "Fault.__init__" (defArgs s_Fault___init__) (defBody s_Fault___init__) (defScope s_Fault___init__) [("__class__", cc25)] .none kV25 dc25 pm25 an25 (.ref cda25) ct25) CFault := ⟨⟨_, _, _, _, _, _, _, _, _, _, _, _, _, _, _, _, _, _, _, rfl, l25, c25, ld25, rv25, lc25, lD25⟩⟩
  have b25 : Binds K (PySem.W.fnX "__init__" "Fault.__init__" (defArgs s_Fault___init__) (defBody s_Fault___init__) (defScope s_Fault___init__) [("__class__", cc25)] .none kV25 dc25 pm25 an25 (.ref cda25) ct25) ["self", "number", "code", "words"] [] := .all fun us hl => match us, hl with | [_, _, _, _], _ => rfl
  have F26 := fun_mk (st := s_Captures___init__) l26 c26 k26
  have b26 := F26.binds (ps := ["self"]) fun _ _ _ _ _ _ us hl => match us, hl with | [_], _ => rfl
  have F27 := fun_mk (st := s_Captures_make) l27 c27 k27
  have b27 := F27.binds (ps := ["self", "request"]) fun _ _ _ _ _ _ us hl => match us, hl with | [_, _], _ => rfl
  have F28 := fun_mk (st := s_Captures_read) l28 c28 k28
  have b28 := F28.binds (ps := ["self", "request", "reply"]) fun _ _ _ _ _ _ us hl => match us, hl with | [_, _, _], _ => rfl
  have F29 := fun_mk (st := s_Captures_forget) l29 c29 k29
  have b29 := F29.binds (ps := ["self", "number"]) fun _ _ _ _ _ _ us hl => match us, hl with | [_, _], _ => rfl
  have F30 := fun_mk (st := s_Fetch___init__) l30 c30 k30
  have b30 := F30.binds (ps := ["self", "name"]) fun _ _ _ _ _ _ us hl => match us, hl with | [_, _], _ => rfl
  have F31 := fun_mk (st := s_Watch___init__) l31 c31 k31
  have b31 := F31.binds (ps := ["self", "label"]) fun _ _ _ _ _ _ us hl => match us, hl with | [_, _], _ => rfl
  have F32 := fun_mk (st := s_Fetches___init__) l32 c32 k32
  have b32 := F32.binds (ps := ["self"]) fun _ _ _ _ _ _ us hl => match us, hl with | [_], _ => rfl
  have F33 := fun_mk (st := s_Fetches_make_fetch) l33 c33 k33
  have b33 := F33.binds (ps := ["self", "request"]) fun _ _ _ _ _ _ us hl => match us, hl with | [_, _], _ => rfl
  have F34 := fun_mk (st := s_Fetches_make_watch) l34 c34 k34
  have b34 := F34.binds (ps := ["self", "request"]) fun _ _ _ _ _ _ us hl => match us, hl with | [_, _], _ => rfl
  have F35 := fun_mk (st := s_Fetches_read) l35 c35 k35
  have b35 := F35.binds (ps := ["self", "request", "reply"]) fun _ _ _ _ _ _ us hl => match us, hl with | [_, _, _], _ => rfl
  have F36 := fun_mk (st := s_Fetches_forget) l36 c36 k36
  have b36 := F36.binds (ps := ["self", "number"]) fun _ _ _ _ _ _ us hl => match us, hl with | [_, _], _ => rfl
  have F37 := fun_mk (st := s_Offers___init__) l37 c37 k37
  have b37 := F37.binds (ps := ["self"]) fun _ _ _ _ _ _ us hl => match us, hl with | [_], _ => rfl
  have F38 := fun_mk (st := s_Offers_forget) l38 c38 k38
  have b38 := F38.binds (ps := ["self", "number"]) fun _ _ _ _ _ _ us hl => match us, hl with | [_, _], _ => rfl
  have F39 := fun_mk (st := s_Offers_read) l39 c39 k39
  have b39 := F39.binds (ps := ["self", "request", "reply"]) fun _ _ _ _ _ _ us hl => match us, hl with | [_, _, _], _ => rfl
  have F40 := fun_mk (st := s_Source___init__) l40 c40 k40
  have b40 := F40.binds (ps := ["self"]) fun _ _ _ _ _ _ us hl => match us, hl with | [_], _ => rfl
  have F41 := fun_mk (st := s_Sources___init__) l41 c41 k41
  have b41 := F41.binds (ps := ["self"]) fun _ _ _ _ _ _ us hl => match us, hl with | [_], _ => rfl
  have F42 := fun_mk (st := s_Sources_make) l42 c42 k42
  have b42 := F42.binds (ps := ["self", "request"]) fun _ _ _ _ _ _ us hl => match us, hl with | [_, _], _ => rfl
  have F43 := fun_mk (st := s_Sources_write) l43 c43 k43
  have b43 := F43.binds (ps := ["self", "request"]) fun _ _ _ _ _ _ us hl => match us, hl with | [_, _], _ => rfl
  have F44 := fun_mk (st := s_Sources_is_used) l44 c44 k44
  have b44 := F44.binds (ps := ["self", "number"]) fun _ _ _ _ _ _ us hl => match us, hl with | [_, _], _ => rfl
  have F45 := fun_mk (st := s_Sources_use_up) l45 c45 k45
  have b45 := F45.binds (ps := ["self", "number"]) fun _ _ _ _ _ _ us hl => match us, hl with | [_, _], _ => rfl
  have F46 := fun_mk (st := s_Sources_forget) l46 c46 k46
  have b46 := F46.binds (ps := ["self", "number"]) fun _ _ _ _ _ _ us hl => match us, hl with | [_, _], _ => rfl
  have F47 := fun_mk (st := s_Sources__fresh) l47 c47 k47
  have b47 := F47.binds (ps := ["self"]) fun _ _ _ _ _ _ us hl => match us, hl with | [_], _ => rfl
  have F48 := fun_mk (st := s_Holdings___init__) l48 c48 k48
  have b48 := F48.binds (ps := ["self"]) fun _ _ _ _ _ _ us hl => match us, hl with | [_], _ => rfl
  have F49 := fun_mk (st := s_Holdings_serve) l49 c49 k49
  have b49 := F49.binds (ps := ["self", "request", "grant", "gripped", "dragging", "reply"]) fun _ _ _ _ _ _ us hl => match us, hl with | [_, _, _, _, _, _], _ => rfl
  have F50 := fun_mk (st := s_Holdings_ended) l50 c50 k50
  have b50 := F50.binds (ps := ["self", "number"]) fun _ _ _ _ _ _ us hl => match us, hl with | [_, _], _ => rfl
  have F51 := fun_mk (st := s_Holdings__serve_transfer) l51 c51 k51
  have b51 := F51.binds (ps := ["self", "request", "grant", "may_drag", "reply"]) fun _ _ _ _ _ _ us hl => match us, hl with | [_, _, _, _, _], _ => rfl
  have F52 := fun_mk (st := s_Holdings__give) l52 c52 k52
  have b52 := F52.binds (ps := ["self", "request", "grant", "reply"]) fun _ _ _ _ _ _ us hl => match us, hl with | [_, _, _, _], _ => rfl
  have F53 := fun_mk (st := s_Holdings__send) l53 c53 k53
  have b53 := F53.binds (ps := ["self", "request", "reply"]) fun _ _ _ _ _ _ us hl => match us, hl with | [_, _, _], _ => rfl
  have F54 := fun_mk (st := s_Holdings__unsend) l54 c54 k54
  have b54 := F54.binds (ps := ["self", "request", "reply"]) fun _ _ _ _ _ _ us hl => match us, hl with | [_, _, _], _ => rfl
  have F55 := fun_mk (st := s_Reply___init__) l55 c55 k55
  have b55 := F55.binds (ps := ["self"]) fun _ _ _ _ _ _ us hl => match us, hl with | [_], _ => rfl
  have F56 := fun_mk (st := s_Reply_tell) l56 c56 k56
  have b56 := F56.binds (ps := ["self", "number", "interface", "name", "values"]) fun _ _ _ _ _ _ us hl => match us, hl with | [_, _, _, _, _], _ => rfl
  have F57 := fun_mk (st := s_Reply_wish) l57 c57 k57
  have b57 := F57.binds (ps := ["self", "deed"]) fun _ _ _ _ _ _ us hl => match us, hl with | [_, _], _ => rfl
  have F58 := fun_mk (st := s_Request___init__) l58 c58 k58
  have b58 := F58.binds (ps := ["self", "number", "interface", "name", "arguments", "ends"]) fun _ _ _ _ _ _ us hl => match us, hl with | [_, _, _, _, _, _], _ => rfl
  have oFault : OexC K CFault := ⟨⟨_, _, _, _, _, _, _, _, _, _, _, _, _, _, _, loFault, rmFault⟩, saFault, bxFault, txFault, keFault⟩
  refine ⟨{ f_check_new := f_check_new, d_check_new := (PySem.W.fnOf "_check_new" "_check_new" (defArgs s__check_new) (defBody s__check_new) (defScope s__check_new) .none kV1 dc1 pm1 an1 cd1 ct1), fis_integer := fis_integer, dis_integer := (PySem.W.fnOf "is_integer" "is_integer" (defArgs s_is_integer) (defBody s_is_integer) (defScope s_is_integer) .none kV2 dc2 pm2 an2 cd2 ct2), fis_text := fis_text, dis_text := (PySem.W.fnOf "is_text" "is_text" (defArgs s_is_text) (defBody s_is_text) (defScope s_is_text) .none kV3 dc3 pm3 an3 cd3 ct3), fnumber_octets := fnumber_octets, dnumber_octets := (PySem.W.fnOf "number_octets" "number_octets" (defArgs s_number_octets) (defBody s_number_octets) (defScope s_number_octets) .none kV4 dc4 pm4 an4 cd4 ct4), ffield_octets := ffield_octets, dfield_octets := (PySem.W.fnOf "field_octets" "field_octets" (defArgs s_field_octets) (defBody s_field_octets) (defScope s_field_octets) .none kV5 dc5 pm5 an5 cd5 ct5), f_is_code := f_is_code, d_is_code := (PySem.W.fnOf "_is_code" "_is_code" (defArgs s__is_code) (defBody s__is_code) (defScope s__is_code) .none kV6 dc6 pm6 an6 cd6 ct6), f_is_of := f_is_of, d_is_of := (PySem.W.fnOf "_is_of" "_is_of" (defArgs s__is_of) (defBody s__is_of) (defScope s__is_of) .none kV7 dc7 pm7 an7 cd7 ct7), f_are_octets := f_are_octets, d_are_octets := (PySem.W.fnOf "_are_octets" "_are_octets" (defArgs s__are_octets) (defBody s__are_octets) (defScope s__are_octets) .none kV8 dc8 pm8 an8 cd8 ct8), f_is_bound := f_is_bound, d_is_bound := (PySem.W.fnOf "_is_bound" "_is_bound" (defArgs s__is_bound) (defBody s__is_bound) (defScope s__is_bound) .none kV9 dc9 pm9 an9 cd9 ct9), f_text_octets := f_text_octets, d_text_octets := (PySem.W.fnOf "_text_octets" "_text_octets" (defArgs s__text_octets) (defBody s__text_octets) (defScope s__text_octets) .none kV10 dc10 pm10 an10 cd10 ct10), f_padded := f_padded, d_padded := (PySem.W.fnOf "_padded" "_padded" (defArgs s__padded) (defBody s__padded) (defScope s__padded) .none kV11 dc11 pm11 an11 cd11 ct11), fencode_message := fencode_message, dencode_message := (PySem.W.fnOf "encode_message" "encode_message" (defArgs s_encode_message) (defBody s_encode_message) (defScope s_encode_message) .none kV12 dc12 pm12 an12 cd12 ct12), fevent_octets := fevent_octets, devent_octets := (PySem.W.fnOf "event_octets" "event_octets" (defArgs s_event_octets) (defBody s_event_octets) (defScope s_event_octets) .none kV13 dc13 pm13 an13 cd13 ct13), f_opcode_of := f_opcode_of, d_opcode_of := (PySem.W.fnOf "_opcode_of" "_opcode_of" (defArgs s__opcode_of) (defBody s__opcode_of) (defScope s__opcode_of) .none kV14 dc14 pm14 an14 cd14 ct14), f_law_cell := f_law_cell, d_law_cell := (PySem.W.fnOf "_law_cell" "_law_cell" (defArgs s__law_cell) (defBody s__law_cell) (defScope s__law_cell) .none kV15 dc15 pm15 an15 cd15 ct15), f_law_row := f_law_row, d_law_row := (PySem.W.fnOf "_law_row" "_law_row" (defArgs s__law_row) (defBody s__law_row) (defScope s__law_row) .none kV16 dc16 pm16 an16 cd16 ct16), f_law_serve := f_law_serve, d_law_serve := (PySem.W.fnOf "_law_serve" "_law_serve" (defArgs s__law_serve) (defBody s__law_serve) (defScope s__law_serve) .none kV17 dc17 pm17 an17 cd17 ct17), f_law_kind := f_law_kind, d_law_kind := (PySem.W.fnOf "_law_kind" "_law_kind" (defArgs s__law_kind) (defBody s__law_kind) (defScope s__law_kind) .none kV18 dc18 pm18 an18 cd18 ct18), f_law_octets := f_law_octets, d_law_octets := (PySem.W.fnOf "_law_octets" "_law_octets" (defArgs s__law_octets) (defBody s__law_octets) (defScope s__law_octets) .none kV19 dc19 pm19 an19 cd19 ct19), f_law_total := f_law_total, d_law_total := (PySem.W.fnOf "_law_total" "_law_total" (defArgs s__law_total) (defBody s__law_total) (defScope s__law_total) .none kV20 dc20 pm20 an20 cd20 ct20), f_law_write := f_law_write, d_law_write := (PySem.W.fnOf "_law_write" "_law_write" (defArgs s__law_write) (defBody s__law_write) (defScope s__law_write) .none kV21 dc21 pm21 an21 cd21 ct21), f_law_goods := f_law_goods, d_law_goods := (PySem.W.fnOf "_law_goods" "_law_goods" (defArgs s__law_goods) (defBody s__law_goods) (defScope s__law_goods) .none kV22 dc22 pm22 an22 cd22 ct22), f_law_give := f_law_give, d_law_give := (PySem.W.fnOf "_law_give" "_law_give" (defArgs s__law_give) (defBody s__law_give) (defScope s__law_give) .none kV23 dc23 pm23 an23 cd23 ct23), flaw := fa, dlaw := (PySem.W.fnOf "law" "law" (defArgs s_law) (defBody s_law) (defScope s_law) .none kV24 dc24 pm24 an24 cd24 ct24), fFault___init__ := fFault___init__, dFault___init__ := (PySem.W.fnX "__init__" "Fault.__init__" (defArgs s_Fault___init__) (defBody s_Fault___init__) (defScope s_Fault___init__) [("__class__", cc25)] .none kV25 dc25 pm25 an25 (.ref cda25) ct25), fCaptures___init__ := fCaptures___init__, dCaptures___init__ := (PySem.W.fnOf "__init__" "Captures.__init__" (defArgs s_Captures___init__) (defBody s_Captures___init__) (defScope s_Captures___init__) .none kV26 dc26 pm26 an26 cd26 ct26), fCaptures_make := fCaptures_make, dCaptures_make := (PySem.W.fnOf "make" "Captures.make" (defArgs s_Captures_make) (defBody s_Captures_make) (defScope s_Captures_make) .none kV27 dc27 pm27 an27 cd27 ct27), fCaptures_read := fCaptures_read, dCaptures_read := (PySem.W.fnOf "read" "Captures.read" (defArgs s_Captures_read) (defBody s_Captures_read) (defScope s_Captures_read) .none kV28 dc28 pm28 an28 cd28 ct28), fCaptures_forget := fCaptures_forget, dCaptures_forget := (PySem.W.fnOf "forget" "Captures.forget" (defArgs s_Captures_forget) (defBody s_Captures_forget) (defScope s_Captures_forget) .none kV29 dc29 pm29 an29 cd29 ct29), fFetch___init__ := fFetch___init__, dFetch___init__ := (PySem.W.fnOf "__init__" "Fetch.__init__" (defArgs s_Fetch___init__) (defBody s_Fetch___init__) (defScope s_Fetch___init__) .none kV30 dc30 pm30 an30 cd30 ct30), fWatch___init__ := fWatch___init__, dWatch___init__ := (PySem.W.fnOf "__init__" "Watch.__init__" (defArgs s_Watch___init__) (defBody s_Watch___init__) (defScope s_Watch___init__) .none kV31 dc31 pm31 an31 cd31 ct31), fFetches___init__ := fFetches___init__, dFetches___init__ := (PySem.W.fnOf "__init__" "Fetches.__init__" (defArgs s_Fetches___init__) (defBody s_Fetches___init__) (defScope s_Fetches___init__) .none kV32 dc32 pm32 an32 cd32 ct32), fFetches_make_fetch := fFetches_make_fetch, dFetches_make_fetch := (PySem.W.fnOf "make_fetch" "Fetches.make_fetch" (defArgs s_Fetches_make_fetch) (defBody s_Fetches_make_fetch) (defScope s_Fetches_make_fetch) .none kV33 dc33 pm33 an33 cd33 ct33), fFetches_make_watch := fFetches_make_watch, dFetches_make_watch := (PySem.W.fnOf "make_watch" "Fetches.make_watch" (defArgs s_Fetches_make_watch) (defBody s_Fetches_make_watch) (defScope s_Fetches_make_watch) .none kV34 dc34 pm34 an34 cd34 ct34), fFetches_read := fFetches_read, dFetches_read := (PySem.W.fnOf "read" "Fetches.read" (defArgs s_Fetches_read) (defBody s_Fetches_read) (defScope s_Fetches_read) .none kV35 dc35 pm35 an35 cd35 ct35), fFetches_forget := fFetches_forget, dFetches_forget := (PySem.W.fnOf "forget" "Fetches.forget" (defArgs s_Fetches_forget) (defBody s_Fetches_forget) (defScope s_Fetches_forget) .none kV36 dc36 pm36 an36 cd36 ct36), fOffers___init__ := fOffers___init__, dOffers___init__ := (PySem.W.fnOf "__init__" "Offers.__init__" (defArgs s_Offers___init__) (defBody s_Offers___init__) (defScope s_Offers___init__) .none kV37 dc37 pm37 an37 cd37 ct37), fOffers_forget := fOffers_forget, dOffers_forget := (PySem.W.fnOf "forget" "Offers.forget" (defArgs s_Offers_forget) (defBody s_Offers_forget) (defScope s_Offers_forget) .none kV38 dc38 pm38 an38 cd38 ct38), fOffers_read := fOffers_read, dOffers_read := (PySem.W.fnOf "read" "Offers.read" (defArgs s_Offers_read) (defBody s_Offers_read) (defScope s_Offers_read) .none kV39 dc39 pm39 an39 cd39 ct39), fSource___init__ := fSource___init__, dSource___init__ := (PySem.W.fnOf "__init__" "Source.__init__" (defArgs s_Source___init__) (defBody s_Source___init__) (defScope s_Source___init__) .none kV40 dc40 pm40 an40 cd40 ct40), fSources___init__ := fSources___init__, dSources___init__ := (PySem.W.fnOf "__init__" "Sources.__init__" (defArgs s_Sources___init__) (defBody s_Sources___init__) (defScope s_Sources___init__) .none kV41 dc41 pm41 an41 cd41 ct41), fSources_make := fSources_make, dSources_make := (PySem.W.fnOf "make" "Sources.make" (defArgs s_Sources_make) (defBody s_Sources_make) (defScope s_Sources_make) .none kV42 dc42 pm42 an42 cd42 ct42), fSources_write := fSources_write, dSources_write := (PySem.W.fnOf "write" "Sources.write" (defArgs s_Sources_write) (defBody s_Sources_write) (defScope s_Sources_write) .none kV43 dc43 pm43 an43 cd43 ct43), fSources_is_used := fSources_is_used, dSources_is_used := (PySem.W.fnOf "is_used" "Sources.is_used" (defArgs s_Sources_is_used) (defBody s_Sources_is_used) (defScope s_Sources_is_used) .none kV44 dc44 pm44 an44 cd44 ct44), fSources_use_up := fSources_use_up, dSources_use_up := (PySem.W.fnOf "use_up" "Sources.use_up" (defArgs s_Sources_use_up) (defBody s_Sources_use_up) (defScope s_Sources_use_up) .none kV45 dc45 pm45 an45 cd45 ct45), fSources_forget := fSources_forget, dSources_forget := (PySem.W.fnOf "forget" "Sources.forget" (defArgs s_Sources_forget) (defBody s_Sources_forget) (defScope s_Sources_forget) .none kV46 dc46 pm46 an46 cd46 ct46), fSources__fresh := fSources__fresh, dSources__fresh := (PySem.W.fnOf "_fresh" "Sources._fresh" (defArgs s_Sources__fresh) (defBody s_Sources__fresh) (defScope s_Sources__fresh) .none kV47 dc47 pm47 an47 cd47 ct47), fHoldings___init__ := fHoldings___init__, dHoldings___init__ := (PySem.W.fnOf "__init__" "Holdings.__init__" (defArgs s_Holdings___init__) (defBody s_Holdings___init__) (defScope s_Holdings___init__) .none kV48 dc48 pm48 an48 cd48 ct48), fHoldings_serve := fHoldings_serve, dHoldings_serve := (PySem.W.fnOf "serve" "Holdings.serve" (defArgs s_Holdings_serve) (defBody s_Holdings_serve) (defScope s_Holdings_serve) .none kV49 dc49 pm49 an49 cd49 ct49), fHoldings_ended := fHoldings_ended, dHoldings_ended := (PySem.W.fnOf "ended" "Holdings.ended" (defArgs s_Holdings_ended) (defBody s_Holdings_ended) (defScope s_Holdings_ended) .none kV50 dc50 pm50 an50 cd50 ct50), fHoldings__serve_transfer := fHoldings__serve_transfer, dHoldings__serve_transfer := (PySem.W.fnOf "_serve_transfer" "Holdings._serve_transfer" (defArgs s_Holdings__serve_transfer) (defBody s_Holdings__serve_transfer) (defScope s_Holdings__serve_transfer) .none kV51 dc51 pm51 an51 cd51 ct51), fHoldings__give := fHoldings__give, dHoldings__give := (PySem.W.fnOf "_give" "Holdings._give" (defArgs s_Holdings__give) (defBody s_Holdings__give) (defScope s_Holdings__give) .none kV52 dc52 pm52 an52 cd52 ct52), fHoldings__send := fHoldings__send, dHoldings__send := (PySem.W.fnOf "_send" "Holdings._send" (defArgs s_Holdings__send) (defBody s_Holdings__send) (defScope s_Holdings__send) .none kV53 dc53 pm53 an53 cd53 ct53), fHoldings__unsend := fHoldings__unsend, dHoldings__unsend := (PySem.W.fnOf "_unsend" "Holdings._unsend" (defArgs s_Holdings__unsend) (defBody s_Holdings__unsend) (defScope s_Holdings__unsend) .none kV54 dc54 pm54 an54 cd54 ct54), fReply___init__ := fReply___init__, dReply___init__ := (PySem.W.fnOf "__init__" "Reply.__init__" (defArgs s_Reply___init__) (defBody s_Reply___init__) (defScope s_Reply___init__) .none kV55 dc55 pm55 an55 cd55 ct55), fReply_tell := fReply_tell, dReply_tell := (PySem.W.fnOf "tell" "Reply.tell" (defArgs s_Reply_tell) (defBody s_Reply_tell) (defScope s_Reply_tell) .none kV56 dc56 pm56 an56 cd56 ct56), fReply_wish := fReply_wish, dReply_wish := (PySem.W.fnOf "wish" "Reply.wish" (defArgs s_Reply_wish) (defBody s_Reply_wish) (defScope s_Reply_wish) .none kV57 dc57 pm57 an57 cd57 ct57), fRequest___init__ := fRequest___init__, dRequest___init__ := (PySem.W.fnOf "__init__" "Request.__init__" (defArgs s_Request___init__) (defBody s_Request___init__) (defScope s_Request___init__) .none kV58 dc58 pm58 an58 cd58 ct58), tLONGEST_SIDE := tLONGEST_SIDE, tMOST_PIXELS := tMOST_PIXELS, tMOST_CAPTURES := tMOST_CAPTURES, tMOST_READ_captures := tMOST_READ_captures, tLONGEST_TEXT_fetches := tLONGEST_TEXT_fetches, tMOST_FETCHES := tMOST_FETCHES, tMOST_WATCHES := tMOST_WATCHES, tMOST_READ_fetches := tMOST_READ_fetches, tMOST_READ_offers := tMOST_READ_offers, tMOST_SOURCES := tMOST_SOURCES, tMOST_KINDS := tMOST_KINDS, tMOST_OCTETS_sources := tMOST_OCTETS_sources, tLONGEST_TEXT_sources := tLONGEST_TEXT_sources, tMOST_SENT_OCTETS := tMOST_SENT_OCTETS, tMOST_SENT_NAMES := tMOST_SENT_NAMES, tGREATEST_NUMBER := tGREATEST_NUMBER, tLEAST_INT := tLEAST_INT, tGREATEST_INT := tGREATEST_INT, tLONGEST_TEXT_fields := tLONGEST_TEXT_fields, tMOST_OCTETS_fields := tMOST_OCTETS_fields, t_FIRST_CODE := t_FIRST_CODE, t_LAST_CODE := t_LAST_CODE, t_PERCENT_CODE := t_PERCENT_CODE, tHEADER_SIZE := tHEADER_SIZE, tGREATEST_SIZE := tGREATEST_SIZE, tGREATEST_OPCODE := tGREATEST_OPCODE, tMOST_ARGUMENTS := tMOST_ARGUMENTS, a_EVENTS := a_EVENTS, CCaptures := CCaptures, CFetch := CFetch, CWatch := CWatch, CFetches := CFetches, COffers := COffers, CSource := CSource, CSources := CSources, CHoldings := CHoldings, CReply := CReply, CRequest := CRequest, CBadMessage := CBadMessage, CMessageTooLong := CMessageTooLong, CFault := CFault }, rfl, { F_check_new := F1, b_check_new := b1, g_check_new := PySem.W.mg_of X G a1, k_check_new := k1, Fis_integer := F2, bis_integer := b2, gis_integer := PySem.W.mg_of X G a2, kis_integer := k2, Fis_text := F3, bis_text := b3, gis_text := PySem.W.mg_of X G a3, kis_text := k3, Fnumber_octets := F4, bnumber_octets := b4, gnumber_octets := PySem.W.mg_of X G a4, knumber_octets := k4, Ffield_octets := F5, bfield_octets := b5, gfield_octets := PySem.W.mg_of X G a5, kfield_octets := k5, F_is_code := F6, b_is_code := b6, g_is_code := PySem.W.mg_of X G a6, k_is_code := k6, F_is_of := F7, b_is_of := b7, g_is_of := PySem.W.mg_of X G a7, k_is_of := k7, F_are_octets := F8, b_are_octets := b8, g_are_octets := PySem.W.mg_of X G a8, k_are_octets := k8, F_is_bound := F9, b_is_bound := b9, g_is_bound := PySem.W.mg_of X G a9, k_is_bound := k9, F_text_octets := F10, b_text_octets := b10, g_text_octets := PySem.W.mg_of X G a10, k_text_octets := k10, F_padded := F11, b_padded := b11, g_padded := PySem.W.mg_of X G a11, k_padded := k11, Fencode_message := F12, bencode_message := b12, gencode_message := PySem.W.mg_of X G a12, kencode_message := k12, Fevent_octets := F13, bevent_octets := b13, gevent_octets := PySem.W.mg_of X G a13, kevent_octets := k13, F_opcode_of := F14, b_opcode_of := b14, g_opcode_of := PySem.W.mg_of X G a14, k_opcode_of := k14, F_law_cell := F15, b_law_cell := b15, g_law_cell := PySem.W.mg_of X G a15, k_law_cell := k15, F_law_row := F16, b_law_row := b16, g_law_row := PySem.W.mg_of X G a16, k_law_row := k16, F_law_serve := F17, b_law_serve := b17, g_law_serve := PySem.W.mg_of X G a17, k_law_serve := k17, F_law_kind := F18, b_law_kind := b18, g_law_kind := PySem.W.mg_of X G a18, k_law_kind := k18, F_law_octets := F19, b_law_octets := b19, g_law_octets := PySem.W.mg_of X G a19, k_law_octets := k19, F_law_total := F20, b_law_total := b20, g_law_total := PySem.W.mg_of X G a20, k_law_total := k20, F_law_write := F21, b_law_write := b21, g_law_write := PySem.W.mg_of X G a21, k_law_write := k21, F_law_goods := F22, b_law_goods := b22, g_law_goods := PySem.W.mg_of X G a22, k_law_goods := k22, F_law_give := F23, b_law_give := b23, g_law_give := PySem.W.mg_of X G a23, k_law_give := k23, Flaw := F24, blaw := b24, glaw := PySem.W.mg_of X G a24, klaw := k24, FFault___init__ := F25, bFault___init__ := b25, MFault := a25, TFault := ty25, FCaptures___init__ := F26, bCaptures___init__ := b26, MCaptures := ⟨mkCaptures, a26, i26, kcCaptures⟩, FCaptures_make := F27, bCaptures_make := b27, mCaptures_make := ⟨a27, i27, k27⟩, FCaptures_read := F28, bCaptures_read := b28, mCaptures_read := ⟨a28, i28, k28⟩, FCaptures_forget := F29, bCaptures_forget := b29, mCaptures_forget := ⟨a29, i29, k29⟩, FFetch___init__ := F30, bFetch___init__ := b30, MFetch := ⟨mkFetch, a30, i30, kcFetch⟩, FWatch___init__ := F31, bWatch___init__ := b31, MWatch := ⟨mkWatch, a31, i31, kcWatch⟩, FFetches___init__ := F32, bFetches___init__ := b32, MFetches := ⟨mkFetches, a32, i32, kcFetches⟩, FFetches_make_fetch := F33, bFetches_make_fetch := b33, mFetches_make_fetch := ⟨a33, i33, k33⟩, FFetches_make_watch := F34, bFetches_make_watch := b34, mFetches_make_watch := ⟨a34, i34, k34⟩, FFetches_read := F35, bFetches_read := b35, mFetches_read := ⟨a35, i35, k35⟩, FFetches_forget := F36, bFetches_forget := b36, mFetches_forget := ⟨a36, i36, k36⟩, FOffers___init__ := F37, bOffers___init__ := b37, MOffers := ⟨mkOffers, a37, i37, kcOffers⟩, FOffers_forget := F38, bOffers_forget := b38, mOffers_forget := ⟨a38, i38, k38⟩, FOffers_read := F39, bOffers_read := b39, mOffers_read := ⟨a39, i39, k39⟩, FSource___init__ := F40, bSource___init__ := b40, MSource := ⟨mkSource, a40, i40, kcSource⟩, FSources___init__ := F41, bSources___init__ := b41, MSources := ⟨mkSources, a41, i41, kcSources⟩, FSources_make := F42, bSources_make := b42, mSources_make := ⟨a42, i42, k42⟩, FSources_write := F43, bSources_write := b43, mSources_write := ⟨a43, i43, k43⟩, FSources_is_used := F44, bSources_is_used := b44, mSources_is_used := ⟨a44, i44, k44⟩, FSources_use_up := F45, bSources_use_up := b45, mSources_use_up := ⟨a45, i45, k45⟩, FSources_forget := F46, bSources_forget := b46, mSources_forget := ⟨a46, i46, k46⟩, FSources__fresh := F47, bSources__fresh := b47, mSources__fresh := ⟨a47, i47, k47⟩, FHoldings___init__ := F48, bHoldings___init__ := b48, MHoldings := ⟨mkHoldings, a48, i48, kcHoldings⟩, FHoldings_serve := F49, bHoldings_serve := b49, mHoldings_serve := ⟨a49, i49, k49⟩, FHoldings_ended := F50, bHoldings_ended := b50, mHoldings_ended := ⟨a50, i50, k50⟩, FHoldings__serve_transfer := F51, bHoldings__serve_transfer := b51, mHoldings__serve_transfer := ⟨a51, i51, k51⟩, FHoldings__give := F52, bHoldings__give := b52, mHoldings__give := ⟨a52, i52, k52⟩, FHoldings__send := F53, bHoldings__send := b53, mHoldings__send := ⟨a53, i53, k53⟩, FHoldings__unsend := F54, bHoldings__unsend := b54, mHoldings__unsend := ⟨a54, i54, k54⟩, FReply___init__ := F55, bReply___init__ := b55, MReply := ⟨mkReply, a55, i55, kcReply⟩, FReply_tell := F56, bReply_tell := b56, mReply_tell := ⟨a56, i56, k56⟩, FReply_wish := F57, bReply_wish := b57, mReply_wish := ⟨a57, i57, k57⟩, FRequest___init__ := F58, bRequest___init__ := b58, MRequest := ⟨mkRequest, a58, i58, kcRequest⟩, all := PySem.W.mg_none_of X G z_all, bool := PySem.W.mg_none_of X G z_bool, int := PySem.W.mg_none_of X G z_int, isinstance := PySem.W.mg_none_of X G z_isinstance, len := PySem.W.mg_none_of X G z_len, list := PySem.W.mg_none_of X G z_list, max := PySem.W.mg_none_of X G z_max, min := PySem.W.mg_none_of X G z_min, ord := PySem.W.mg_none_of X G z_ord, range := PySem.W.mg_none_of X G z_range, str := PySem.W.mg_none_of X G z_str, sum := PySem.W.mg_none_of X G z_sum, super := PySem.W.mg_none_of X G z_super, tuple := PySem.W.mg_none_of X G z_tuple, zip := PySem.W.mg_none_of X G z_zip, gLONGEST_SIDE := PySem.W.mg_of X G q_LONGEST_SIDE, gMOST_PIXELS := PySem.W.mg_of X G q_MOST_PIXELS, gMOST_CAPTURES := PySem.W.mg_of X G q_MOST_CAPTURES, gMOST_READ_captures := PySem.W.mg_of X G q_MOST_READ_captures, gLONGEST_TEXT_fetches := PySem.W.mg_of X G q_LONGEST_TEXT_fetches, gMOST_FETCHES := PySem.W.mg_of X G q_MOST_FETCHES, gMOST_WATCHES := PySem.W.mg_of X G q_MOST_WATCHES, gMOST_READ_fetches := PySem.W.mg_of X G q_MOST_READ_fetches, gMOST_READ_offers := PySem.W.mg_of X G q_MOST_READ_offers, gMOST_SOURCES := PySem.W.mg_of X G q_MOST_SOURCES, gMOST_KINDS := PySem.W.mg_of X G q_MOST_KINDS, gMOST_OCTETS_sources := PySem.W.mg_of X G q_MOST_OCTETS_sources, gLONGEST_TEXT_sources := PySem.W.mg_of X G q_LONGEST_TEXT_sources, gMOST_SENT_OCTETS := PySem.W.mg_of X G q_MOST_SENT_OCTETS, gMOST_SENT_NAMES := PySem.W.mg_of X G q_MOST_SENT_NAMES, gGREATEST_NUMBER := PySem.W.mg_of X G q_GREATEST_NUMBER, gLEAST_INT := PySem.W.mg_of X G q_LEAST_INT, gGREATEST_INT := PySem.W.mg_of X G q_GREATEST_INT, gLONGEST_TEXT_fields := PySem.W.mg_of X G q_LONGEST_TEXT_fields, gMOST_OCTETS_fields := PySem.W.mg_of X G q_MOST_OCTETS_fields, g_FIRST_CODE := PySem.W.mg_of X G q__FIRST_CODE, g_LAST_CODE := PySem.W.mg_of X G q__LAST_CODE, g_PERCENT_CODE := PySem.W.mg_of X G q__PERCENT_CODE, gHEADER_SIZE := PySem.W.mg_of X G q_HEADER_SIZE, gGREATEST_SIZE := PySem.W.mg_of X G q_GREATEST_SIZE, gGREATEST_OPCODE := PySem.W.mg_of X G q_GREATEST_OPCODE, gMOST_ARGUMENTS := PySem.W.mg_of X G q_MOST_ARGUMENTS, g_EVENTS := PySem.W.mg_of X G q__EVENTS, clCaptures := ⟨pgCaptures, hdCaptures, poCaptures, saCaptures⟩, gCaptures := PySem.W.mg_of X G uCaptures, nCaptures__pictures := nCaptures__pictures, clFetch := ⟨pgFetch, hdFetch, poFetch, saFetch⟩, gFetch := PySem.W.mg_of X G uFetch, nFetch_name := nFetch_name, nFetch_octets := nFetch_octets, clWatch := ⟨pgWatch, hdWatch, poWatch, saWatch⟩, gWatch := PySem.W.mg_of X G uWatch, nWatch_label := nWatch_label, nWatch_told := nWatch_told, clFetches := ⟨pgFetches, hdFetches, poFetches, saFetches⟩, gFetches := PySem.W.mg_of X G uFetches, nFetches__fetches := nFetches__fetches, nFetches__watches := nFetches__watches, clOffers := ⟨pgOffers, hdOffers, poOffers, saOffers⟩, gOffers := PySem.W.mg_of X G uOffers, nOffers__transfers := nOffers__transfers, nOffers__kept := nOffers__kept, nOffers__is_hovered := nOffers__is_hovered, clSource := ⟨pgSource, hdSource, poSource, saSource⟩, gSource := PySem.W.mg_of X G uSource, nSource_pieces := nSource_pieces, nSource_is_used := nSource_is_used, clSources := ⟨pgSources, hdSources, poSources, saSources⟩, gSources := PySem.W.mg_of X G uSources, nSources__sources := nSources__sources, clHoldings := ⟨pgHoldings, hdHoldings, poHoldings, saHoldings⟩, gHoldings := PySem.W.mg_of X G uHoldings, nHoldings__sources := nHoldings__sources, nHoldings__offers := nHoldings__offers, nHoldings__captures := nHoldings__captures, nHoldings__fetches := nHoldings__fetches, nHoldings__sent_names := nHoldings__sent_names, clReply := ⟨pgReply, hdReply, poReply, saReply⟩, gReply := PySem.W.mg_of X G uReply, nReply_told := nReply_told, nReply_ended := nReply_ended, nReply_wishes := nReply_wishes, nReply_applied := nReply_applied, clRequest := ⟨pgRequest, hdRequest, poRequest, saRequest⟩, gRequest := PySem.W.mg_of X G uRequest, nRequest_number := nRequest_number, nRequest_interface := nRequest_interface, nRequest_name := nRequest_name, nRequest_arguments := nRequest_arguments, nRequest_ends := nRequest_ends, gBadMessage := PySem.W.mg_of X G uBadMessage, xBadMessage := xBadMessage, kBadMessage := keBadMessage, bxBadMessage := bxBadMessage, txBadMessage := txBadMessage, exBadMessage := exm_self bxBadMessage ixBadMessage txBadMessage sxBadMessage, gMessageTooLong := PySem.W.mg_of X G uMessageTooLong, xMessageTooLong := xMessageTooLong, kMessageTooLong := keMessageTooLong, bxMessageTooLong := bxMessageTooLong, txMessageTooLong := txMessageTooLong, exMessageTooLong := exm_self bxMessageTooLong ixMessageTooLong txMessageTooLong sxMessageTooLong, gFault := PySem.W.mg_of X G uFault, oFault := oFault, vFault := ⟨oFault, mrFault, ksFault, veFault, tpFault⟩, xfFault := ⟨gaFault, gtFault, bxFault, hxFault⟩, iXFault := ⟨gaFault, gtFault, bxFault, hxFault, fcFault, sgFault, tkFault, moFault⟩, kFault := keFault, bxFault := bxFault, txFault := txFault, exFault := exm_self bxFault ixFault txFault sxFault, nFault_number := nFault_number, nFault_code := nFault_code, nFault_words := nFault_words, prg := hP }, fun s v => .of_eq rfl⟩
theorem walk {l : PySem.W.OpenLaw} {q : Program} {loose : List Str} {XP : (Str → Option Value) → Heap → Prop} {YP : World → Heap → Prop} {d : DefRec} {K : Params → PySem.W.Frag} (hn : l.most = some 63) (hdf : d.params.defaults = [])
    (hY : ∀ (w : World) (h : Heap), YP w h → (K w.params).In h)
    (F : ∀ (w : World) (mg : Str → Option Value) (fa : Addr) (h : Heap), (K w.params).In h → h.Ns mainGlobals mg → mg d.name = some (.ref fa) →
      ∃ A : Adr, A.flaw = fa ∧ Txt0 l.prog (K w.params) mg A ∧ (∀ (s : Shared) (v : Value), BindsTo s A.dlaw ⟨[v], []⟩ [("script", v)])) :
    PySem.W.WalkO q loose XP YP l.row.toRowW d [] (fun f vs => PySem.call f vs) :=
  L2.walk_of (n := 63) (k := 14) (x := "script") (CX := fun _ => CX0) (sp := fun w => sp_law (K w.params)) hn (by decide) hdf ⟨rfl, by decide, by decide⟩ hY (fun w mg fa h X G hfa => by
    obtain ⟨A, rfl, T, b⟩ := F w mg fa h X G hfa
    exact ⟨A.dlaw, b, fun base _ _ => ok_law T⟩) (fun _ _ a ns hl _ hS => ⟨a, ns, rfl, hS, hl, fun _ => rfl⟩) fun _ _ _ _ _ z => z
/-! ### the head: what the top leaves, by one kernel run -/
def KF (PP : Params) : PySem.W.Frag :=
(nat_lit 2, Obj.mk Value.none none (Data.dict #[]) #[]) ::
(nat_lit 3, Obj.mk (Value.type "dict") none (Data.dict #[DictEntry.mk (PyData.keyHash PP (Str.ofString "__name__")) (Value.str (Str.ofString "__name__") 165) (Value.str (Str.ofString "law_sillwatch_k61_sources") 1332), DictEntry.mk (PyData.keyHash PP (Str.ofString "__doc__")) (Value.str (Str.ofString "__doc__") 166) Value.none, DictEntry.mk (PyData.keyHash PP (Str.ofString "__package__")) (Value.str (Str.ofString "__package__") 167) Value.none, DictEntry.mk (PyData.keyHash PP (Str.ofString "__loader__")) (Value.str (Str.ofString "__loader__") 168) (Value.builtin "__main__.__loader__#opaque"), DictEntry.mk (PyData.keyHash PP (Str.ofString "__spec__")) (Value.str (Str.ofString "__spec__") 169) Value.none, DictEntry.mk (PyData.keyHash PP (Str.ofString "__annotations__")) (Value.str (Str.ofString "__annotations__") 170) (Value.ref 6), DictEntry.mk (PyData.keyHash PP (Str.ofString "__builtins__")) (Value.str (Str.ofString "__builtins__") 171) (Value.ref 4), DictEntry.mk (PyData.keyHash PP (Str.ofString "__file__")) (Value.str (Str.ofString "__file__") 173) (Value.str (Str.ofString "/claim/cut.py") 172), DictEntry.mk (PyData.keyHash PP (Str.ofString "__cached__")) (Value.str (Str.ofString "__cached__") 174) Value.none, DictEntry.mk (PyData.keyHash PP (Str.ofString "_wall")) (Value.str (Str.ofString "_wall") 193) (Value.ref 21), DictEntry.mk (PyData.keyHash PP (Str.ofString "DisplayError")) (Value.str (Str.ofString "DisplayError") 213) (Value.ref 31), DictEntry.mk (PyData.keyHash PP (Str.ofString "BadMessage")) (Value.str (Str.ofString "BadMessage") 229) (Value.ref 44), DictEntry.mk (PyData.keyHash PP (Str.ofString "MessageTooLong")) (Value.str (Str.ofString "MessageTooLong") 245) (Value.ref 56), DictEntry.mk (PyData.keyHash PP (Str.ofString "Fault")) (Value.str (Str.ofString "Fault") 276) (Value.ref 77), DictEntry.mk (PyData.keyHash PP (Str.ofString "LONGEST_SIDE")) (Value.str (Str.ofString "LONGEST_SIDE") 280) (Value.int 256 279), DictEntry.mk (PyData.keyHash PP (Str.ofString "MOST_PIXELS")) (Value.str (Str.ofString "MOST_PIXELS") 282) (Value.int 4096 281), DictEntry.mk (PyData.keyHash PP (Str.ofString "MOST_CAPTURES")) (Value.str (Str.ofString "MOST_CAPTURES") 284) (Value.int 2 283), DictEntry.mk (PyData.keyHash PP (Str.ofString "MOST_READ_captures")) (Value.str (Str.ofString "MOST_READ_captures") 286) (Value.int 1024 285), DictEntry.mk (PyData.keyHash PP (Str.ofString "Captures")) (Value.str (Str.ofString "Captures") 360) (Value.ref 124), DictEntry.mk (PyData.keyHash PP (Str.ofString "LONGEST_TEXT_fetches")) (Value.str (Str.ofString "LONGEST_TEXT_fetches") 364) (Value.int 128 363), DictEntry.mk (PyData.keyHash PP (Str.ofString "MOST_FETCHES")) (Value.str (Str.ofString "MOST_FETCHES") 366) (Value.int 4 365), DictEntry.mk (PyData.keyHash PP (Str.ofString "MOST_WATCHES")) (Value.str (Str.ofString "MOST_WATCHES") 368) (Value.int 8 367), DictEntry.mk (PyData.keyHash PP (Str.ofString "MOST_READ_fetches")) (Value.str (Str.ofString "MOST_READ_fetches") 370) (Value.int 1024 369), DictEntry.mk (PyData.keyHash PP (Str.ofString "Fetch")) (Value.str (Str.ofString "Fetch") 400) (Value.ref 145), DictEntry.mk (PyData.keyHash PP (Str.ofString "Watch")) (Value.str (Str.ofString "Watch") 430) (Value.ref 166), DictEntry.mk (PyData.keyHash PP (Str.ofString "Fetches")) (Value.str (Str.ofString "Fetches") 522) (Value.ref 234), DictEntry.mk (PyData.keyHash PP (Str.ofString "_check_new")) (Value.str (Str.ofString "_check_new") 531) (Value.ref 245), DictEntry.mk (PyData.keyHash PP (Str.ofString "MOST_READ_offers")) (Value.str (Str.ofString "MOST_READ_offers") 535) (Value.int 1024 534), DictEntry.mk (PyData.keyHash PP (Str.ofString "Offers")) (Value.str (Str.ofString "Offers") 650) (Value.ref 325), DictEntry.mk (PyData.keyHash PP (Str.ofString "MOST_SOURCES")) (Value.str (Str.ofString "MOST_SOURCES") 654) (Value.int 8 653), DictEntry.mk (PyData.keyHash PP (Str.ofString "MOST_KINDS")) (Value.str (Str.ofString "MOST_KINDS") 656) (Value.int 16 655), DictEntry.mk (PyData.keyHash PP (Str.ofString "MOST_OCTETS_sources")) (Value.str (Str.ofString "MOST_OCTETS_sources") 658) (Value.int 32768 657), DictEntry.mk (PyData.keyHash PP (Str.ofString "LONGEST_TEXT_sources")) (Value.str (Str.ofString "LONGEST_TEXT_sources") 660) (Value.int 128 659), DictEntry.mk (PyData.keyHash PP (Str.ofString "Source")) (Value.str (Str.ofString "Source") 689) (Value.ref 346), DictEntry.mk (PyData.keyHash PP (Str.ofString "Sources")) (Value.str (Str.ofString "Sources") 759) (Value.ref 403), DictEntry.mk (PyData.keyHash PP (Str.ofString "MOST_SENT_OCTETS")) (Value.str (Str.ofString "MOST_SENT_OCTETS") 763) (Value.int 8192 762), DictEntry.mk (PyData.keyHash PP (Str.ofString "MOST_SENT_NAMES")) (Value.str (Str.ofString "MOST_SENT_NAMES") 765) (Value.int 4 764), DictEntry.mk (PyData.keyHash PP (Str.ofString "Holdings")) (Value.str (Str.ofString "Holdings") 962) (Value.ref 543), DictEntry.mk (PyData.keyHash PP (Str.ofString "GREATEST_NUMBER")) (Value.str (Str.ofString "GREATEST_NUMBER") 966) (Value.int 4294967295 965), DictEntry.mk (PyData.keyHash PP (Str.ofString "LEAST_INT")) (Value.str (Str.ofString "LEAST_INT") 969) (Value.int (-2147483648) 968), DictEntry.mk (PyData.keyHash PP (Str.ofString "GREATEST_INT")) (Value.str (Str.ofString "GREATEST_INT") 971) (Value.int 2147483647 970), DictEntry.mk (PyData.keyHash PP (Str.ofString "LONGEST_TEXT_fields")) (Value.str (Str.ofString "LONGEST_TEXT_fields") 973) (Value.int 1000 972), DictEntry.mk (PyData.keyHash PP (Str.ofString "MOST_OCTETS_fields")) (Value.str (Str.ofString "MOST_OCTETS_fields") 975) (Value.int 16384 974), DictEntry.mk (PyData.keyHash PP (Str.ofString "_FIRST_CODE")) (Value.str (Str.ofString "_FIRST_CODE") 977) (Value.int 32 976), DictEntry.mk (PyData.keyHash PP (Str.ofString "_LAST_CODE")) (Value.str (Str.ofString "_LAST_CODE") 979) (Value.int 126 978), DictEntry.mk (PyData.keyHash PP (Str.ofString "_PERCENT_CODE")) (Value.str (Str.ofString "_PERCENT_CODE") 981) (Value.int 37 980), DictEntry.mk (PyData.keyHash PP (Str.ofString "is_integer")) (Value.str (Str.ofString "is_integer") 990) (Value.ref 554), DictEntry.mk (PyData.keyHash PP (Str.ofString "is_text")) (Value.str (Str.ofString "is_text") 996) (Value.ref 559), DictEntry.mk (PyData.keyHash PP (Str.ofString "number_octets")) (Value.str (Str.ofString "number_octets") 1002) (Value.ref 564), DictEntry.mk (PyData.keyHash PP (Str.ofString "field_octets")) (Value.str (Str.ofString "field_octets") 1012) (Value.ref 571), DictEntry.mk (PyData.keyHash PP (Str.ofString "_is_code")) (Value.str (Str.ofString "_is_code") 1019) (Value.ref 578), DictEntry.mk (PyData.keyHash PP (Str.ofString "_is_of")) (Value.str (Str.ofString "_is_of") 1027) (Value.ref 585), DictEntry.mk (PyData.keyHash PP (Str.ofString "_are_octets")) (Value.str (Str.ofString "_are_octets") 1033) (Value.ref 590), DictEntry.mk (PyData.keyHash PP (Str.ofString "_is_bound")) (Value.str (Str.ofString "_is_bound") 1040) (Value.ref 597), DictEntry.mk (PyData.keyHash PP (Str.ofString "_text_octets")) (Value.str (Str.ofString "_text_octets") 1046) (Value.ref 602), DictEntry.mk (PyData.keyHash PP (Str.ofString "_padded")) (Value.str (Str.ofString "_padded") 1053) (Value.ref 609), DictEntry.mk (PyData.keyHash PP (Str.ofString "HEADER_SIZE")) (Value.str (Str.ofString "HEADER_SIZE") 1057) (Value.int 8 1056), DictEntry.mk (PyData.keyHash PP (Str.ofString "GREATEST_SIZE")) (Value.str (Str.ofString "GREATEST_SIZE") 1059) (Value.int 20480 1058), DictEntry.mk (PyData.keyHash PP (Str.ofString "GREATEST_OPCODE")) (Value.str (Str.ofString "GREATEST_OPCODE") 1061) (Value.int 65535 1060), DictEntry.mk (PyData.keyHash PP (Str.ofString "MOST_ARGUMENTS")) (Value.str (Str.ofString "MOST_ARGUMENTS") 1063) (Value.int 20 1062), DictEntry.mk (PyData.keyHash PP (Str.ofString "encode_message")) (Value.str (Str.ofString "encode_message") 1076) (Value.ref 616), DictEntry.mk (PyData.keyHash PP (Str.ofString "_EVENTS")) (Value.str (Str.ofString "_EVENTS") 1213) (Value.ref 617), DictEntry.mk (PyData.keyHash PP (Str.ofString "event_octets")) (Value.str (Str.ofString "event_octets") 1226) (Value.ref 716), DictEntry.mk (PyData.keyHash PP (Str.ofString "_opcode_of")) (Value.str (Str.ofString "_opcode_of") 1232) (Value.ref 721), DictEntry.mk (PyData.keyHash PP (Str.ofString "Reply")) (Value.str (Str.ofString "Reply") 1292) (Value.ref 759), DictEntry.mk (PyData.keyHash PP (Str.ofString "Request")) (Value.str (Str.ofString "Request") 1331) (Value.ref 780), DictEntry.mk (PyData.keyHash PP (Str.ofString "_law_cell")) (Value.str (Str.ofString "_law_cell") 1342) (Value.ref 791), DictEntry.mk (PyData.keyHash PP (Str.ofString "_law_row")) (Value.str (Str.ofString "_law_row") 1353) (Value.ref 798), DictEntry.mk (PyData.keyHash PP (Str.ofString "_law_serve")) (Value.str (Str.ofString "_law_serve") 1367) (Value.ref 805), DictEntry.mk (PyData.keyHash PP (Str.ofString "_law_kind")) (Value.str (Str.ofString "_law_kind") 1375) (Value.ref 812), DictEntry.mk (PyData.keyHash PP (Str.ofString "_law_octets")) (Value.str (Str.ofString "_law_octets") 1381) (Value.ref 817), DictEntry.mk (PyData.keyHash PP (Str.ofString "_law_total")) (Value.str (Str.ofString "_law_total") 1387) (Value.ref 822), DictEntry.mk (PyData.keyHash PP (Str.ofString "_law_write")) (Value.str (Str.ofString "_law_write") 1393) (Value.ref 827), DictEntry.mk (PyData.keyHash PP (Str.ofString "_law_goods")) (Value.str (Str.ofString "_law_goods") 1399) (Value.ref 832), DictEntry.mk (PyData.keyHash PP (Str.ofString "_law_give")) (Value.str (Str.ofString "_law_give") 1405) (Value.ref 837), DictEntry.mk (PyData.keyHash PP (Str.ofString "law")) (Value.str (Str.ofString "law") 1411) (Value.ref 842)] 76) #[]) ::
(nat_lit 15, Obj.mk (Value.type "tuple") none (Data.seq #[]) #[]) ::
(nat_lit 17, Obj.mk (Value.type "tuple") none (Data.seq #[Value.str (Str.ofString "k") 190]) #[]) ::
(nat_lit 18, Obj.mk (Value.type "tuple") none (Data.seq #[]) #[]) ::
(nat_lit 20, Obj.mk (Value.type "code") none (Data.fields #[Value.str (Str.ofString "_wall") 187, Value.str (Str.ofString "_wall") 188, Value.str (Str.ofString "/claim/cut.py") 189, Value.int 1 0, Value.int 1 0, Value.int 0 0, Value.int 0 0, Value.int 3 0, Value.ref 15, Value.bool true, Value.int 181 0, Value.ref 16, Value.none, Value.ref 17, Value.ref 18, Value.ref 19, Value.int 191 0, Value.int 1 0, Value.str (Str.ofString "/claim/cut.py") 192]) #[]) ::
(nat_lit 21, Obj.mk (Value.type "function") none (Data.func (FuncData.mk (Str.ofString "_wall") (Str.ofString "_wall") (defArgs (topS 0)) (.stmts (defBody (topS 0))) (defScope (topS 0)) 3 [] Value.none Value.none Value.none (Value.str (Str.ofString "__main__") 164) none (Value.ref 20) Value.none 0)) #[]) ::
(nat_lit 22, Obj.mk (Value.type "tuple") none (Data.seq #[Value.type "ValueError"]) #[]) ::
(nat_lit 29, Obj.mk (Value.type "tuple") none (Data.seq #[]) #[]) ::
(nat_lit 30, Obj.mk (Value.type "dict") none (Data.dict #[DictEntry.mk (PyData.keyHash PP (Str.ofString "__module__")) (Value.str (Str.ofString "__module__") 203) (Value.str (Str.ofString "sillwatch.errors") 194), DictEntry.mk (PyData.keyHash PP (Str.ofString "__firstlineno__")) (Value.str (Str.ofString "__firstlineno__") 207) (Value.int 5 206), DictEntry.mk (PyData.keyHash PP (Str.ofString "__static_attributes__")) (Value.str (Str.ofString "__static_attributes__") 208) (Value.ref 29), DictEntry.mk (PyData.keyHash PP (Str.ofString "__weakref__")) (Value.str (Str.ofString "__weakref__") 210) (Value.ref 32), DictEntry.mk (PyData.keyHash PP (Str.ofString "__doc__")) (Value.str (Str.ofString "__doc__") 211) Value.none] 3) #[]) ::
(nat_lit 31, Obj.mk (Value.type "type") none (Data.cls (ClassData.mk (Str.ofString "DisplayError") [Value.type "ValueError"] [Value.ref 31, Value.type "ValueError", Value.type "Exception", Value.type "BaseException", Value.type "object"] 30 (Str.ofString "DisplayError") true [] [Value.ref 44, Value.ref 56, Value.ref 77] false none false)) #[some (Value.ref 22), none, some (Value.str (Str.ofString "DisplayError") 196), some (Value.str (Str.ofString "DisplayError") 204), some (Value.builtin "ValueError.__new__"), some (Value.bool true)]) ::
(nat_lit 32, Obj.mk (Value.type "getset_descriptor") none (Data.fields #[Value.str (Str.ofString "__weakref__") 209, Value.ref 31, Value.builtin "ExceptionGroup.__weakref__", Value.none]) #[]) ::
(nat_lit 35, Obj.mk (Value.type "tuple") none (Data.seq #[Value.ref 31]) #[]) ::
(nat_lit 42, Obj.mk (Value.type "tuple") none (Data.seq #[]) #[]) ::
(nat_lit 43, Obj.mk (Value.type "dict") none (Data.dict #[DictEntry.mk (PyData.keyHash PP (Str.ofString "__module__")) (Value.str (Str.ofString "__module__") 221) (Value.str (Str.ofString "sillwatch.errors") 194), DictEntry.mk (PyData.keyHash PP (Str.ofString "__firstlineno__")) (Value.str (Str.ofString "__firstlineno__") 225) (Value.int 7 224), DictEntry.mk (PyData.keyHash PP (Str.ofString "__static_attributes__")) (Value.str (Str.ofString "__static_attributes__") 226) (Value.ref 42), DictEntry.mk (PyData.keyHash PP (Str.ofString "__doc__")) (Value.str (Str.ofString "__doc__") 227) Value.none] 2) #[]) ::
(nat_lit 44, Obj.mk (Value.type "type") none (Data.cls (ClassData.mk (Str.ofString "BadMessage") [Value.ref 31] [Value.ref 44, Value.ref 31, Value.type "ValueError", Value.type "Exception", Value.type "BaseException", Value.type "object"] 43 (Str.ofString "BadMessage") true [] [] false none false)) #[some (Value.ref 35), none, some (Value.str (Str.ofString "BadMessage") 214), some (Value.str (Str.ofString "BadMessage") 222), some (Value.builtin "ValueError.__new__"), some (Value.bool true)]) ::
(nat_lit 47, Obj.mk (Value.type "tuple") none (Data.seq #[Value.ref 31]) #[]) ::
(nat_lit 54, Obj.mk (Value.type "tuple") none (Data.seq #[]) #[]) ::
(nat_lit 55, Obj.mk (Value.type "dict") none (Data.dict #[DictEntry.mk (PyData.keyHash PP (Str.ofString "__module__")) (Value.str (Str.ofString "__module__") 237) (Value.str (Str.ofString "sillwatch.errors") 194), DictEntry.mk (PyData.keyHash PP (Str.ofString "__firstlineno__")) (Value.str (Str.ofString "__firstlineno__") 241) (Value.int 9 240), DictEntry.mk (PyData.keyHash PP (Str.ofString "__static_attributes__")) (Value.str (Str.ofString "__static_attributes__") 242) (Value.ref 54), DictEntry.mk (PyData.keyHash PP (Str.ofString "__doc__")) (Value.str (Str.ofString "__doc__") 243) Value.none] 2) #[]) ::
(nat_lit 56, Obj.mk (Value.type "type") none (Data.cls (ClassData.mk (Str.ofString "MessageTooLong") [Value.ref 31] [Value.ref 56, Value.ref 31, Value.type "ValueError", Value.type "Exception", Value.type "BaseException", Value.type "object"] 55 (Str.ofString "MessageTooLong") true [] [] false none false)) #[some (Value.ref 47), none, some (Value.str (Str.ofString "MessageTooLong") 230), some (Value.str (Str.ofString "MessageTooLong") 238), some (Value.builtin "ValueError.__new__"), some (Value.bool true)]) ::
(nat_lit 59, Obj.mk (Value.type "tuple") none (Data.seq #[Value.ref 31]) #[]) ::
(nat_lit 62, Obj.mk (Value.type "cell") none (Data.cell (some (Value.ref 77))) #[]) ::
(nat_lit 67, Obj.mk (Value.type "tuple") none (Data.seq #[Value.ref 62]) #[]) ::
(nat_lit 68, Obj.mk (Value.type "tuple") none (Data.seq #[Value.str (Str.ofString "__class__") 261]) #[]) ::
(nat_lit 70, Obj.mk (Value.type "tuple") none (Data.seq #[Value.str (Str.ofString "self") 262, Value.str (Str.ofString "number") 263, Value.str (Str.ofString "code") 264, Value.str (Str.ofString "words") 265]) #[]) ::
(nat_lit 71, Obj.mk (Value.type "tuple") none (Data.seq #[]) #[]) ::
(nat_lit 73, Obj.mk (Value.type "code") none (Data.fields #[Value.str (Str.ofString "__init__") 258, Value.str (Str.ofString "Fault.__init__") 259, Value.str (Str.ofString "/claim/cut.py") 260, Value.int 13 0, Value.int 4 0, Value.int 0 0, Value.int 0 0, Value.int 3 0, Value.ref 68, Value.bool true, Value.int 181 0, Value.ref 69, Value.none, Value.ref 70, Value.ref 71, Value.ref 72, Value.int 266 0, Value.int 13 0, Value.str (Str.ofString "/claim/cut.py") 267]) #[]) ::
(nat_lit 74, Obj.mk (Value.type "function") none (Data.func (FuncData.mk (Str.ofString "__init__") (Str.ofString "Fault.__init__") (defArgs (inClass (topS 5) 0)) (.stmts (defBody (inClass (topS 5) 0))) (defScope (inClass (topS 5) 0)) 3 [(Str.ofString "__class__", 62)] Value.none Value.none Value.none (Value.str (Str.ofString "sillwatch.errors") 194) none (Value.ref 73) (Value.ref 67) 0)) #[]) ::
(nat_lit 75, Obj.mk (Value.type "tuple") none (Data.seq #[Value.str (Str.ofString "code") 269, Value.str (Str.ofString "number") 270, Value.str (Str.ofString "words") 271]) #[]) ::
(nat_lit 76, Obj.mk (Value.type "dict") none (Data.dict #[DictEntry.mk (PyData.keyHash PP (Str.ofString "__module__")) (Value.str (Str.ofString "__module__") 253) (Value.str (Str.ofString "sillwatch.errors") 194), DictEntry.mk (PyData.keyHash PP (Str.ofString "__firstlineno__")) (Value.str (Str.ofString "__firstlineno__") 257) (Value.int 11 256), DictEntry.mk (PyData.keyHash PP (Str.ofString "__init__")) (Value.str (Str.ofString "__init__") 268) (Value.ref 74), DictEntry.mk (PyData.keyHash PP (Str.ofString "__static_attributes__")) (Value.str (Str.ofString "__static_attributes__") 272) (Value.ref 75), DictEntry.mk (PyData.keyHash PP (Str.ofString "__doc__")) (Value.str (Str.ofString "__doc__") 274) Value.none] 3) #[]) ::
(nat_lit 77, Obj.mk (Value.type "type") none (Data.cls (ClassData.mk (Str.ofString "Fault") [Value.ref 31] [Value.ref 77, Value.ref 31, Value.type "ValueError", Value.type "Exception", Value.type "BaseException", Value.type "object"] 76 (Str.ofString "Fault") true [] [] false none false)) #[some (Value.ref 59), none, some (Value.str (Str.ofString "Fault") 246), some (Value.str (Str.ofString "Fault") 254), some (Value.builtin "ValueError.__new__"), some (Value.bool true)]) ::
(nat_lit 87, Obj.mk (Value.type "tuple") none (Data.seq #[]) #[]) ::
(nat_lit 89, Obj.mk (Value.type "tuple") none (Data.seq #[Value.str (Str.ofString "self") 302]) #[]) ::
(nat_lit 90, Obj.mk (Value.type "tuple") none (Data.seq #[]) #[]) ::
(nat_lit 92, Obj.mk (Value.type "code") none (Data.fields #[Value.str (Str.ofString "__init__") 299, Value.str (Str.ofString "Captures.__init__") 300, Value.str (Str.ofString "/claim/cut.py") 301, Value.int 25 0, Value.int 1 0, Value.int 0 0, Value.int 0 0, Value.int 3 0, Value.ref 87, Value.bool true, Value.int 181 0, Value.ref 88, Value.none, Value.ref 89, Value.ref 90, Value.ref 91, Value.int 303 0, Value.int 25 0, Value.str (Str.ofString "/claim/cut.py") 304]) #[]) ::
(nat_lit 93, Obj.mk (Value.type "function") none (Data.func (FuncData.mk (Str.ofString "__init__") (Str.ofString "Captures.__init__") (defArgs (inClass (topS 11) 0)) (.stmts (defBody (inClass (topS 11) 0))) (defScope (inClass (topS 11) 0)) 3 [] Value.none Value.none Value.none (Value.str (Str.ofString "sillwatch.giving.captures") 277) none (Value.ref 92) Value.none 0)) #[]) ::
(nat_lit 94, Obj.mk (Value.type "tuple") none (Data.seq #[]) #[]) ::
(nat_lit 96, Obj.mk (Value.type "tuple") none (Data.seq #[Value.str (Str.ofString "self") 309, Value.str (Str.ofString "request") 310, Value.str (Str.ofString "number") 311, Value.str (Str.ofString "_") 312, Value.str (Str.ofString "width") 313, Value.str (Str.ofString "height") 314]) #[]) ::
(nat_lit 97, Obj.mk (Value.type "tuple") none (Data.seq #[]) #[]) ::
(nat_lit 99, Obj.mk (Value.type "code") none (Data.fields #[Value.str (Str.ofString "make") 306, Value.str (Str.ofString "Captures.make") 307, Value.str (Str.ofString "/claim/cut.py") 308, Value.int 28 0, Value.int 2 0, Value.int 0 0, Value.int 0 0, Value.int 3 0, Value.ref 94, Value.bool true, Value.int 181 0, Value.ref 95, Value.none, Value.ref 96, Value.ref 97, Value.ref 98, Value.int 315 0, Value.int 28 0, Value.str (Str.ofString "/claim/cut.py") 316]) #[]) ::
(nat_lit 100, Obj.mk (Value.type "function") none (Data.func (FuncData.mk (Str.ofString "make") (Str.ofString "Captures.make") (defArgs (inClass (topS 11) 1)) (.stmts (defBody (inClass (topS 11) 1))) (defScope (inClass (topS 11) 1)) 3 [] Value.none Value.none Value.none (Value.str (Str.ofString "sillwatch.giving.captures") 277) none (Value.ref 99) Value.none 0)) #[]) ::
(nat_lit 101, Obj.mk (Value.type "tuple") none (Data.seq #[]) #[]) ::
(nat_lit 103, Obj.mk (Value.type "tuple") none (Data.seq #[Value.str (Str.ofString "self") 321, Value.str (Str.ofString "number") 322, Value.str (Str.ofString "picture") 323, Value.str (Str.ofString "reply") 324]) #[]) ::
(nat_lit 104, Obj.mk (Value.type "tuple") none (Data.seq #[]) #[]) ::
(nat_lit 106, Obj.mk (Value.type "code") none (Data.fields #[Value.str (Str.ofString "answered") 318, Value.str (Str.ofString "Captures.answered") 319, Value.str (Str.ofString "/claim/cut.py") 320, Value.int 36 0, Value.int 4 0, Value.int 0 0, Value.int 0 0, Value.int 3 0, Value.ref 101, Value.bool true, Value.int 181 0, Value.ref 102, Value.none, Value.ref 103, Value.ref 104, Value.ref 105, Value.int 325 0, Value.int 36 0, Value.str (Str.ofString "/claim/cut.py") 326]) #[]) ::
(nat_lit 107, Obj.mk (Value.type "function") none (Data.func (FuncData.mk (Str.ofString "answered") (Str.ofString "Captures.answered") (defArgs (inClass (topS 11) 2)) (.stmts (defBody (inClass (topS 11) 2))) (defScope (inClass (topS 11) 2)) 3 [] Value.none Value.none Value.none (Value.str (Str.ofString "sillwatch.giving.captures") 277) none (Value.ref 106) Value.none 0)) #[]) ::
(nat_lit 108, Obj.mk (Value.type "tuple") none (Data.seq #[]) #[]) ::
(nat_lit 110, Obj.mk (Value.type "tuple") none (Data.seq #[Value.str (Str.ofString "self") 331, Value.str (Str.ofString "request") 332, Value.str (Str.ofString "reply") 333, Value.str (Str.ofString "row") 334, Value.str (Str.ofString "rows") 335, Value.str (Str.ofString "picture") 336, Value.str (Str.ofString "width") 337, Value.str (Str.ofString "height") 338, Value.str (Str.ofString "octets") 339, Value.str (Str.ofString "size") 340]) #[]) ::
(nat_lit 111, Obj.mk (Value.type "tuple") none (Data.seq #[]) #[]) ::
(nat_lit 113, Obj.mk (Value.type "code") none (Data.fields #[Value.str (Str.ofString "read") 328, Value.str (Str.ofString "Captures.read") 329, Value.str (Str.ofString "/claim/cut.py") 330, Value.int 39 0, Value.int 3 0, Value.int 0 0, Value.int 0 0, Value.int 3 0, Value.ref 108, Value.bool true, Value.int 181 0, Value.ref 109, Value.none, Value.ref 110, Value.ref 111, Value.ref 112, Value.int 341 0, Value.int 39 0, Value.str (Str.ofString "/claim/cut.py") 342]) #[]) ::
(nat_lit 114, Obj.mk (Value.type "function") none (Data.func (FuncData.mk (Str.ofString "read") (Str.ofString "Captures.read") (defArgs (inClass (topS 11) 3)) (.stmts (defBody (inClass (topS 11) 3))) (defScope (inClass (topS 11) 3)) 3 [] Value.none Value.none Value.none (Value.str (Str.ofString "sillwatch.giving.captures") 277) none (Value.ref 113) Value.none 0)) #[]) ::
(nat_lit 115, Obj.mk (Value.type "tuple") none (Data.seq #[]) #[]) ::
(nat_lit 117, Obj.mk (Value.type "tuple") none (Data.seq #[Value.str (Str.ofString "self") 347, Value.str (Str.ofString "number") 348]) #[]) ::
(nat_lit 118, Obj.mk (Value.type "tuple") none (Data.seq #[]) #[]) ::
(nat_lit 120, Obj.mk (Value.type "code") none (Data.fields #[Value.str (Str.ofString "forget") 344, Value.str (Str.ofString "Captures.forget") 345, Value.str (Str.ofString "/claim/cut.py") 346, Value.int 50 0, Value.int 2 0, Value.int 0 0, Value.int 0 0, Value.int 3 0, Value.ref 115, Value.bool true, Value.int 181 0, Value.ref 116, Value.none, Value.ref 117, Value.ref 118, Value.ref 119, Value.int 349 0, Value.int 50 0, Value.str (Str.ofString "/claim/cut.py") 350]) #[]) ::
(nat_lit 121, Obj.mk (Value.type "function") none (Data.func (FuncData.mk (Str.ofString "forget") (Str.ofString "Captures.forget") (defArgs (inClass (topS 11) 4)) (.stmts (defBody (inClass (topS 11) 4))) (defScope (inClass (topS 11) 4)) 3 [] Value.none Value.none Value.none (Value.str (Str.ofString "sillwatch.giving.captures") 277) none (Value.ref 120) Value.none 0)) #[]) ::
(nat_lit 122, Obj.mk (Value.type "tuple") none (Data.seq #[Value.str (Str.ofString "_pictures") 352]) #[]) ::
(nat_lit 123, Obj.mk (Value.type "dict") none (Data.dict #[DictEntry.mk (PyData.keyHash PP (Str.ofString "__module__")) (Value.str (Str.ofString "__module__") 294) (Value.str (Str.ofString "sillwatch.giving.captures") 277), DictEntry.mk (PyData.keyHash PP (Str.ofString "__firstlineno__")) (Value.str (Str.ofString "__firstlineno__") 298) (Value.int 23 297), DictEntry.mk (PyData.keyHash PP (Str.ofString "__init__")) (Value.str (Str.ofString "__init__") 305) (Value.ref 93), DictEntry.mk (PyData.keyHash PP (Str.ofString "make")) (Value.str (Str.ofString "make") 317) (Value.ref 100), DictEntry.mk (PyData.keyHash PP (Str.ofString "answered")) (Value.str (Str.ofString "answered") 327) (Value.ref 107), DictEntry.mk (PyData.keyHash PP (Str.ofString "read")) (Value.str (Str.ofString "read") 343) (Value.ref 114), DictEntry.mk (PyData.keyHash PP (Str.ofString "forget")) (Value.str (Str.ofString "forget") 351) (Value.ref 121), DictEntry.mk (PyData.keyHash PP (Str.ofString "__static_attributes__")) (Value.str (Str.ofString "__static_attributes__") 353) (Value.ref 122), DictEntry.mk (PyData.keyHash PP (Str.ofString "__dict__")) (Value.str (Str.ofString "__dict__") 355) (Value.ref 125), DictEntry.mk (PyData.keyHash PP (Str.ofString "__weakref__")) (Value.str (Str.ofString "__weakref__") 357) (Value.ref 126), DictEntry.mk (PyData.keyHash PP (Str.ofString "__doc__")) (Value.str (Str.ofString "__doc__") 358) Value.none] 4) #[]) ::
(nat_lit 124, Obj.mk (Value.type "type") none (Data.cls (ClassData.mk (Str.ofString "Captures") [Value.type "object"] [Value.ref 124, Value.type "object"] 123 (Str.ofString "Captures") true [] [] false none false)) #[none, none, some (Value.str (Str.ofString "Captures") 287), some (Value.str (Str.ofString "Captures") 295), some (Value.builtin "object.__new__"), some (Value.bool true)]) ::
(nat_lit 125, Obj.mk (Value.type "getset_descriptor") none (Data.fields #[Value.str (Str.ofString "__dict__") 354, Value.ref 124, Value.builtin "function.__dict__", Value.builtin "function.__dict__#set"]) #[]) ::
(nat_lit 126, Obj.mk (Value.type "getset_descriptor") none (Data.fields #[Value.str (Str.ofString "__weakref__") 356, Value.ref 124, Value.builtin "ExceptionGroup.__weakref__", Value.none]) #[]) ::
(nat_lit 136, Obj.mk (Value.type "tuple") none (Data.seq #[]) #[]) ::
(nat_lit 138, Obj.mk (Value.type "tuple") none (Data.seq #[Value.str (Str.ofString "self") 386, Value.str (Str.ofString "name") 387]) #[]) ::
(nat_lit 139, Obj.mk (Value.type "tuple") none (Data.seq #[]) #[]) ::
(nat_lit 141, Obj.mk (Value.type "code") none (Data.fields #[Value.str (Str.ofString "__init__") 383, Value.str (Str.ofString "Fetch.__init__") 384, Value.str (Str.ofString "/claim/cut.py") 385, Value.int 60 0, Value.int 2 0, Value.int 0 0, Value.int 0 0, Value.int 3 0, Value.ref 136, Value.bool true, Value.int 181 0, Value.ref 137, Value.none, Value.ref 138, Value.ref 139, Value.ref 140, Value.int 388 0, Value.int 60 0, Value.str (Str.ofString "/claim/cut.py") 389]) #[]) ::
(nat_lit 142, Obj.mk (Value.type "function") none (Data.func (FuncData.mk (Str.ofString "__init__") (Str.ofString "Fetch.__init__") (defArgs (inClass (topS 17) 0)) (.stmts (defBody (inClass (topS 17) 0))) (defScope (inClass (topS 17) 0)) 3 [] Value.none Value.none Value.none (Value.str (Str.ofString "sillwatch.giving.fetches") 361) none (Value.ref 141) Value.none 0)) #[]) ::
(nat_lit 143, Obj.mk (Value.type "tuple") none (Data.seq #[Value.str (Str.ofString "name") 391, Value.str (Str.ofString "octets") 392]) #[]) ::
(nat_lit 144, Obj.mk (Value.type "dict") none (Data.dict #[DictEntry.mk (PyData.keyHash PP (Str.ofString "__module__")) (Value.str (Str.ofString "__module__") 378) (Value.str (Str.ofString "sillwatch.giving.fetches") 361), DictEntry.mk (PyData.keyHash PP (Str.ofString "__firstlineno__")) (Value.str (Str.ofString "__firstlineno__") 382) (Value.int 58 381), DictEntry.mk (PyData.keyHash PP (Str.ofString "__init__")) (Value.str (Str.ofString "__init__") 390) (Value.ref 142), DictEntry.mk (PyData.keyHash PP (Str.ofString "__static_attributes__")) (Value.str (Str.ofString "__static_attributes__") 393) (Value.ref 143), DictEntry.mk (PyData.keyHash PP (Str.ofString "__dict__")) (Value.str (Str.ofString "__dict__") 395) (Value.ref 146), DictEntry.mk (PyData.keyHash PP (Str.ofString "__weakref__")) (Value.str (Str.ofString "__weakref__") 397) (Value.ref 147), DictEntry.mk (PyData.keyHash PP (Str.ofString "__doc__")) (Value.str (Str.ofString "__doc__") 398) Value.none] 4) #[]) ::
(nat_lit 145, Obj.mk (Value.type "type") none (Data.cls (ClassData.mk (Str.ofString "Fetch") [Value.type "object"] [Value.ref 145, Value.type "object"] 144 (Str.ofString "Fetch") true [] [] false none false)) #[none, none, some (Value.str (Str.ofString "Fetch") 371), some (Value.str (Str.ofString "Fetch") 379), some (Value.builtin "object.__new__"), some (Value.bool true)]) ::
(nat_lit 146, Obj.mk (Value.type "getset_descriptor") none (Data.fields #[Value.str (Str.ofString "__dict__") 394, Value.ref 145, Value.builtin "function.__dict__", Value.builtin "function.__dict__#set"]) #[]) ::
(nat_lit 147, Obj.mk (Value.type "getset_descriptor") none (Data.fields #[Value.str (Str.ofString "__weakref__") 396, Value.ref 145, Value.builtin "ExceptionGroup.__weakref__", Value.none]) #[]) ::
(nat_lit 157, Obj.mk (Value.type "tuple") none (Data.seq #[]) #[]) ::
(nat_lit 159, Obj.mk (Value.type "tuple") none (Data.seq #[Value.str (Str.ofString "self") 416, Value.str (Str.ofString "label") 417]) #[]) ::
(nat_lit 160, Obj.mk (Value.type "tuple") none (Data.seq #[]) #[]) ::
(nat_lit 162, Obj.mk (Value.type "code") none (Data.fields #[Value.str (Str.ofString "__init__") 413, Value.str (Str.ofString "Watch.__init__") 414, Value.str (Str.ofString "/claim/cut.py") 415, Value.int 65 0, Value.int 2 0, Value.int 0 0, Value.int 0 0, Value.int 3 0, Value.ref 157, Value.bool true, Value.int 181 0, Value.ref 158, Value.none, Value.ref 159, Value.ref 160, Value.ref 161, Value.int 418 0, Value.int 65 0, Value.str (Str.ofString "/claim/cut.py") 419]) #[]) ::
(nat_lit 163, Obj.mk (Value.type "function") none (Data.func (FuncData.mk (Str.ofString "__init__") (Str.ofString "Watch.__init__") (defArgs (inClass (topS 18) 0)) (.stmts (defBody (inClass (topS 18) 0))) (defScope (inClass (topS 18) 0)) 3 [] Value.none Value.none Value.none (Value.str (Str.ofString "sillwatch.giving.fetches") 361) none (Value.ref 162) Value.none 0)) #[]) ::
(nat_lit 164, Obj.mk (Value.type "tuple") none (Data.seq #[Value.str (Str.ofString "label") 421, Value.str (Str.ofString "told") 422]) #[]) ::
(nat_lit 165, Obj.mk (Value.type "dict") none (Data.dict #[DictEntry.mk (PyData.keyHash PP (Str.ofString "__module__")) (Value.str (Str.ofString "__module__") 408) (Value.str (Str.ofString "sillwatch.giving.fetches") 361), DictEntry.mk (PyData.keyHash PP (Str.ofString "__firstlineno__")) (Value.str (Str.ofString "__firstlineno__") 412) (Value.int 63 411), DictEntry.mk (PyData.keyHash PP (Str.ofString "__init__")) (Value.str (Str.ofString "__init__") 420) (Value.ref 163), DictEntry.mk (PyData.keyHash PP (Str.ofString "__static_attributes__")) (Value.str (Str.ofString "__static_attributes__") 423) (Value.ref 164), DictEntry.mk (PyData.keyHash PP (Str.ofString "__dict__")) (Value.str (Str.ofString "__dict__") 425) (Value.ref 167), DictEntry.mk (PyData.keyHash PP (Str.ofString "__weakref__")) (Value.str (Str.ofString "__weakref__") 427) (Value.ref 168), DictEntry.mk (PyData.keyHash PP (Str.ofString "__doc__")) (Value.str (Str.ofString "__doc__") 428) Value.none] 4) #[]) ::
(nat_lit 166, Obj.mk (Value.type "type") none (Data.cls (ClassData.mk (Str.ofString "Watch") [Value.type "object"] [Value.ref 166, Value.type "object"] 165 (Str.ofString "Watch") true [] [] false none false)) #[none, none, some (Value.str (Str.ofString "Watch") 401), some (Value.str (Str.ofString "Watch") 409), some (Value.builtin "object.__new__"), some (Value.bool true)]) ::
(nat_lit 167, Obj.mk (Value.type "getset_descriptor") none (Data.fields #[Value.str (Str.ofString "__dict__") 424, Value.ref 166, Value.builtin "function.__dict__", Value.builtin "function.__dict__#set"]) #[]) ::
(nat_lit 168, Obj.mk (Value.type "getset_descriptor") none (Data.fields #[Value.str (Str.ofString "__weakref__") 426, Value.ref 166, Value.builtin "ExceptionGroup.__weakref__", Value.none]) #[]) ::
(nat_lit 178, Obj.mk (Value.type "tuple") none (Data.seq #[]) #[]) ::
(nat_lit 180, Obj.mk (Value.type "tuple") none (Data.seq #[Value.str (Str.ofString "self") 446]) #[]) ::
(nat_lit 181, Obj.mk (Value.type "tuple") none (Data.seq #[]) #[]) ::
(nat_lit 183, Obj.mk (Value.type "code") none (Data.fields #[Value.str (Str.ofString "__init__") 443, Value.str (Str.ofString "Fetches.__init__") 444, Value.str (Str.ofString "/claim/cut.py") 445, Value.int 70 0, Value.int 1 0, Value.int 0 0, Value.int 0 0, Value.int 3 0, Value.ref 178, Value.bool true, Value.int 181 0, Value.ref 179, Value.none, Value.ref 180, Value.ref 181, Value.ref 182, Value.int 447 0, Value.int 70 0, Value.str (Str.ofString "/claim/cut.py") 448]) #[]) ::
(nat_lit 184, Obj.mk (Value.type "function") none (Data.func (FuncData.mk (Str.ofString "__init__") (Str.ofString "Fetches.__init__") (defArgs (inClass (topS 19) 0)) (.stmts (defBody (inClass (topS 19) 0))) (defScope (inClass (topS 19) 0)) 3 [] Value.none Value.none Value.none (Value.str (Str.ofString "sillwatch.giving.fetches") 361) none (Value.ref 183) Value.none 0)) #[]) ::
(nat_lit 185, Obj.mk (Value.type "tuple") none (Data.seq #[]) #[]) ::
(nat_lit 187, Obj.mk (Value.type "tuple") none (Data.seq #[Value.str (Str.ofString "self") 453, Value.str (Str.ofString "request") 454, Value.str (Str.ofString "number") 455, Value.str (Str.ofString "name") 456]) #[]) ::
(nat_lit 188, Obj.mk (Value.type "tuple") none (Data.seq #[]) #[]) ::
(nat_lit 190, Obj.mk (Value.type "code") none (Data.fields #[Value.str (Str.ofString "make_fetch") 450, Value.str (Str.ofString "Fetches.make_fetch") 451, Value.str (Str.ofString "/claim/cut.py") 452, Value.int 74 0, Value.int 2 0, Value.int 0 0, Value.int 0 0, Value.int 3 0, Value.ref 185, Value.bool true, Value.int 181 0, Value.ref 186, Value.none, Value.ref 187, Value.ref 188, Value.ref 189, Value.int 457 0, Value.int 74 0, Value.str (Str.ofString "/claim/cut.py") 458]) #[]) ::
(nat_lit 191, Obj.mk (Value.type "function") none (Data.func (FuncData.mk (Str.ofString "make_fetch") (Str.ofString "Fetches.make_fetch") (defArgs (inClass (topS 19) 1)) (.stmts (defBody (inClass (topS 19) 1))) (defScope (inClass (topS 19) 1)) 3 [] Value.none Value.none Value.none (Value.str (Str.ofString "sillwatch.giving.fetches") 361) none (Value.ref 190) Value.none 0)) #[]) ::
(nat_lit 192, Obj.mk (Value.type "tuple") none (Data.seq #[]) #[]) ::
(nat_lit 194, Obj.mk (Value.type "tuple") none (Data.seq #[Value.str (Str.ofString "self") 463, Value.str (Str.ofString "request") 464, Value.str (Str.ofString "number") 465, Value.str (Str.ofString "label") 466]) #[]) ::
(nat_lit 195, Obj.mk (Value.type "tuple") none (Data.seq #[]) #[]) ::
(nat_lit 197, Obj.mk (Value.type "code") none (Data.fields #[Value.str (Str.ofString "make_watch") 460, Value.str (Str.ofString "Fetches.make_watch") 461, Value.str (Str.ofString "/claim/cut.py") 462, Value.int 79 0, Value.int 2 0, Value.int 0 0, Value.int 0 0, Value.int 3 0, Value.ref 192, Value.bool true, Value.int 181 0, Value.ref 193, Value.none, Value.ref 194, Value.ref 195, Value.ref 196, Value.int 467 0, Value.int 79 0, Value.str (Str.ofString "/claim/cut.py") 468]) #[]) ::
(nat_lit 198, Obj.mk (Value.type "function") none (Data.func (FuncData.mk (Str.ofString "make_watch") (Str.ofString "Fetches.make_watch") (defArgs (inClass (topS 19) 2)) (.stmts (defBody (inClass (topS 19) 2))) (defScope (inClass (topS 19) 2)) 3 [] Value.none Value.none Value.none (Value.str (Str.ofString "sillwatch.giving.fetches") 361) none (Value.ref 197) Value.none 0)) #[]) ::
(nat_lit 199, Obj.mk (Value.type "tuple") none (Data.seq #[]) #[]) ::
(nat_lit 202, Obj.mk (Value.type "code") none (Data.fields #[Value.str (Str.ofString "names") 470, Value.str (Str.ofString "Fetches.names") 471, Value.str (Str.ofString "/claim/cut.py") 472, Value.int 84 0, Value.int 1 0, Value.int 0 0, Value.int 0 0, Value.int 3 0, Value.ref 199, Value.bool true, Value.int 181 0, Value.ref 200, Value.none, Value.none, Value.none, Value.ref 201, Value.int 473 0, Value.int 84 0, Value.str (Str.ofString "/claim/cut.py") 474]) #[]) ::
(nat_lit 203, Obj.mk (Value.type "function") none (Data.func (FuncData.mk (Str.ofString "names") (Str.ofString "Fetches.names") (defArgs (inClass (topS 19) 3)) (.stmts (defBody (inClass (topS 19) 3))) (defScope (inClass (topS 19) 3)) 3 [] Value.none Value.none Value.none (Value.str (Str.ofString "sillwatch.giving.fetches") 361) none (Value.ref 202) Value.none 0)) #[]) ::
(nat_lit 204, Obj.mk (Value.type "tuple") none (Data.seq #[]) #[]) ::
(nat_lit 206, Obj.mk (Value.type "tuple") none (Data.seq #[Value.str (Str.ofString "self") 479]) #[]) ::
(nat_lit 207, Obj.mk (Value.type "tuple") none (Data.seq #[]) #[]) ::
(nat_lit 209, Obj.mk (Value.type "code") none (Data.fields #[Value.str (Str.ofString "labels") 476, Value.str (Str.ofString "Fetches.labels") 477, Value.str (Str.ofString "/claim/cut.py") 478, Value.int 87 0, Value.int 1 0, Value.int 0 0, Value.int 0 0, Value.int 3 0, Value.ref 204, Value.bool true, Value.int 181 0, Value.ref 205, Value.none, Value.ref 206, Value.ref 207, Value.ref 208, Value.int 480 0, Value.int 87 0, Value.str (Str.ofString "/claim/cut.py") 481]) #[]) ::
(nat_lit 210, Obj.mk (Value.type "function") none (Data.func (FuncData.mk (Str.ofString "labels") (Str.ofString "Fetches.labels") (defArgs (inClass (topS 19) 4)) (.stmts (defBody (inClass (topS 19) 4))) (defScope (inClass (topS 19) 4)) 3 [] Value.none Value.none Value.none (Value.str (Str.ofString "sillwatch.giving.fetches") 361) none (Value.ref 209) Value.none 0)) #[]) ::
(nat_lit 211, Obj.mk (Value.type "tuple") none (Data.seq #[]) #[]) ::
(nat_lit 213, Obj.mk (Value.type "tuple") none (Data.seq #[Value.str (Str.ofString "self") 486, Value.str (Str.ofString "shared") 487, Value.str (Str.ofString "present") 488, Value.str (Str.ofString "reply") 489]) #[]) ::
(nat_lit 214, Obj.mk (Value.type "tuple") none (Data.seq #[]) #[]) ::
(nat_lit 216, Obj.mk (Value.type "code") none (Data.fields #[Value.str (Str.ofString "compare") 483, Value.str (Str.ofString "Fetches.compare") 484, Value.str (Str.ofString "/claim/cut.py") 485, Value.int 90 0, Value.int 4 0, Value.int 0 0, Value.int 0 0, Value.int 3 0, Value.ref 211, Value.bool true, Value.int 181 0, Value.ref 212, Value.none, Value.ref 213, Value.ref 214, Value.ref 215, Value.int 490 0, Value.int 90 0, Value.str (Str.ofString "/claim/cut.py") 491]) #[]) ::
(nat_lit 217, Obj.mk (Value.type "function") none (Data.func (FuncData.mk (Str.ofString "compare") (Str.ofString "Fetches.compare") (defArgs (inClass (topS 19) 5)) (.stmts (defBody (inClass (topS 19) 5))) (defScope (inClass (topS 19) 5)) 3 [] Value.none Value.none Value.none (Value.str (Str.ofString "sillwatch.giving.fetches") 361) none (Value.ref 216) Value.none 0)) #[]) ::
(nat_lit 218, Obj.mk (Value.type "tuple") none (Data.seq #[]) #[]) ::
(nat_lit 220, Obj.mk (Value.type "tuple") none (Data.seq #[Value.str (Str.ofString "self") 496, Value.str (Str.ofString "request") 497, Value.str (Str.ofString "reply") 498, Value.str (Str.ofString "begin") 499, Value.str (Str.ofString "length") 500, Value.str (Str.ofString "octets") 501]) #[]) ::
(nat_lit 221, Obj.mk (Value.type "tuple") none (Data.seq #[]) #[]) ::
(nat_lit 223, Obj.mk (Value.type "code") none (Data.fields #[Value.str (Str.ofString "read") 493, Value.str (Str.ofString "Fetches.read") 494, Value.str (Str.ofString "/claim/cut.py") 495, Value.int 93 0, Value.int 3 0, Value.int 0 0, Value.int 0 0, Value.int 3 0, Value.ref 218, Value.bool true, Value.int 181 0, Value.ref 219, Value.none, Value.ref 220, Value.ref 221, Value.ref 222, Value.int 502 0, Value.int 93 0, Value.str (Str.ofString "/claim/cut.py") 503]) #[]) ::
(nat_lit 224, Obj.mk (Value.type "function") none (Data.func (FuncData.mk (Str.ofString "read") (Str.ofString "Fetches.read") (defArgs (inClass (topS 19) 6)) (.stmts (defBody (inClass (topS 19) 6))) (defScope (inClass (topS 19) 6)) 3 [] Value.none Value.none Value.none (Value.str (Str.ofString "sillwatch.giving.fetches") 361) none (Value.ref 223) Value.none 0)) #[]) ::
(nat_lit 225, Obj.mk (Value.type "tuple") none (Data.seq #[]) #[]) ::
(nat_lit 227, Obj.mk (Value.type "tuple") none (Data.seq #[Value.str (Str.ofString "self") 508, Value.str (Str.ofString "number") 509]) #[]) ::
(nat_lit 228, Obj.mk (Value.type "tuple") none (Data.seq #[]) #[]) ::
(nat_lit 230, Obj.mk (Value.type "code") none (Data.fields #[Value.str (Str.ofString "forget") 505, Value.str (Str.ofString "Fetches.forget") 506, Value.str (Str.ofString "/claim/cut.py") 507, Value.int 100 0, Value.int 2 0, Value.int 0 0, Value.int 0 0, Value.int 3 0, Value.ref 225, Value.bool true, Value.int 181 0, Value.ref 226, Value.none, Value.ref 227, Value.ref 228, Value.ref 229, Value.int 510 0, Value.int 100 0, Value.str (Str.ofString "/claim/cut.py") 511]) #[]) ::
(nat_lit 231, Obj.mk (Value.type "function") none (Data.func (FuncData.mk (Str.ofString "forget") (Str.ofString "Fetches.forget") (defArgs (inClass (topS 19) 7)) (.stmts (defBody (inClass (topS 19) 7))) (defScope (inClass (topS 19) 7)) 3 [] Value.none Value.none Value.none (Value.str (Str.ofString "sillwatch.giving.fetches") 361) none (Value.ref 230) Value.none 0)) #[]) ::
(nat_lit 232, Obj.mk (Value.type "tuple") none (Data.seq #[Value.str (Str.ofString "_fetches") 513, Value.str (Str.ofString "_watches") 514]) #[]) ::
(nat_lit 233, Obj.mk (Value.type "dict") none (Data.dict #[DictEntry.mk (PyData.keyHash PP (Str.ofString "__module__")) (Value.str (Str.ofString "__module__") 438) (Value.str (Str.ofString "sillwatch.giving.fetches") 361), DictEntry.mk (PyData.keyHash PP (Str.ofString "__firstlineno__")) (Value.str (Str.ofString "__firstlineno__") 442) (Value.int 68 441), DictEntry.mk (PyData.keyHash PP (Str.ofString "__init__")) (Value.str (Str.ofString "__init__") 449) (Value.ref 184), DictEntry.mk (PyData.keyHash PP (Str.ofString "make_fetch")) (Value.str (Str.ofString "make_fetch") 459) (Value.ref 191), DictEntry.mk (PyData.keyHash PP (Str.ofString "make_watch")) (Value.str (Str.ofString "make_watch") 469) (Value.ref 198), DictEntry.mk (PyData.keyHash PP (Str.ofString "names")) (Value.str (Str.ofString "names") 475) (Value.ref 203), DictEntry.mk (PyData.keyHash PP (Str.ofString "labels")) (Value.str (Str.ofString "labels") 482) (Value.ref 210), DictEntry.mk (PyData.keyHash PP (Str.ofString "compare")) (Value.str (Str.ofString "compare") 492) (Value.ref 217), DictEntry.mk (PyData.keyHash PP (Str.ofString "read")) (Value.str (Str.ofString "read") 504) (Value.ref 224), DictEntry.mk (PyData.keyHash PP (Str.ofString "forget")) (Value.str (Str.ofString "forget") 512) (Value.ref 231), DictEntry.mk (PyData.keyHash PP (Str.ofString "__static_attributes__")) (Value.str (Str.ofString "__static_attributes__") 515) (Value.ref 232), DictEntry.mk (PyData.keyHash PP (Str.ofString "__dict__")) (Value.str (Str.ofString "__dict__") 517) (Value.ref 235), DictEntry.mk (PyData.keyHash PP (Str.ofString "__weakref__")) (Value.str (Str.ofString "__weakref__") 519) (Value.ref 236), DictEntry.mk (PyData.keyHash PP (Str.ofString "__doc__")) (Value.str (Str.ofString "__doc__") 520) Value.none] 4) #[]) ::
(nat_lit 234, Obj.mk (Value.type "type") none (Data.cls (ClassData.mk (Str.ofString "Fetches") [Value.type "object"] [Value.ref 234, Value.type "object"] 233 (Str.ofString "Fetches") true [] [] false none false)) #[none, none, some (Value.str (Str.ofString "Fetches") 431), some (Value.str (Str.ofString "Fetches") 439), some (Value.builtin "object.__new__"), some (Value.bool true)]) ::
(nat_lit 235, Obj.mk (Value.type "getset_descriptor") none (Data.fields #[Value.str (Str.ofString "__dict__") 516, Value.ref 234, Value.builtin "function.__dict__", Value.builtin "function.__dict__#set"]) #[]) ::
(nat_lit 236, Obj.mk (Value.type "getset_descriptor") none (Data.fields #[Value.str (Str.ofString "__weakref__") 518, Value.ref 234, Value.builtin "ExceptionGroup.__weakref__", Value.none]) #[]) ::
(nat_lit 239, Obj.mk (Value.type "tuple") none (Data.seq #[]) #[]) ::
(nat_lit 241, Obj.mk (Value.type "tuple") none (Data.seq #[Value.str (Str.ofString "request") 526, Value.str (Str.ofString "present") 527, Value.str (Str.ofString "most") 528]) #[]) ::
(nat_lit 242, Obj.mk (Value.type "tuple") none (Data.seq #[]) #[]) ::
(nat_lit 244, Obj.mk (Value.type "code") none (Data.fields #[Value.str (Str.ofString "_check_new") 523, Value.str (Str.ofString "_check_new") 524, Value.str (Str.ofString "/claim/cut.py") 525, Value.int 105 0, Value.int 3 0, Value.int 0 0, Value.int 0 0, Value.int 3 0, Value.ref 239, Value.bool true, Value.int 181 0, Value.ref 240, Value.none, Value.ref 241, Value.ref 242, Value.ref 243, Value.int 529 0, Value.int 105 0, Value.str (Str.ofString "/claim/cut.py") 530]) #[]) ::
(nat_lit 245, Obj.mk (Value.type "function") none (Data.func (FuncData.mk (Str.ofString "_check_new") (Str.ofString "_check_new") (defArgs (topS 20)) (.stmts (defBody (topS 20))) (defScope (topS 20)) 3 [] Value.none Value.none Value.none (Value.str (Str.ofString "sillwatch.giving.fetches") 361) none (Value.ref 244) Value.none 0)) #[]) ::
(nat_lit 253, Obj.mk (Value.type "tuple") none (Data.seq #[]) #[]) ::
(nat_lit 255, Obj.mk (Value.type "tuple") none (Data.seq #[Value.str (Str.ofString "self") 551]) #[]) ::
(nat_lit 256, Obj.mk (Value.type "tuple") none (Data.seq #[]) #[]) ::
(nat_lit 258, Obj.mk (Value.type "code") none (Data.fields #[Value.str (Str.ofString "__init__") 548, Value.str (Str.ofString "Offers.__init__") 549, Value.str (Str.ofString "/claim/cut.py") 550, Value.int 114 0, Value.int 1 0, Value.int 0 0, Value.int 0 0, Value.int 3 0, Value.ref 253, Value.bool true, Value.int 181 0, Value.ref 254, Value.none, Value.ref 255, Value.ref 256, Value.ref 257, Value.int 552 0, Value.int 114 0, Value.str (Str.ofString "/claim/cut.py") 553]) #[]) ::
(nat_lit 259, Obj.mk (Value.type "function") none (Data.func (FuncData.mk (Str.ofString "__init__") (Str.ofString "Offers.__init__") (defArgs (inClass (topS 23) 0)) (.stmts (defBody (inClass (topS 23) 0))) (defScope (inClass (topS 23) 0)) 3 [] Value.none Value.none Value.none (Value.str (Str.ofString "sillwatch.giving.offers") 532) none (Value.ref 258) Value.none 0)) #[]) ::
(nat_lit 260, Obj.mk (Value.type "tuple") none (Data.seq #[]) #[]) ::
(nat_lit 262, Obj.mk (Value.type "tuple") none (Data.seq #[Value.str (Str.ofString "self") 558, Value.str (Str.ofString "number") 559]) #[]) ::
(nat_lit 263, Obj.mk (Value.type "tuple") none (Data.seq #[]) #[]) ::
(nat_lit 265, Obj.mk (Value.type "code") none (Data.fields #[Value.str (Str.ofString "bound") 555, Value.str (Str.ofString "Offers.bound") 556, Value.str (Str.ofString "/claim/cut.py") 557, Value.int 119 0, Value.int 2 0, Value.int 0 0, Value.int 0 0, Value.int 3 0, Value.ref 260, Value.bool true, Value.int 181 0, Value.ref 261, Value.none, Value.ref 262, Value.ref 263, Value.ref 264, Value.int 560 0, Value.int 119 0, Value.str (Str.ofString "/claim/cut.py") 561]) #[]) ::
(nat_lit 266, Obj.mk (Value.type "function") none (Data.func (FuncData.mk (Str.ofString "bound") (Str.ofString "Offers.bound") (defArgs (inClass (topS 23) 1)) (.stmts (defBody (inClass (topS 23) 1))) (defScope (inClass (topS 23) 1)) 3 [] Value.none Value.none Value.none (Value.str (Str.ofString "sillwatch.giving.offers") 532) none (Value.ref 265) Value.none 0)) #[]) ::
(nat_lit 267, Obj.mk (Value.type "tuple") none (Data.seq #[]) #[]) ::
(nat_lit 269, Obj.mk (Value.type "tuple") none (Data.seq #[Value.str (Str.ofString "self") 566]) #[]) ::
(nat_lit 270, Obj.mk (Value.type "tuple") none (Data.seq #[]) #[]) ::
(nat_lit 272, Obj.mk (Value.type "code") none (Data.fields #[Value.str (Str.ofString "pane") 563, Value.str (Str.ofString "Offers.pane") 564, Value.str (Str.ofString "/claim/cut.py") 565, Value.int 122 0, Value.int 1 0, Value.int 0 0, Value.int 0 0, Value.int 3 0, Value.ref 267, Value.bool true, Value.int 181 0, Value.ref 268, Value.none, Value.ref 269, Value.ref 270, Value.ref 271, Value.int 567 0, Value.int 122 0, Value.str (Str.ofString "/claim/cut.py") 568]) #[]) ::
(nat_lit 273, Obj.mk (Value.type "function") none (Data.func (FuncData.mk (Str.ofString "pane") (Str.ofString "Offers.pane") (defArgs (inClass (topS 23) 2)) (.stmts (defBody (inClass (topS 23) 2))) (defScope (inClass (topS 23) 2)) 3 [] Value.none Value.none Value.none (Value.str (Str.ofString "sillwatch.giving.offers") 532) none (Value.ref 272) Value.none 0)) #[]) ::
(nat_lit 274, Obj.mk (Value.type "tuple") none (Data.seq #[]) #[]) ::
(nat_lit 276, Obj.mk (Value.type "tuple") none (Data.seq #[Value.str (Str.ofString "self") 573, Value.str (Str.ofString "number") 574]) #[]) ::
(nat_lit 277, Obj.mk (Value.type "tuple") none (Data.seq #[]) #[]) ::
(nat_lit 279, Obj.mk (Value.type "code") none (Data.fields #[Value.str (Str.ofString "forget") 570, Value.str (Str.ofString "Offers.forget") 571, Value.str (Str.ofString "/claim/cut.py") 572, Value.int 125 0, Value.int 2 0, Value.int 0 0, Value.int 0 0, Value.int 3 0, Value.ref 274, Value.bool true, Value.int 181 0, Value.ref 275, Value.none, Value.ref 276, Value.ref 277, Value.ref 278, Value.int 575 0, Value.int 125 0, Value.str (Str.ofString "/claim/cut.py") 576]) #[]) ::
(nat_lit 280, Obj.mk (Value.type "function") none (Data.func (FuncData.mk (Str.ofString "forget") (Str.ofString "Offers.forget") (defArgs (inClass (topS 23) 3)) (.stmts (defBody (inClass (topS 23) 3))) (defScope (inClass (topS 23) 3)) 3 [] Value.none Value.none Value.none (Value.str (Str.ofString "sillwatch.giving.offers") 532) none (Value.ref 279) Value.none 0)) #[]) ::
(nat_lit 281, Obj.mk (Value.type "tuple") none (Data.seq #[]) #[]) ::
(nat_lit 283, Obj.mk (Value.type "tuple") none (Data.seq #[Value.str (Str.ofString "self") 581, Value.str (Str.ofString "objects") 582, Value.str (Str.ofString "way") 583, Value.str (Str.ofString "goods") 584, Value.str (Str.ofString "reply") 585]) #[]) ::
(nat_lit 284, Obj.mk (Value.type "tuple") none (Data.seq #[]) #[]) ::
(nat_lit 286, Obj.mk (Value.type "code") none (Data.fields #[Value.str (Str.ofString "offered") 578, Value.str (Str.ofString "Offers.offered") 579, Value.str (Str.ofString "/claim/cut.py") 580, Value.int 131 0, Value.int 5 0, Value.int 0 0, Value.int 0 0, Value.int 3 0, Value.ref 281, Value.bool true, Value.int 181 0, Value.ref 282, Value.none, Value.ref 283, Value.ref 284, Value.ref 285, Value.int 586 0, Value.int 131 0, Value.str (Str.ofString "/claim/cut.py") 587]) #[]) ::
(nat_lit 287, Obj.mk (Value.type "function") none (Data.func (FuncData.mk (Str.ofString "offered") (Str.ofString "Offers.offered") (defArgs (inClass (topS 23) 4)) (.stmts (defBody (inClass (topS 23) 4))) (defScope (inClass (topS 23) 4)) 3 [] Value.none Value.none Value.none (Value.str (Str.ofString "sillwatch.giving.offers") 532) none (Value.ref 286) Value.none 0)) #[]) ::
(nat_lit 288, Obj.mk (Value.type "tuple") none (Data.seq #[]) #[]) ::
(nat_lit 290, Obj.mk (Value.type "tuple") none (Data.seq #[Value.str (Str.ofString "self") 592, Value.str (Str.ofString "request") 593, Value.str (Str.ofString "reply") 594, Value.str (Str.ofString "goods") 595, Value.str (Str.ofString "kind") 596, Value.str (Str.ofString "begin") 597, Value.str (Str.ofString "length") 598]) #[]) ::
(nat_lit 291, Obj.mk (Value.type "tuple") none (Data.seq #[]) #[]) ::
(nat_lit 293, Obj.mk (Value.type "code") none (Data.fields #[Value.str (Str.ofString "read") 589, Value.str (Str.ofString "Offers.read") 590, Value.str (Str.ofString "/claim/cut.py") 591, Value.int 134 0, Value.int 3 0, Value.int 0 0, Value.int 0 0, Value.int 3 0, Value.ref 288, Value.bool true, Value.int 181 0, Value.ref 289, Value.none, Value.ref 290, Value.ref 291, Value.ref 292, Value.int 599 0, Value.int 134 0, Value.str (Str.ofString "/claim/cut.py") 600]) #[]) ::
(nat_lit 294, Obj.mk (Value.type "function") none (Data.func (FuncData.mk (Str.ofString "read") (Str.ofString "Offers.read") (defArgs (inClass (topS 23) 5)) (.stmts (defBody (inClass (topS 23) 5))) (defScope (inClass (topS 23) 5)) 3 [] Value.none Value.none Value.none (Value.str (Str.ofString "sillwatch.giving.offers") 532) none (Value.ref 293) Value.none 0)) #[]) ::
(nat_lit 295, Obj.mk (Value.type "tuple") none (Data.seq #[]) #[]) ::
(nat_lit 297, Obj.mk (Value.type "tuple") none (Data.seq #[Value.str (Str.ofString "self") 605, Value.str (Str.ofString "surface") 606, Value.str (Str.ofString "x") 607, Value.str (Str.ofString "y") 608, Value.str (Str.ofString "goods") 609, Value.str (Str.ofString "reply") 610]) #[]) ::
(nat_lit 298, Obj.mk (Value.type "tuple") none (Data.seq #[]) #[]) ::
(nat_lit 300, Obj.mk (Value.type "code") none (Data.fields #[Value.str (Str.ofString "hovers") 602, Value.str (Str.ofString "Offers.hovers") 603, Value.str (Str.ofString "/claim/cut.py") 604, Value.int 145 0, Value.int 6 0, Value.int 0 0, Value.int 0 0, Value.int 3 0, Value.ref 295, Value.bool true, Value.int 181 0, Value.ref 296, Value.none, Value.ref 297, Value.ref 298, Value.ref 299, Value.int 611 0, Value.int 145 0, Value.str (Str.ofString "/claim/cut.py") 612]) #[]) ::
(nat_lit 301, Obj.mk (Value.type "function") none (Data.func (FuncData.mk (Str.ofString "hovers") (Str.ofString "Offers.hovers") (defArgs (inClass (topS 23) 6)) (.stmts (defBody (inClass (topS 23) 6))) (defScope (inClass (topS 23) 6)) 3 [] Value.none Value.none Value.none (Value.str (Str.ofString "sillwatch.giving.offers") 532) none (Value.ref 300) Value.none 0)) #[]) ::
(nat_lit 302, Obj.mk (Value.type "tuple") none (Data.seq #[]) #[]) ::
(nat_lit 304, Obj.mk (Value.type "tuple") none (Data.seq #[Value.str (Str.ofString "self") 617, Value.str (Str.ofString "time") 618, Value.str (Str.ofString "x") 619, Value.str (Str.ofString "y") 620, Value.str (Str.ofString "reply") 621]) #[]) ::
(nat_lit 305, Obj.mk (Value.type "tuple") none (Data.seq #[]) #[]) ::
(nat_lit 307, Obj.mk (Value.type "code") none (Data.fields #[Value.str (Str.ofString "moves") 614, Value.str (Str.ofString "Offers.moves") 615, Value.str (Str.ofString "/claim/cut.py") 616, Value.int 148 0, Value.int 5 0, Value.int 0 0, Value.int 0 0, Value.int 3 0, Value.ref 302, Value.bool true, Value.int 181 0, Value.ref 303, Value.none, Value.ref 304, Value.ref 305, Value.ref 306, Value.int 622 0, Value.int 148 0, Value.str (Str.ofString "/claim/cut.py") 623]) #[]) ::
(nat_lit 308, Obj.mk (Value.type "function") none (Data.func (FuncData.mk (Str.ofString "moves") (Str.ofString "Offers.moves") (defArgs (inClass (topS 23) 7)) (.stmts (defBody (inClass (topS 23) 7))) (defScope (inClass (topS 23) 7)) 3 [] Value.none Value.none Value.none (Value.str (Str.ofString "sillwatch.giving.offers") 532) none (Value.ref 307) Value.none 0)) #[]) ::
(nat_lit 309, Obj.mk (Value.type "tuple") none (Data.seq #[]) #[]) ::
(nat_lit 311, Obj.mk (Value.type "tuple") none (Data.seq #[Value.str (Str.ofString "self") 628, Value.str (Str.ofString "reply") 629]) #[]) ::
(nat_lit 312, Obj.mk (Value.type "tuple") none (Data.seq #[]) #[]) ::
(nat_lit 314, Obj.mk (Value.type "code") none (Data.fields #[Value.str (Str.ofString "leaves") 625, Value.str (Str.ofString "Offers.leaves") 626, Value.str (Str.ofString "/claim/cut.py") 627, Value.int 151 0, Value.int 2 0, Value.int 0 0, Value.int 0 0, Value.int 3 0, Value.ref 309, Value.bool true, Value.int 181 0, Value.ref 310, Value.none, Value.ref 311, Value.ref 312, Value.ref 313, Value.int 630 0, Value.int 151 0, Value.str (Str.ofString "/claim/cut.py") 631]) #[]) ::
(nat_lit 315, Obj.mk (Value.type "function") none (Data.func (FuncData.mk (Str.ofString "leaves") (Str.ofString "Offers.leaves") (defArgs (inClass (topS 23) 8)) (.stmts (defBody (inClass (topS 23) 8))) (defScope (inClass (topS 23) 8)) 3 [] Value.none Value.none Value.none (Value.str (Str.ofString "sillwatch.giving.offers") 532) none (Value.ref 314) Value.none 0)) #[]) ::
(nat_lit 316, Obj.mk (Value.type "tuple") none (Data.seq #[]) #[]) ::
(nat_lit 318, Obj.mk (Value.type "tuple") none (Data.seq #[Value.str (Str.ofString "self") 636]) #[]) ::
(nat_lit 319, Obj.mk (Value.type "tuple") none (Data.seq #[]) #[]) ::
(nat_lit 321, Obj.mk (Value.type "code") none (Data.fields #[Value.str (Str.ofString "dropped") 633, Value.str (Str.ofString "Offers.dropped") 634, Value.str (Str.ofString "/claim/cut.py") 635, Value.int 154 0, Value.int 1 0, Value.int 0 0, Value.int 0 0, Value.int 3 0, Value.ref 316, Value.bool true, Value.int 181 0, Value.ref 317, Value.none, Value.ref 318, Value.ref 319, Value.ref 320, Value.int 637 0, Value.int 154 0, Value.str (Str.ofString "/claim/cut.py") 638]) #[]) ::
(nat_lit 322, Obj.mk (Value.type "function") none (Data.func (FuncData.mk (Str.ofString "dropped") (Str.ofString "Offers.dropped") (defArgs (inClass (topS 23) 9)) (.stmts (defBody (inClass (topS 23) 9))) (defScope (inClass (topS 23) 9)) 3 [] Value.none Value.none Value.none (Value.str (Str.ofString "sillwatch.giving.offers") 532) none (Value.ref 321) Value.none 0)) #[]) ::
(nat_lit 323, Obj.mk (Value.type "tuple") none (Data.seq #[Value.str (Str.ofString "_is_hovered") 640, Value.str (Str.ofString "_kept") 641, Value.str (Str.ofString "_transfers") 642]) #[]) ::
(nat_lit 324, Obj.mk (Value.type "dict") none (Data.dict #[DictEntry.mk (PyData.keyHash PP (Str.ofString "__module__")) (Value.str (Str.ofString "__module__") 543) (Value.str (Str.ofString "sillwatch.giving.offers") 532), DictEntry.mk (PyData.keyHash PP (Str.ofString "__firstlineno__")) (Value.str (Str.ofString "__firstlineno__") 547) (Value.int 112 546), DictEntry.mk (PyData.keyHash PP (Str.ofString "__init__")) (Value.str (Str.ofString "__init__") 554) (Value.ref 259), DictEntry.mk (PyData.keyHash PP (Str.ofString "bound")) (Value.str (Str.ofString "bound") 562) (Value.ref 266), DictEntry.mk (PyData.keyHash PP (Str.ofString "pane")) (Value.str (Str.ofString "pane") 569) (Value.ref 273), DictEntry.mk (PyData.keyHash PP (Str.ofString "forget")) (Value.str (Str.ofString "forget") 577) (Value.ref 280), DictEntry.mk (PyData.keyHash PP (Str.ofString "offered")) (Value.str (Str.ofString "offered") 588) (Value.ref 287), DictEntry.mk (PyData.keyHash PP (Str.ofString "read")) (Value.str (Str.ofString "read") 601) (Value.ref 294), DictEntry.mk (PyData.keyHash PP (Str.ofString "hovers")) (Value.str (Str.ofString "hovers") 613) (Value.ref 301), DictEntry.mk (PyData.keyHash PP (Str.ofString "moves")) (Value.str (Str.ofString "moves") 624) (Value.ref 308), DictEntry.mk (PyData.keyHash PP (Str.ofString "leaves")) (Value.str (Str.ofString "leaves") 632) (Value.ref 315), DictEntry.mk (PyData.keyHash PP (Str.ofString "dropped")) (Value.str (Str.ofString "dropped") 639) (Value.ref 322), DictEntry.mk (PyData.keyHash PP (Str.ofString "__static_attributes__")) (Value.str (Str.ofString "__static_attributes__") 643) (Value.ref 323), DictEntry.mk (PyData.keyHash PP (Str.ofString "__dict__")) (Value.str (Str.ofString "__dict__") 645) (Value.ref 326), DictEntry.mk (PyData.keyHash PP (Str.ofString "__weakref__")) (Value.str (Str.ofString "__weakref__") 647) (Value.ref 327), DictEntry.mk (PyData.keyHash PP (Str.ofString "__doc__")) (Value.str (Str.ofString "__doc__") 648) Value.none] 4) #[]) ::
(nat_lit 325, Obj.mk (Value.type "type") none (Data.cls (ClassData.mk (Str.ofString "Offers") [Value.type "object"] [Value.ref 325, Value.type "object"] 324 (Str.ofString "Offers") true [] [] false none false)) #[none, none, some (Value.str (Str.ofString "Offers") 536), some (Value.str (Str.ofString "Offers") 544), some (Value.builtin "object.__new__"), some (Value.bool true)]) ::
(nat_lit 326, Obj.mk (Value.type "getset_descriptor") none (Data.fields #[Value.str (Str.ofString "__dict__") 644, Value.ref 325, Value.builtin "function.__dict__", Value.builtin "function.__dict__#set"]) #[]) ::
(nat_lit 327, Obj.mk (Value.type "getset_descriptor") none (Data.fields #[Value.str (Str.ofString "__weakref__") 646, Value.ref 325, Value.builtin "ExceptionGroup.__weakref__", Value.none]) #[]) ::
(nat_lit 337, Obj.mk (Value.type "tuple") none (Data.seq #[]) #[]) ::
(nat_lit 339, Obj.mk (Value.type "tuple") none (Data.seq #[Value.str (Str.ofString "self") 676]) #[]) ::
(nat_lit 340, Obj.mk (Value.type "tuple") none (Data.seq #[]) #[]) ::
(nat_lit 342, Obj.mk (Value.type "code") none (Data.fields #[Value.str (Str.ofString "__init__") 673, Value.str (Str.ofString "Source.__init__") 674, Value.str (Str.ofString "/claim/cut.py") 675, Value.int 163 0, Value.int 1 0, Value.int 0 0, Value.int 0 0, Value.int 3 0, Value.ref 337, Value.bool true, Value.int 181 0, Value.ref 338, Value.none, Value.ref 339, Value.ref 340, Value.ref 341, Value.int 677 0, Value.int 163 0, Value.str (Str.ofString "/claim/cut.py") 678]) #[]) ::
(nat_lit 343, Obj.mk (Value.type "function") none (Data.func (FuncData.mk (Str.ofString "__init__") (Str.ofString "Source.__init__") (defArgs (inClass (topS 29) 0)) (.stmts (defBody (inClass (topS 29) 0))) (defScope (inClass (topS 29) 0)) 3 [] Value.none Value.none Value.none (Value.str (Str.ofString "sillwatch.giving.sources") 651) none (Value.ref 342) Value.none 0)) #[]) ::
(nat_lit 344, Obj.mk (Value.type "tuple") none (Data.seq #[Value.str (Str.ofString "is_used") 680, Value.str (Str.ofString "pieces") 681]) #[]) ::
(nat_lit 345, Obj.mk (Value.type "dict") none (Data.dict #[DictEntry.mk (PyData.keyHash PP (Str.ofString "__module__")) (Value.str (Str.ofString "__module__") 668) (Value.str (Str.ofString "sillwatch.giving.sources") 651), DictEntry.mk (PyData.keyHash PP (Str.ofString "__firstlineno__")) (Value.str (Str.ofString "__firstlineno__") 672) (Value.int 161 671), DictEntry.mk (PyData.keyHash PP (Str.ofString "__init__")) (Value.str (Str.ofString "__init__") 679) (Value.ref 343), DictEntry.mk (PyData.keyHash PP (Str.ofString "__static_attributes__")) (Value.str (Str.ofString "__static_attributes__") 682) (Value.ref 344), DictEntry.mk (PyData.keyHash PP (Str.ofString "__dict__")) (Value.str (Str.ofString "__dict__") 684) (Value.ref 347), DictEntry.mk (PyData.keyHash PP (Str.ofString "__weakref__")) (Value.str (Str.ofString "__weakref__") 686) (Value.ref 348), DictEntry.mk (PyData.keyHash PP (Str.ofString "__doc__")) (Value.str (Str.ofString "__doc__") 687) Value.none] 4) #[]) ::
(nat_lit 346, Obj.mk (Value.type "type") none (Data.cls (ClassData.mk (Str.ofString "Source") [Value.type "object"] [Value.ref 346, Value.type "object"] 345 (Str.ofString "Source") true [] [] false none false)) #[none, none, some (Value.str (Str.ofString "Source") 661), some (Value.str (Str.ofString "Source") 669), some (Value.builtin "object.__new__"), some (Value.bool true)]) ::
(nat_lit 347, Obj.mk (Value.type "getset_descriptor") none (Data.fields #[Value.str (Str.ofString "__dict__") 683, Value.ref 346, Value.builtin "function.__dict__", Value.builtin "function.__dict__#set"]) #[]) ::
(nat_lit 348, Obj.mk (Value.type "getset_descriptor") none (Data.fields #[Value.str (Str.ofString "__weakref__") 685, Value.ref 346, Value.builtin "ExceptionGroup.__weakref__", Value.none]) #[]) ::
(nat_lit 358, Obj.mk (Value.type "tuple") none (Data.seq #[]) #[]) ::
(nat_lit 360, Obj.mk (Value.type "tuple") none (Data.seq #[Value.str (Str.ofString "self") 705]) #[]) ::
(nat_lit 361, Obj.mk (Value.type "tuple") none (Data.seq #[]) #[]) ::
(nat_lit 363, Obj.mk (Value.type "code") none (Data.fields #[Value.str (Str.ofString "__init__") 702, Value.str (Str.ofString "Sources.__init__") 703, Value.str (Str.ofString "/claim/cut.py") 704, Value.int 168 0, Value.int 1 0, Value.int 0 0, Value.int 0 0, Value.int 3 0, Value.ref 358, Value.bool true, Value.int 181 0, Value.ref 359, Value.none, Value.ref 360, Value.ref 361, Value.ref 362, Value.int 706 0, Value.int 168 0, Value.str (Str.ofString "/claim/cut.py") 707]) #[]) ::
(nat_lit 364, Obj.mk (Value.type "function") none (Data.func (FuncData.mk (Str.ofString "__init__") (Str.ofString "Sources.__init__") (defArgs (inClass (topS 30) 0)) (.stmts (defBody (inClass (topS 30) 0))) (defScope (inClass (topS 30) 0)) 3 [] Value.none Value.none Value.none (Value.str (Str.ofString "sillwatch.giving.sources") 651) none (Value.ref 363) Value.none 0)) #[]) ::
(nat_lit 365, Obj.mk (Value.type "tuple") none (Data.seq #[]) #[]) ::
(nat_lit 367, Obj.mk (Value.type "tuple") none (Data.seq #[Value.str (Str.ofString "self") 712, Value.str (Str.ofString "request") 713]) #[]) ::
(nat_lit 368, Obj.mk (Value.type "tuple") none (Data.seq #[]) #[]) ::
(nat_lit 370, Obj.mk (Value.type "code") none (Data.fields #[Value.str (Str.ofString "make") 709, Value.str (Str.ofString "Sources.make") 710, Value.str (Str.ofString "/claim/cut.py") 711, Value.int 171 0, Value.int 2 0, Value.int 0 0, Value.int 0 0, Value.int 3 0, Value.ref 365, Value.bool true, Value.int 181 0, Value.ref 366, Value.none, Value.ref 367, Value.ref 368, Value.ref 369, Value.int 714 0, Value.int 171 0, Value.str (Str.ofString "/claim/cut.py") 715]) #[]) ::
(nat_lit 371, Obj.mk (Value.type "function") none (Data.func (FuncData.mk (Str.ofString "make") (Str.ofString "Sources.make") (defArgs (inClass (topS 30) 1)) (.stmts (defBody (inClass (topS 30) 1))) (defScope (inClass (topS 30) 1)) 3 [] Value.none Value.none Value.none (Value.str (Str.ofString "sillwatch.giving.sources") 651) none (Value.ref 370) Value.none 0)) #[]) ::
(nat_lit 372, Obj.mk (Value.type "tuple") none (Data.seq #[]) #[]) ::
(nat_lit 375, Obj.mk (Value.type "code") none (Data.fields #[Value.str (Str.ofString "write") 717, Value.str (Str.ofString "Sources.write") 718, Value.str (Str.ofString "/claim/cut.py") 719, Value.int 176 0, Value.int 2 0, Value.int 0 0, Value.int 0 0, Value.int 3 0, Value.ref 372, Value.bool true, Value.int 181 0, Value.ref 373, Value.none, Value.none, Value.none, Value.ref 374, Value.int 720 0, Value.int 176 0, Value.str (Str.ofString "/claim/cut.py") 721]) #[]) ::
(nat_lit 376, Obj.mk (Value.type "function") none (Data.func (FuncData.mk (Str.ofString "write") (Str.ofString "Sources.write") (defArgs (inClass (topS 30) 2)) (.stmts (defBody (inClass (topS 30) 2))) (defScope (inClass (topS 30) 2)) 3 [] Value.none Value.none Value.none (Value.str (Str.ofString "sillwatch.giving.sources") 651) none (Value.ref 375) Value.none 0)) #[]) ::
(nat_lit 377, Obj.mk (Value.type "tuple") none (Data.seq #[]) #[]) ::
(nat_lit 379, Obj.mk (Value.type "tuple") none (Data.seq #[Value.str (Str.ofString "self") 726, Value.str (Str.ofString "number") 727]) #[]) ::
(nat_lit 380, Obj.mk (Value.type "tuple") none (Data.seq #[]) #[]) ::
(nat_lit 382, Obj.mk (Value.type "code") none (Data.fields #[Value.str (Str.ofString "is_used") 723, Value.str (Str.ofString "Sources.is_used") 724, Value.str (Str.ofString "/claim/cut.py") 725, Value.int 190 0, Value.int 2 0, Value.int 0 0, Value.int 0 0, Value.int 3 0, Value.ref 377, Value.bool true, Value.int 181 0, Value.ref 378, Value.none, Value.ref 379, Value.ref 380, Value.ref 381, Value.int 728 0, Value.int 190 0, Value.str (Str.ofString "/claim/cut.py") 729]) #[]) ::
(nat_lit 383, Obj.mk (Value.type "function") none (Data.func (FuncData.mk (Str.ofString "is_used") (Str.ofString "Sources.is_used") (defArgs (inClass (topS 30) 3)) (.stmts (defBody (inClass (topS 30) 3))) (defScope (inClass (topS 30) 3)) 3 [] Value.none Value.none Value.none (Value.str (Str.ofString "sillwatch.giving.sources") 651) none (Value.ref 382) Value.none 0)) #[]) ::
(nat_lit 384, Obj.mk (Value.type "tuple") none (Data.seq #[]) #[]) ::
(nat_lit 387, Obj.mk (Value.type "code") none (Data.fields #[Value.str (Str.ofString "use_up") 731, Value.str (Str.ofString "Sources.use_up") 732, Value.str (Str.ofString "/claim/cut.py") 733, Value.int 193 0, Value.int 2 0, Value.int 0 0, Value.int 0 0, Value.int 3 0, Value.ref 384, Value.bool true, Value.int 181 0, Value.ref 385, Value.none, Value.none, Value.none, Value.ref 386, Value.int 734 0, Value.int 193 0, Value.str (Str.ofString "/claim/cut.py") 735]) #[]) ::
(nat_lit 388, Obj.mk (Value.type "function") none (Data.func (FuncData.mk (Str.ofString "use_up") (Str.ofString "Sources.use_up") (defArgs (inClass (topS 30) 4)) (.stmts (defBody (inClass (topS 30) 4))) (defScope (inClass (topS 30) 4)) 3 [] Value.none Value.none Value.none (Value.str (Str.ofString "sillwatch.giving.sources") 651) none (Value.ref 387) Value.none 0)) #[]) ::
(nat_lit 389, Obj.mk (Value.type "tuple") none (Data.seq #[]) #[]) ::
(nat_lit 391, Obj.mk (Value.type "tuple") none (Data.seq #[Value.str (Str.ofString "self") 740, Value.str (Str.ofString "number") 741]) #[]) ::
(nat_lit 392, Obj.mk (Value.type "tuple") none (Data.seq #[]) #[]) ::
(nat_lit 394, Obj.mk (Value.type "code") none (Data.fields #[Value.str (Str.ofString "forget") 737, Value.str (Str.ofString "Sources.forget") 738, Value.str (Str.ofString "/claim/cut.py") 739, Value.int 198 0, Value.int 2 0, Value.int 0 0, Value.int 0 0, Value.int 3 0, Value.ref 389, Value.bool true, Value.int 181 0, Value.ref 390, Value.none, Value.ref 391, Value.ref 392, Value.ref 393, Value.int 742 0, Value.int 198 0, Value.str (Str.ofString "/claim/cut.py") 743]) #[]) ::
(nat_lit 395, Obj.mk (Value.type "function") none (Data.func (FuncData.mk (Str.ofString "forget") (Str.ofString "Sources.forget") (defArgs (inClass (topS 30) 5)) (.stmts (defBody (inClass (topS 30) 5))) (defScope (inClass (topS 30) 5)) 3 [] Value.none Value.none Value.none (Value.str (Str.ofString "sillwatch.giving.sources") 651) none (Value.ref 394) Value.none 0)) #[]) ::
(nat_lit 396, Obj.mk (Value.type "tuple") none (Data.seq #[]) #[]) ::
(nat_lit 399, Obj.mk (Value.type "code") none (Data.fields #[Value.str (Str.ofString "_fresh") 745, Value.str (Str.ofString "Sources._fresh") 746, Value.str (Str.ofString "/claim/cut.py") 747, Value.int 202 0, Value.int 1 0, Value.int 0 0, Value.int 0 0, Value.int 3 0, Value.ref 396, Value.bool true, Value.int 181 0, Value.ref 397, Value.none, Value.none, Value.none, Value.ref 398, Value.int 748 0, Value.int 202 0, Value.str (Str.ofString "/claim/cut.py") 749]) #[]) ::
(nat_lit 400, Obj.mk (Value.type "function") none (Data.func (FuncData.mk (Str.ofString "_fresh") (Str.ofString "Sources._fresh") (defArgs (inClass (topS 30) 6)) (.stmts (defBody (inClass (topS 30) 6))) (defScope (inClass (topS 30) 6)) 3 [] Value.none Value.none Value.none (Value.str (Str.ofString "sillwatch.giving.sources") 651) none (Value.ref 399) Value.none 0)) #[]) ::
(nat_lit 401, Obj.mk (Value.type "tuple") none (Data.seq #[Value.str (Str.ofString "_sources") 751]) #[]) ::
(nat_lit 402, Obj.mk (Value.type "dict") none (Data.dict #[DictEntry.mk (PyData.keyHash PP (Str.ofString "__module__")) (Value.str (Str.ofString "__module__") 697) (Value.str (Str.ofString "sillwatch.giving.sources") 651), DictEntry.mk (PyData.keyHash PP (Str.ofString "__firstlineno__")) (Value.str (Str.ofString "__firstlineno__") 701) (Value.int 166 700), DictEntry.mk (PyData.keyHash PP (Str.ofString "__init__")) (Value.str (Str.ofString "__init__") 708) (Value.ref 364), DictEntry.mk (PyData.keyHash PP (Str.ofString "make")) (Value.str (Str.ofString "make") 716) (Value.ref 371), DictEntry.mk (PyData.keyHash PP (Str.ofString "write")) (Value.str (Str.ofString "write") 722) (Value.ref 376), DictEntry.mk (PyData.keyHash PP (Str.ofString "is_used")) (Value.str (Str.ofString "is_used") 730) (Value.ref 383), DictEntry.mk (PyData.keyHash PP (Str.ofString "use_up")) (Value.str (Str.ofString "use_up") 736) (Value.ref 388), DictEntry.mk (PyData.keyHash PP (Str.ofString "forget")) (Value.str (Str.ofString "forget") 744) (Value.ref 395), DictEntry.mk (PyData.keyHash PP (Str.ofString "_fresh")) (Value.str (Str.ofString "_fresh") 750) (Value.ref 400), DictEntry.mk (PyData.keyHash PP (Str.ofString "__static_attributes__")) (Value.str (Str.ofString "__static_attributes__") 752) (Value.ref 401), DictEntry.mk (PyData.keyHash PP (Str.ofString "__dict__")) (Value.str (Str.ofString "__dict__") 754) (Value.ref 404), DictEntry.mk (PyData.keyHash PP (Str.ofString "__weakref__")) (Value.str (Str.ofString "__weakref__") 756) (Value.ref 405), DictEntry.mk (PyData.keyHash PP (Str.ofString "__doc__")) (Value.str (Str.ofString "__doc__") 757) Value.none] 4) #[]) ::
(nat_lit 403, Obj.mk (Value.type "type") none (Data.cls (ClassData.mk (Str.ofString "Sources") [Value.type "object"] [Value.ref 403, Value.type "object"] 402 (Str.ofString "Sources") true [] [] false none false)) #[none, none, some (Value.str (Str.ofString "Sources") 690), some (Value.str (Str.ofString "Sources") 698), some (Value.builtin "object.__new__"), some (Value.bool true)]) ::
(nat_lit 404, Obj.mk (Value.type "getset_descriptor") none (Data.fields #[Value.str (Str.ofString "__dict__") 753, Value.ref 403, Value.builtin "function.__dict__", Value.builtin "function.__dict__#set"]) #[]) ::
(nat_lit 405, Obj.mk (Value.type "getset_descriptor") none (Data.fields #[Value.str (Str.ofString "__weakref__") 755, Value.ref 403, Value.builtin "ExceptionGroup.__weakref__", Value.none]) #[]) ::
(nat_lit 415, Obj.mk (Value.type "tuple") none (Data.seq #[]) #[]) ::
(nat_lit 417, Obj.mk (Value.type "tuple") none (Data.seq #[Value.str (Str.ofString "self") 781]) #[]) ::
(nat_lit 418, Obj.mk (Value.type "tuple") none (Data.seq #[]) #[]) ::
(nat_lit 420, Obj.mk (Value.type "code") none (Data.fields #[Value.str (Str.ofString "__init__") 778, Value.str (Str.ofString "Holdings.__init__") 779, Value.str (Str.ofString "/claim/cut.py") 780, Value.int 209 0, Value.int 1 0, Value.int 0 0, Value.int 0 0, Value.int 3 0, Value.ref 415, Value.bool true, Value.int 181 0, Value.ref 416, Value.none, Value.ref 417, Value.ref 418, Value.ref 419, Value.int 782 0, Value.int 209 0, Value.str (Str.ofString "/claim/cut.py") 783]) #[]) ::
(nat_lit 421, Obj.mk (Value.type "function") none (Data.func (FuncData.mk (Str.ofString "__init__") (Str.ofString "Holdings.__init__") (defArgs (inClass (topS 34) 0)) (.stmts (defBody (inClass (topS 34) 0))) (defScope (inClass (topS 34) 0)) 3 [] Value.none Value.none Value.none (Value.str (Str.ofString "sillwatch.giving.holdings") 760) none (Value.ref 420) Value.none 0)) #[]) ::
(nat_lit 422, Obj.mk (Value.type "tuple") none (Data.seq #[]) #[]) ::
(nat_lit 424, Obj.mk (Value.type "tuple") none (Data.seq #[Value.str (Str.ofString "self") 788, Value.str (Str.ofString "request") 789, Value.str (Str.ofString "grant") 790, Value.str (Str.ofString "gripped") 791, Value.str (Str.ofString "dragging") 792, Value.str (Str.ofString "reply") 793]) #[]) ::
(nat_lit 425, Obj.mk (Value.type "tuple") none (Data.seq #[]) #[]) ::
(nat_lit 427, Obj.mk (Value.type "code") none (Data.fields #[Value.str (Str.ofString "serve") 785, Value.str (Str.ofString "Holdings.serve") 786, Value.str (Str.ofString "/claim/cut.py") 787, Value.int 216 0, Value.int 6 0, Value.int 0 0, Value.int 0 0, Value.int 3 0, Value.ref 422, Value.bool true, Value.int 181 0, Value.ref 423, Value.none, Value.ref 424, Value.ref 425, Value.ref 426, Value.int 794 0, Value.int 216 0, Value.str (Str.ofString "/claim/cut.py") 795]) #[]) ::
(nat_lit 428, Obj.mk (Value.type "function") none (Data.func (FuncData.mk (Str.ofString "serve") (Str.ofString "Holdings.serve") (defArgs (inClass (topS 34) 1)) (.stmts (defBody (inClass (topS 34) 1))) (defScope (inClass (topS 34) 1)) 3 [] Value.none Value.none Value.none (Value.str (Str.ofString "sillwatch.giving.holdings") 760) none (Value.ref 427) Value.none 0)) #[]) ::
(nat_lit 429, Obj.mk (Value.type "tuple") none (Data.seq #[]) #[]) ::
(nat_lit 431, Obj.mk (Value.type "tuple") none (Data.seq #[Value.str (Str.ofString "self") 800, Value.str (Str.ofString "number") 801]) #[]) ::
(nat_lit 432, Obj.mk (Value.type "tuple") none (Data.seq #[]) #[]) ::
(nat_lit 434, Obj.mk (Value.type "code") none (Data.fields #[Value.str (Str.ofString "bound") 797, Value.str (Str.ofString "Holdings.bound") 798, Value.str (Str.ofString "/claim/cut.py") 799, Value.int 230 0, Value.int 2 0, Value.int 0 0, Value.int 0 0, Value.int 3 0, Value.ref 429, Value.bool true, Value.int 181 0, Value.ref 430, Value.none, Value.ref 431, Value.ref 432, Value.ref 433, Value.int 802 0, Value.int 230 0, Value.str (Str.ofString "/claim/cut.py") 803]) #[]) ::
(nat_lit 435, Obj.mk (Value.type "function") none (Data.func (FuncData.mk (Str.ofString "bound") (Str.ofString "Holdings.bound") (defArgs (inClass (topS 34) 2)) (.stmts (defBody (inClass (topS 34) 2))) (defScope (inClass (topS 34) 2)) 3 [] Value.none Value.none Value.none (Value.str (Str.ofString "sillwatch.giving.holdings") 760) none (Value.ref 434) Value.none 0)) #[]) ::
(nat_lit 436, Obj.mk (Value.type "tuple") none (Data.seq #[]) #[]) ::
(nat_lit 438, Obj.mk (Value.type "tuple") none (Data.seq #[Value.str (Str.ofString "self") 808, Value.str (Str.ofString "number") 809]) #[]) ::
(nat_lit 439, Obj.mk (Value.type "tuple") none (Data.seq #[]) #[]) ::
(nat_lit 441, Obj.mk (Value.type "code") none (Data.fields #[Value.str (Str.ofString "ended") 805, Value.str (Str.ofString "Holdings.ended") 806, Value.str (Str.ofString "/claim/cut.py") 807, Value.int 233 0, Value.int 2 0, Value.int 0 0, Value.int 0 0, Value.int 3 0, Value.ref 436, Value.bool true, Value.int 181 0, Value.ref 437, Value.none, Value.ref 438, Value.ref 439, Value.ref 440, Value.int 810 0, Value.int 233 0, Value.str (Str.ofString "/claim/cut.py") 811]) #[]) ::
(nat_lit 442, Obj.mk (Value.type "function") none (Data.func (FuncData.mk (Str.ofString "ended") (Str.ofString "Holdings.ended") (defArgs (inClass (topS 34) 3)) (.stmts (defBody (inClass (topS 34) 3))) (defScope (inClass (topS 34) 3)) 3 [] Value.none Value.none Value.none (Value.str (Str.ofString "sillwatch.giving.holdings") 760) none (Value.ref 441) Value.none 0)) #[]) ::
(nat_lit 443, Obj.mk (Value.type "tuple") none (Data.seq #[]) #[]) ::
(nat_lit 445, Obj.mk (Value.type "tuple") none (Data.seq #[Value.str (Str.ofString "self") 816]) #[]) ::
(nat_lit 446, Obj.mk (Value.type "tuple") none (Data.seq #[]) #[]) ::
(nat_lit 448, Obj.mk (Value.type "code") none (Data.fields #[Value.str (Str.ofString "pane") 813, Value.str (Str.ofString "Holdings.pane") 814, Value.str (Str.ofString "/claim/cut.py") 815, Value.int 239 0, Value.int 1 0, Value.int 0 0, Value.int 0 0, Value.int 3 0, Value.ref 443, Value.bool true, Value.int 181 0, Value.ref 444, Value.none, Value.ref 445, Value.ref 446, Value.ref 447, Value.int 817 0, Value.int 239 0, Value.str (Str.ofString "/claim/cut.py") 818]) #[]) ::
(nat_lit 449, Obj.mk (Value.type "function") none (Data.func (FuncData.mk (Str.ofString "pane") (Str.ofString "Holdings.pane") (defArgs (inClass (topS 34) 4)) (.stmts (defBody (inClass (topS 34) 4))) (defScope (inClass (topS 34) 4)) 3 [] Value.none Value.none Value.none (Value.str (Str.ofString "sillwatch.giving.holdings") 760) none (Value.ref 448) Value.none 0)) #[]) ::
(nat_lit 450, Obj.mk (Value.type "tuple") none (Data.seq #[]) #[]) ::
(nat_lit 452, Obj.mk (Value.type "tuple") none (Data.seq #[Value.str (Str.ofString "self") 823, Value.str (Str.ofString "objects") 824, Value.str (Str.ofString "way") 825, Value.str (Str.ofString "goods") 826, Value.str (Str.ofString "reply") 827]) #[]) ::
(nat_lit 453, Obj.mk (Value.type "tuple") none (Data.seq #[]) #[]) ::
(nat_lit 455, Obj.mk (Value.type "code") none (Data.fields #[Value.str (Str.ofString "offered") 820, Value.str (Str.ofString "Holdings.offered") 821, Value.str (Str.ofString "/claim/cut.py") 822, Value.int 242 0, Value.int 5 0, Value.int 0 0, Value.int 0 0, Value.int 3 0, Value.ref 450, Value.bool true, Value.int 181 0, Value.ref 451, Value.none, Value.ref 452, Value.ref 453, Value.ref 454, Value.int 828 0, Value.int 242 0, Value.str (Str.ofString "/claim/cut.py") 829]) #[]) ::
(nat_lit 456, Obj.mk (Value.type "function") none (Data.func (FuncData.mk (Str.ofString "offered") (Str.ofString "Holdings.offered") (defArgs (inClass (topS 34) 5)) (.stmts (defBody (inClass (topS 34) 5))) (defScope (inClass (topS 34) 5)) 3 [] Value.none Value.none Value.none (Value.str (Str.ofString "sillwatch.giving.holdings") 760) none (Value.ref 455) Value.none 0)) #[]) ::
(nat_lit 457, Obj.mk (Value.type "tuple") none (Data.seq #[]) #[]) ::
(nat_lit 459, Obj.mk (Value.type "tuple") none (Data.seq #[Value.str (Str.ofString "self") 834, Value.str (Str.ofString "surface") 835, Value.str (Str.ofString "x") 836, Value.str (Str.ofString "y") 837, Value.str (Str.ofString "goods") 838, Value.str (Str.ofString "reply") 839]) #[]) ::
(nat_lit 460, Obj.mk (Value.type "tuple") none (Data.seq #[]) #[]) ::
(nat_lit 462, Obj.mk (Value.type "code") none (Data.fields #[Value.str (Str.ofString "hovers") 831, Value.str (Str.ofString "Holdings.hovers") 832, Value.str (Str.ofString "/claim/cut.py") 833, Value.int 245 0, Value.int 6 0, Value.int 0 0, Value.int 0 0, Value.int 3 0, Value.ref 457, Value.bool true, Value.int 181 0, Value.ref 458, Value.none, Value.ref 459, Value.ref 460, Value.ref 461, Value.int 840 0, Value.int 245 0, Value.str (Str.ofString "/claim/cut.py") 841]) #[]) ::
(nat_lit 463, Obj.mk (Value.type "function") none (Data.func (FuncData.mk (Str.ofString "hovers") (Str.ofString "Holdings.hovers") (defArgs (inClass (topS 34) 6)) (.stmts (defBody (inClass (topS 34) 6))) (defScope (inClass (topS 34) 6)) 3 [] Value.none Value.none Value.none (Value.str (Str.ofString "sillwatch.giving.holdings") 760) none (Value.ref 462) Value.none 0)) #[]) ::
(nat_lit 464, Obj.mk (Value.type "tuple") none (Data.seq #[]) #[]) ::
(nat_lit 466, Obj.mk (Value.type "tuple") none (Data.seq #[Value.str (Str.ofString "self") 846, Value.str (Str.ofString "time") 847, Value.str (Str.ofString "x") 848, Value.str (Str.ofString "y") 849, Value.str (Str.ofString "reply") 850]) #[]) ::
(nat_lit 467, Obj.mk (Value.type "tuple") none (Data.seq #[]) #[]) ::
(nat_lit 469, Obj.mk (Value.type "code") none (Data.fields #[Value.str (Str.ofString "moves") 843, Value.str (Str.ofString "Holdings.moves") 844, Value.str (Str.ofString "/claim/cut.py") 845, Value.int 248 0, Value.int 5 0, Value.int 0 0, Value.int 0 0, Value.int 3 0, Value.ref 464, Value.bool true, Value.int 181 0, Value.ref 465, Value.none, Value.ref 466, Value.ref 467, Value.ref 468, Value.int 851 0, Value.int 248 0, Value.str (Str.ofString "/claim/cut.py") 852]) #[]) ::
(nat_lit 470, Obj.mk (Value.type "function") none (Data.func (FuncData.mk (Str.ofString "moves") (Str.ofString "Holdings.moves") (defArgs (inClass (topS 34) 7)) (.stmts (defBody (inClass (topS 34) 7))) (defScope (inClass (topS 34) 7)) 3 [] Value.none Value.none Value.none (Value.str (Str.ofString "sillwatch.giving.holdings") 760) none (Value.ref 469) Value.none 0)) #[]) ::
(nat_lit 471, Obj.mk (Value.type "tuple") none (Data.seq #[]) #[]) ::
(nat_lit 473, Obj.mk (Value.type "tuple") none (Data.seq #[Value.str (Str.ofString "self") 857, Value.str (Str.ofString "reply") 858]) #[]) ::
(nat_lit 474, Obj.mk (Value.type "tuple") none (Data.seq #[]) #[]) ::
(nat_lit 476, Obj.mk (Value.type "code") none (Data.fields #[Value.str (Str.ofString "leaves") 854, Value.str (Str.ofString "Holdings.leaves") 855, Value.str (Str.ofString "/claim/cut.py") 856, Value.int 251 0, Value.int 2 0, Value.int 0 0, Value.int 0 0, Value.int 3 0, Value.ref 471, Value.bool true, Value.int 181 0, Value.ref 472, Value.none, Value.ref 473, Value.ref 474, Value.ref 475, Value.int 859 0, Value.int 251 0, Value.str (Str.ofString "/claim/cut.py") 860]) #[]) ::
(nat_lit 477, Obj.mk (Value.type "function") none (Data.func (FuncData.mk (Str.ofString "leaves") (Str.ofString "Holdings.leaves") (defArgs (inClass (topS 34) 8)) (.stmts (defBody (inClass (topS 34) 8))) (defScope (inClass (topS 34) 8)) 3 [] Value.none Value.none Value.none (Value.str (Str.ofString "sillwatch.giving.holdings") 760) none (Value.ref 476) Value.none 0)) #[]) ::
(nat_lit 478, Obj.mk (Value.type "tuple") none (Data.seq #[]) #[]) ::
(nat_lit 480, Obj.mk (Value.type "tuple") none (Data.seq #[Value.str (Str.ofString "self") 865]) #[]) ::
(nat_lit 481, Obj.mk (Value.type "tuple") none (Data.seq #[]) #[]) ::
(nat_lit 483, Obj.mk (Value.type "code") none (Data.fields #[Value.str (Str.ofString "dropped") 862, Value.str (Str.ofString "Holdings.dropped") 863, Value.str (Str.ofString "/claim/cut.py") 864, Value.int 254 0, Value.int 1 0, Value.int 0 0, Value.int 0 0, Value.int 3 0, Value.ref 478, Value.bool true, Value.int 181 0, Value.ref 479, Value.none, Value.ref 480, Value.ref 481, Value.ref 482, Value.int 866 0, Value.int 254 0, Value.str (Str.ofString "/claim/cut.py") 867]) #[]) ::
(nat_lit 484, Obj.mk (Value.type "function") none (Data.func (FuncData.mk (Str.ofString "dropped") (Str.ofString "Holdings.dropped") (defArgs (inClass (topS 34) 9)) (.stmts (defBody (inClass (topS 34) 9))) (defScope (inClass (topS 34) 9)) 3 [] Value.none Value.none Value.none (Value.str (Str.ofString "sillwatch.giving.holdings") 760) none (Value.ref 483) Value.none 0)) #[]) ::
(nat_lit 485, Obj.mk (Value.type "tuple") none (Data.seq #[]) #[]) ::
(nat_lit 487, Obj.mk (Value.type "tuple") none (Data.seq #[Value.str (Str.ofString "self") 872, Value.str (Str.ofString "number") 873, Value.str (Str.ofString "picture") 874, Value.str (Str.ofString "reply") 875]) #[]) ::
(nat_lit 488, Obj.mk (Value.type "tuple") none (Data.seq #[]) #[]) ::
(nat_lit 490, Obj.mk (Value.type "code") none (Data.fields #[Value.str (Str.ofString "answered") 869, Value.str (Str.ofString "Holdings.answered") 870, Value.str (Str.ofString "/claim/cut.py") 871, Value.int 257 0, Value.int 4 0, Value.int 0 0, Value.int 0 0, Value.int 3 0, Value.ref 485, Value.bool true, Value.int 181 0, Value.ref 486, Value.none, Value.ref 487, Value.ref 488, Value.ref 489, Value.int 876 0, Value.int 257 0, Value.str (Str.ofString "/claim/cut.py") 877]) #[]) ::
(nat_lit 491, Obj.mk (Value.type "function") none (Data.func (FuncData.mk (Str.ofString "answered") (Str.ofString "Holdings.answered") (defArgs (inClass (topS 34) 10)) (.stmts (defBody (inClass (topS 34) 10))) (defScope (inClass (topS 34) 10)) 3 [] Value.none Value.none Value.none (Value.str (Str.ofString "sillwatch.giving.holdings") 760) none (Value.ref 490) Value.none 0)) #[]) ::
(nat_lit 492, Obj.mk (Value.type "tuple") none (Data.seq #[]) #[]) ::
(nat_lit 494, Obj.mk (Value.type "tuple") none (Data.seq #[Value.str (Str.ofString "self") 882, Value.str (Str.ofString "shared") 883, Value.str (Str.ofString "present") 884, Value.str (Str.ofString "reply") 885]) #[]) ::
(nat_lit 495, Obj.mk (Value.type "tuple") none (Data.seq #[]) #[]) ::
(nat_lit 497, Obj.mk (Value.type "code") none (Data.fields #[Value.str (Str.ofString "compare") 879, Value.str (Str.ofString "Holdings.compare") 880, Value.str (Str.ofString "/claim/cut.py") 881, Value.int 260 0, Value.int 4 0, Value.int 0 0, Value.int 0 0, Value.int 3 0, Value.ref 492, Value.bool true, Value.int 181 0, Value.ref 493, Value.none, Value.ref 494, Value.ref 495, Value.ref 496, Value.int 886 0, Value.int 260 0, Value.str (Str.ofString "/claim/cut.py") 887]) #[]) ::
(nat_lit 498, Obj.mk (Value.type "function") none (Data.func (FuncData.mk (Str.ofString "compare") (Str.ofString "Holdings.compare") (defArgs (inClass (topS 34) 11)) (.stmts (defBody (inClass (topS 34) 11))) (defScope (inClass (topS 34) 11)) 3 [] Value.none Value.none Value.none (Value.str (Str.ofString "sillwatch.giving.holdings") 760) none (Value.ref 497) Value.none 0)) #[]) ::
(nat_lit 499, Obj.mk (Value.type "tuple") none (Data.seq #[]) #[]) ::
(nat_lit 501, Obj.mk (Value.type "tuple") none (Data.seq #[Value.str (Str.ofString "self") 892]) #[]) ::
(nat_lit 502, Obj.mk (Value.type "tuple") none (Data.seq #[]) #[]) ::
(nat_lit 504, Obj.mk (Value.type "code") none (Data.fields #[Value.str (Str.ofString "fetch_names") 889, Value.str (Str.ofString "Holdings.fetch_names") 890, Value.str (Str.ofString "/claim/cut.py") 891, Value.int 263 0, Value.int 1 0, Value.int 0 0, Value.int 0 0, Value.int 3 0, Value.ref 499, Value.bool true, Value.int 181 0, Value.ref 500, Value.none, Value.ref 501, Value.ref 502, Value.ref 503, Value.int 893 0, Value.int 263 0, Value.str (Str.ofString "/claim/cut.py") 894]) #[]) ::
(nat_lit 505, Obj.mk (Value.type "function") none (Data.func (FuncData.mk (Str.ofString "fetch_names") (Str.ofString "Holdings.fetch_names") (defArgs (inClass (topS 34) 12)) (.stmts (defBody (inClass (topS 34) 12))) (defScope (inClass (topS 34) 12)) 3 [] Value.none Value.none Value.none (Value.str (Str.ofString "sillwatch.giving.holdings") 760) none (Value.ref 504) Value.none 0)) #[]) ::
(nat_lit 506, Obj.mk (Value.type "tuple") none (Data.seq #[]) #[]) ::
(nat_lit 508, Obj.mk (Value.type "tuple") none (Data.seq #[Value.str (Str.ofString "self") 899]) #[]) ::
(nat_lit 509, Obj.mk (Value.type "tuple") none (Data.seq #[]) #[]) ::
(nat_lit 511, Obj.mk (Value.type "code") none (Data.fields #[Value.str (Str.ofString "watch_labels") 896, Value.str (Str.ofString "Holdings.watch_labels") 897, Value.str (Str.ofString "/claim/cut.py") 898, Value.int 266 0, Value.int 1 0, Value.int 0 0, Value.int 0 0, Value.int 3 0, Value.ref 506, Value.bool true, Value.int 181 0, Value.ref 507, Value.none, Value.ref 508, Value.ref 509, Value.ref 510, Value.int 900 0, Value.int 266 0, Value.str (Str.ofString "/claim/cut.py") 901]) #[]) ::
(nat_lit 512, Obj.mk (Value.type "function") none (Data.func (FuncData.mk (Str.ofString "watch_labels") (Str.ofString "Holdings.watch_labels") (defArgs (inClass (topS 34) 13)) (.stmts (defBody (inClass (topS 34) 13))) (defScope (inClass (topS 34) 13)) 3 [] Value.none Value.none Value.none (Value.str (Str.ofString "sillwatch.giving.holdings") 760) none (Value.ref 511) Value.none 0)) #[]) ::
(nat_lit 513, Obj.mk (Value.type "tuple") none (Data.seq #[]) #[]) ::
(nat_lit 515, Obj.mk (Value.type "tuple") none (Data.seq #[Value.str (Str.ofString "self") 906, Value.str (Str.ofString "request") 907, Value.str (Str.ofString "grant") 908, Value.str (Str.ofString "may_drag") 909, Value.str (Str.ofString "reply") 910]) #[]) ::
(nat_lit 516, Obj.mk (Value.type "tuple") none (Data.seq #[]) #[]) ::
(nat_lit 518, Obj.mk (Value.type "code") none (Data.fields #[Value.str (Str.ofString "_serve_transfer") 903, Value.str (Str.ofString "Holdings._serve_transfer") 904, Value.str (Str.ofString "/claim/cut.py") 905, Value.int 269 0, Value.int 5 0, Value.int 0 0, Value.int 0 0, Value.int 3 0, Value.ref 513, Value.bool true, Value.int 181 0, Value.ref 514, Value.none, Value.ref 515, Value.ref 516, Value.ref 517, Value.int 911 0, Value.int 269 0, Value.str (Str.ofString "/claim/cut.py") 912]) #[]) ::
(nat_lit 519, Obj.mk (Value.type "function") none (Data.func (FuncData.mk (Str.ofString "_serve_transfer") (Str.ofString "Holdings._serve_transfer") (defArgs (inClass (topS 34) 14)) (.stmts (defBody (inClass (topS 34) 14))) (defScope (inClass (topS 34) 14)) 3 [] Value.none Value.none Value.none (Value.str (Str.ofString "sillwatch.giving.holdings") 760) none (Value.ref 518) Value.none 0)) #[]) ::
(nat_lit 520, Obj.mk (Value.type "tuple") none (Data.seq #[]) #[]) ::
(nat_lit 522, Obj.mk (Value.type "tuple") none (Data.seq #[Value.str (Str.ofString "self") 917, Value.str (Str.ofString "request") 918, Value.str (Str.ofString "grant") 919, Value.str (Str.ofString "reply") 920, Value.str (Str.ofString "source") 921, Value.str (Str.ofString "serial") 922, Value.str (Str.ofString "rest") 923, Value.str (Str.ofString "goods") 924]) #[]) ::
(nat_lit 523, Obj.mk (Value.type "tuple") none (Data.seq #[]) #[]) ::
(nat_lit 525, Obj.mk (Value.type "code") none (Data.fields #[Value.str (Str.ofString "_give") 914, Value.str (Str.ofString "Holdings._give") 915, Value.str (Str.ofString "/claim/cut.py") 916, Value.int 289 0, Value.int 4 0, Value.int 0 0, Value.int 0 0, Value.int 3 0, Value.ref 520, Value.bool true, Value.int 181 0, Value.ref 521, Value.none, Value.ref 522, Value.ref 523, Value.ref 524, Value.int 925 0, Value.int 289 0, Value.str (Str.ofString "/claim/cut.py") 926]) #[]) ::
(nat_lit 526, Obj.mk (Value.type "function") none (Data.func (FuncData.mk (Str.ofString "_give") (Str.ofString "Holdings._give") (defArgs (inClass (topS 34) 15)) (.stmts (defBody (inClass (topS 34) 15))) (defScope (inClass (topS 34) 15)) 3 [] Value.none Value.none Value.none (Value.str (Str.ofString "sillwatch.giving.holdings") 760) none (Value.ref 525) Value.none 0)) #[]) ::
(nat_lit 527, Obj.mk (Value.type "tuple") none (Data.seq #[]) #[]) ::
(nat_lit 529, Obj.mk (Value.type "tuple") none (Data.seq #[Value.str (Str.ofString "self") 931, Value.str (Str.ofString "request") 932, Value.str (Str.ofString "reply") 933, Value.str (Str.ofString "name") 934, Value.str (Str.ofString "octets") 935, Value.str (Str.ofString "is_new") 936]) #[]) ::
(nat_lit 530, Obj.mk (Value.type "tuple") none (Data.seq #[]) #[]) ::
(nat_lit 532, Obj.mk (Value.type "code") none (Data.fields #[Value.str (Str.ofString "_send") 928, Value.str (Str.ofString "Holdings._send") 929, Value.str (Str.ofString "/claim/cut.py") 930, Value.int 300 0, Value.int 3 0, Value.int 0 0, Value.int 0 0, Value.int 3 0, Value.ref 527, Value.bool true, Value.int 181 0, Value.ref 528, Value.none, Value.ref 529, Value.ref 530, Value.ref 531, Value.int 937 0, Value.int 300 0, Value.str (Str.ofString "/claim/cut.py") 938]) #[]) ::
(nat_lit 533, Obj.mk (Value.type "function") none (Data.func (FuncData.mk (Str.ofString "_send") (Str.ofString "Holdings._send") (defArgs (inClass (topS 34) 16)) (.stmts (defBody (inClass (topS 34) 16))) (defScope (inClass (topS 34) 16)) 3 [] Value.none Value.none Value.none (Value.str (Str.ofString "sillwatch.giving.holdings") 760) none (Value.ref 532) Value.none 0)) #[]) ::
(nat_lit 534, Obj.mk (Value.type "tuple") none (Data.seq #[]) #[]) ::
(nat_lit 536, Obj.mk (Value.type "tuple") none (Data.seq #[Value.str (Str.ofString "self") 943, Value.str (Str.ofString "request") 944, Value.str (Str.ofString "reply") 945, Value.str (Str.ofString "name") 946]) #[]) ::
(nat_lit 537, Obj.mk (Value.type "tuple") none (Data.seq #[]) #[]) ::
(nat_lit 539, Obj.mk (Value.type "code") none (Data.fields #[Value.str (Str.ofString "_unsend") 940, Value.str (Str.ofString "Holdings._unsend") 941, Value.str (Str.ofString "/claim/cut.py") 942, Value.int 311 0, Value.int 3 0, Value.int 0 0, Value.int 0 0, Value.int 3 0, Value.ref 534, Value.bool true, Value.int 181 0, Value.ref 535, Value.none, Value.ref 536, Value.ref 537, Value.ref 538, Value.int 947 0, Value.int 311 0, Value.str (Str.ofString "/claim/cut.py") 948]) #[]) ::
(nat_lit 540, Obj.mk (Value.type "function") none (Data.func (FuncData.mk (Str.ofString "_unsend") (Str.ofString "Holdings._unsend") (defArgs (inClass (topS 34) 17)) (.stmts (defBody (inClass (topS 34) 17))) (defScope (inClass (topS 34) 17)) 3 [] Value.none Value.none Value.none (Value.str (Str.ofString "sillwatch.giving.holdings") 760) none (Value.ref 539) Value.none 0)) #[]) ::
(nat_lit 541, Obj.mk (Value.type "tuple") none (Data.seq #[Value.str (Str.ofString "_captures") 950, Value.str (Str.ofString "_fetches") 951, Value.str (Str.ofString "_offers") 952, Value.str (Str.ofString "_sent_names") 953, Value.str (Str.ofString "_sources") 954]) #[]) ::
(nat_lit 542, Obj.mk (Value.type "dict") none (Data.dict #[DictEntry.mk (PyData.keyHash PP (Str.ofString "__module__")) (Value.str (Str.ofString "__module__") 773) (Value.str (Str.ofString "sillwatch.giving.holdings") 760), DictEntry.mk (PyData.keyHash PP (Str.ofString "__firstlineno__")) (Value.str (Str.ofString "__firstlineno__") 777) (Value.int 207 776), DictEntry.mk (PyData.keyHash PP (Str.ofString "__init__")) (Value.str (Str.ofString "__init__") 784) (Value.ref 421), DictEntry.mk (PyData.keyHash PP (Str.ofString "serve")) (Value.str (Str.ofString "serve") 796) (Value.ref 428), DictEntry.mk (PyData.keyHash PP (Str.ofString "bound")) (Value.str (Str.ofString "bound") 804) (Value.ref 435), DictEntry.mk (PyData.keyHash PP (Str.ofString "ended")) (Value.str (Str.ofString "ended") 812) (Value.ref 442), DictEntry.mk (PyData.keyHash PP (Str.ofString "pane")) (Value.str (Str.ofString "pane") 819) (Value.ref 449), DictEntry.mk (PyData.keyHash PP (Str.ofString "offered")) (Value.str (Str.ofString "offered") 830) (Value.ref 456), DictEntry.mk (PyData.keyHash PP (Str.ofString "hovers")) (Value.str (Str.ofString "hovers") 842) (Value.ref 463), DictEntry.mk (PyData.keyHash PP (Str.ofString "moves")) (Value.str (Str.ofString "moves") 853) (Value.ref 470), DictEntry.mk (PyData.keyHash PP (Str.ofString "leaves")) (Value.str (Str.ofString "leaves") 861) (Value.ref 477), DictEntry.mk (PyData.keyHash PP (Str.ofString "dropped")) (Value.str (Str.ofString "dropped") 868) (Value.ref 484), DictEntry.mk (PyData.keyHash PP (Str.ofString "answered")) (Value.str (Str.ofString "answered") 878) (Value.ref 491), DictEntry.mk (PyData.keyHash PP (Str.ofString "compare")) (Value.str (Str.ofString "compare") 888) (Value.ref 498), DictEntry.mk (PyData.keyHash PP (Str.ofString "fetch_names")) (Value.str (Str.ofString "fetch_names") 895) (Value.ref 505), DictEntry.mk (PyData.keyHash PP (Str.ofString "watch_labels")) (Value.str (Str.ofString "watch_labels") 902) (Value.ref 512), DictEntry.mk (PyData.keyHash PP (Str.ofString "_serve_transfer")) (Value.str (Str.ofString "_serve_transfer") 913) (Value.ref 519), DictEntry.mk (PyData.keyHash PP (Str.ofString "_give")) (Value.str (Str.ofString "_give") 927) (Value.ref 526), DictEntry.mk (PyData.keyHash PP (Str.ofString "_send")) (Value.str (Str.ofString "_send") 939) (Value.ref 533), DictEntry.mk (PyData.keyHash PP (Str.ofString "_unsend")) (Value.str (Str.ofString "_unsend") 949) (Value.ref 540), DictEntry.mk (PyData.keyHash PP (Str.ofString "__static_attributes__")) (Value.str (Str.ofString "__static_attributes__") 955) (Value.ref 541), DictEntry.mk (PyData.keyHash PP (Str.ofString "__dict__")) (Value.str (Str.ofString "__dict__") 957) (Value.ref 544), DictEntry.mk (PyData.keyHash PP (Str.ofString "__weakref__")) (Value.str (Str.ofString "__weakref__") 959) (Value.ref 545), DictEntry.mk (PyData.keyHash PP (Str.ofString "__doc__")) (Value.str (Str.ofString "__doc__") 960) Value.none] 4) #[]) ::
(nat_lit 543, Obj.mk (Value.type "type") none (Data.cls (ClassData.mk (Str.ofString "Holdings") [Value.type "object"] [Value.ref 543, Value.type "object"] 542 (Str.ofString "Holdings") true [] [] false none false)) #[none, none, some (Value.str (Str.ofString "Holdings") 766), some (Value.str (Str.ofString "Holdings") 774), some (Value.builtin "object.__new__"), some (Value.bool true)]) ::
(nat_lit 544, Obj.mk (Value.type "getset_descriptor") none (Data.fields #[Value.str (Str.ofString "__dict__") 956, Value.ref 543, Value.builtin "function.__dict__", Value.builtin "function.__dict__#set"]) #[]) ::
(nat_lit 545, Obj.mk (Value.type "getset_descriptor") none (Data.fields #[Value.str (Str.ofString "__weakref__") 958, Value.ref 543, Value.builtin "ExceptionGroup.__weakref__", Value.none]) #[]) ::
(nat_lit 548, Obj.mk (Value.type "tuple") none (Data.seq #[]) #[]) ::
(nat_lit 550, Obj.mk (Value.type "tuple") none (Data.seq #[Value.str (Str.ofString "value") 985, Value.str (Str.ofString "least") 986, Value.str (Str.ofString "greatest") 987]) #[]) ::
(nat_lit 551, Obj.mk (Value.type "tuple") none (Data.seq #[]) #[]) ::
(nat_lit 553, Obj.mk (Value.type "code") none (Data.fields #[Value.str (Str.ofString "is_integer") 982, Value.str (Str.ofString "is_integer") 983, Value.str (Str.ofString "/claim/cut.py") 984, Value.int 325 0, Value.int 3 0, Value.int 0 0, Value.int 0 0, Value.int 3 0, Value.ref 548, Value.bool true, Value.int 181 0, Value.ref 549, Value.none, Value.ref 550, Value.ref 551, Value.ref 552, Value.int 988 0, Value.int 325 0, Value.str (Str.ofString "/claim/cut.py") 989]) #[]) ::
(nat_lit 554, Obj.mk (Value.type "function") none (Data.func (FuncData.mk (Str.ofString "is_integer") (Str.ofString "is_integer") (defArgs (topS 44)) (.stmts (defBody (topS 44))) (defScope (topS 44)) 3 [] Value.none Value.none Value.none (Value.str (Str.ofString "sillwatch.octets.fields") 963) none (Value.ref 553) Value.none 0)) #[]) ::
(nat_lit 555, Obj.mk (Value.type "tuple") none (Data.seq #[]) #[]) ::
(nat_lit 558, Obj.mk (Value.type "code") none (Data.fields #[Value.str (Str.ofString "is_text") 991, Value.str (Str.ofString "is_text") 992, Value.str (Str.ofString "/claim/cut.py") 993, Value.int 327 0, Value.int 1 0, Value.int 0 0, Value.int 0 0, Value.int 3 0, Value.ref 555, Value.bool true, Value.int 181 0, Value.ref 556, Value.none, Value.none, Value.none, Value.ref 557, Value.int 994 0, Value.int 327 0, Value.str (Str.ofString "/claim/cut.py") 995]) #[]) ::
(nat_lit 559, Obj.mk (Value.type "function") none (Data.func (FuncData.mk (Str.ofString "is_text") (Str.ofString "is_text") (defArgs (topS 45)) (.stmts (defBody (topS 45))) (defScope (topS 45)) 3 [] Value.none Value.none Value.none (Value.str (Str.ofString "sillwatch.octets.fields") 963) none (Value.ref 558) Value.none 0)) #[]) ::
(nat_lit 560, Obj.mk (Value.type "tuple") none (Data.seq #[]) #[]) ::
(nat_lit 563, Obj.mk (Value.type "code") none (Data.fields #[Value.str (Str.ofString "number_octets") 997, Value.str (Str.ofString "number_octets") 998, Value.str (Str.ofString "/claim/cut.py") 999, Value.int 329 0, Value.int 2 0, Value.int 0 0, Value.int 0 0, Value.int 3 0, Value.ref 560, Value.bool true, Value.int 181 0, Value.ref 561, Value.none, Value.none, Value.none, Value.ref 562, Value.int 1000 0, Value.int 329 0, Value.str (Str.ofString "/claim/cut.py") 1001]) #[]) ::
(nat_lit 564, Obj.mk (Value.type "function") none (Data.func (FuncData.mk (Str.ofString "number_octets") (Str.ofString "number_octets") (defArgs (topS 46)) (.stmts (defBody (topS 46))) (defScope (topS 46)) 3 [] Value.none Value.none Value.none (Value.str (Str.ofString "sillwatch.octets.fields") 963) none (Value.ref 563) Value.none 0)) #[]) ::
(nat_lit 565, Obj.mk (Value.type "tuple") none (Data.seq #[]) #[]) ::
(nat_lit 567, Obj.mk (Value.type "tuple") none (Data.seq #[Value.str (Str.ofString "kind") 1006, Value.str (Str.ofString "value") 1007, Value.str (Str.ofString "text") 1008, Value.str (Str.ofString "number") 1009]) #[]) ::
(nat_lit 568, Obj.mk (Value.type "tuple") none (Data.seq #[]) #[]) ::
(nat_lit 570, Obj.mk (Value.type "code") none (Data.fields #[Value.str (Str.ofString "field_octets") 1003, Value.str (Str.ofString "field_octets") 1004, Value.str (Str.ofString "/claim/cut.py") 1005, Value.int 331 0, Value.int 2 0, Value.int 0 0, Value.int 0 0, Value.int 3 0, Value.ref 565, Value.bool true, Value.int 181 0, Value.ref 566, Value.none, Value.ref 567, Value.ref 568, Value.ref 569, Value.int 1010 0, Value.int 331 0, Value.str (Str.ofString "/claim/cut.py") 1011]) #[]) ::
(nat_lit 571, Obj.mk (Value.type "function") none (Data.func (FuncData.mk (Str.ofString "field_octets") (Str.ofString "field_octets") (defArgs (topS 47)) (.stmts (defBody (topS 47))) (defScope (topS 47)) 3 [] Value.none Value.none Value.none (Value.str (Str.ofString "sillwatch.octets.fields") 963) none (Value.ref 570) Value.none 0)) #[]) ::
(nat_lit 572, Obj.mk (Value.type "tuple") none (Data.seq #[]) #[]) ::
(nat_lit 574, Obj.mk (Value.type "tuple") none (Data.seq #[Value.str (Str.ofString "code") 1016]) #[]) ::
(nat_lit 575, Obj.mk (Value.type "tuple") none (Data.seq #[]) #[]) ::
(nat_lit 577, Obj.mk (Value.type "code") none (Data.fields #[Value.str (Str.ofString "_is_code") 1013, Value.str (Str.ofString "_is_code") 1014, Value.str (Str.ofString "/claim/cut.py") 1015, Value.int 342 0, Value.int 1 0, Value.int 0 0, Value.int 0 0, Value.int 3 0, Value.ref 572, Value.bool true, Value.int 181 0, Value.ref 573, Value.none, Value.ref 574, Value.ref 575, Value.ref 576, Value.int 1017 0, Value.int 342 0, Value.str (Str.ofString "/claim/cut.py") 1018]) #[]) ::
(nat_lit 578, Obj.mk (Value.type "function") none (Data.func (FuncData.mk (Str.ofString "_is_code") (Str.ofString "_is_code") (defArgs (topS 48)) (.stmts (defBody (topS 48))) (defScope (topS 48)) 3 [] Value.none Value.none Value.none (Value.str (Str.ofString "sillwatch.octets.fields") 963) none (Value.ref 577) Value.none 0)) #[]) ::
(nat_lit 579, Obj.mk (Value.type "tuple") none (Data.seq #[]) #[]) ::
(nat_lit 581, Obj.mk (Value.type "tuple") none (Data.seq #[Value.str (Str.ofString "kind") 1023, Value.str (Str.ofString "value") 1024]) #[]) ::
(nat_lit 582, Obj.mk (Value.type "tuple") none (Data.seq #[]) #[]) ::
(nat_lit 584, Obj.mk (Value.type "code") none (Data.fields #[Value.str (Str.ofString "_is_of") 1020, Value.str (Str.ofString "_is_of") 1021, Value.str (Str.ofString "/claim/cut.py") 1022, Value.int 344 0, Value.int 2 0, Value.int 0 0, Value.int 0 0, Value.int 3 0, Value.ref 579, Value.bool true, Value.int 181 0, Value.ref 580, Value.none, Value.ref 581, Value.ref 582, Value.ref 583, Value.int 1025 0, Value.int 344 0, Value.str (Str.ofString "/claim/cut.py") 1026]) #[]) ::
(nat_lit 585, Obj.mk (Value.type "function") none (Data.func (FuncData.mk (Str.ofString "_is_of") (Str.ofString "_is_of") (defArgs (topS 49)) (.stmts (defBody (topS 49))) (defScope (topS 49)) 3 [] Value.none Value.none Value.none (Value.str (Str.ofString "sillwatch.octets.fields") 963) none (Value.ref 584) Value.none 0)) #[]) ::
(nat_lit 586, Obj.mk (Value.type "tuple") none (Data.seq #[]) #[]) ::
(nat_lit 589, Obj.mk (Value.type "code") none (Data.fields #[Value.str (Str.ofString "_are_octets") 1028, Value.str (Str.ofString "_are_octets") 1029, Value.str (Str.ofString "/claim/cut.py") 1030, Value.int 356 0, Value.int 1 0, Value.int 0 0, Value.int 0 0, Value.int 3 0, Value.ref 586, Value.bool true, Value.int 181 0, Value.ref 587, Value.none, Value.none, Value.none, Value.ref 588, Value.int 1031 0, Value.int 356 0, Value.str (Str.ofString "/claim/cut.py") 1032]) #[]) ::
(nat_lit 590, Obj.mk (Value.type "function") none (Data.func (FuncData.mk (Str.ofString "_are_octets") (Str.ofString "_are_octets") (defArgs (topS 50)) (.stmts (defBody (topS 50))) (defScope (topS 50)) 3 [] Value.none Value.none Value.none (Value.str (Str.ofString "sillwatch.octets.fields") 963) none (Value.ref 589) Value.none 0)) #[]) ::
(nat_lit 591, Obj.mk (Value.type "tuple") none (Data.seq #[]) #[]) ::
(nat_lit 593, Obj.mk (Value.type "tuple") none (Data.seq #[Value.str (Str.ofString "value") 1037]) #[]) ::
(nat_lit 594, Obj.mk (Value.type "tuple") none (Data.seq #[]) #[]) ::
(nat_lit 596, Obj.mk (Value.type "code") none (Data.fields #[Value.str (Str.ofString "_is_bound") 1034, Value.str (Str.ofString "_is_bound") 1035, Value.str (Str.ofString "/claim/cut.py") 1036, Value.int 360 0, Value.int 1 0, Value.int 0 0, Value.int 0 0, Value.int 3 0, Value.ref 591, Value.bool true, Value.int 181 0, Value.ref 592, Value.none, Value.ref 593, Value.ref 594, Value.ref 595, Value.int 1038 0, Value.int 360 0, Value.str (Str.ofString "/claim/cut.py") 1039]) #[]) ::
(nat_lit 597, Obj.mk (Value.type "function") none (Data.func (FuncData.mk (Str.ofString "_is_bound") (Str.ofString "_is_bound") (defArgs (topS 51)) (.stmts (defBody (topS 51))) (defScope (topS 51)) 3 [] Value.none Value.none Value.none (Value.str (Str.ofString "sillwatch.octets.fields") 963) none (Value.ref 596) Value.none 0)) #[]) ::
(nat_lit 598, Obj.mk (Value.type "tuple") none (Data.seq #[]) #[]) ::
(nat_lit 601, Obj.mk (Value.type "code") none (Data.fields #[Value.str (Str.ofString "_text_octets") 1041, Value.str (Str.ofString "_text_octets") 1042, Value.str (Str.ofString "/claim/cut.py") 1043, Value.int 364 0, Value.int 1 0, Value.int 0 0, Value.int 0 0, Value.int 3 0, Value.ref 598, Value.bool true, Value.int 181 0, Value.ref 599, Value.none, Value.none, Value.none, Value.ref 600, Value.int 1044 0, Value.int 364 0, Value.str (Str.ofString "/claim/cut.py") 1045]) #[]) ::
(nat_lit 602, Obj.mk (Value.type "function") none (Data.func (FuncData.mk (Str.ofString "_text_octets") (Str.ofString "_text_octets") (defArgs (topS 52)) (.stmts (defBody (topS 52))) (defScope (topS 52)) 3 [] Value.none Value.none Value.none (Value.str (Str.ofString "sillwatch.octets.fields") 963) none (Value.ref 601) Value.none 0)) #[]) ::
(nat_lit 603, Obj.mk (Value.type "tuple") none (Data.seq #[]) #[]) ::
(nat_lit 605, Obj.mk (Value.type "tuple") none (Data.seq #[Value.str (Str.ofString "octets") 1050]) #[]) ::
(nat_lit 606, Obj.mk (Value.type "tuple") none (Data.seq #[]) #[]) ::
(nat_lit 608, Obj.mk (Value.type "code") none (Data.fields #[Value.str (Str.ofString "_padded") 1047, Value.str (Str.ofString "_padded") 1048, Value.str (Str.ofString "/claim/cut.py") 1049, Value.int 367 0, Value.int 1 0, Value.int 0 0, Value.int 0 0, Value.int 3 0, Value.ref 603, Value.bool true, Value.int 181 0, Value.ref 604, Value.none, Value.ref 605, Value.ref 606, Value.ref 607, Value.int 1051 0, Value.int 367 0, Value.str (Str.ofString "/claim/cut.py") 1052]) #[]) ::
(nat_lit 609, Obj.mk (Value.type "function") none (Data.func (FuncData.mk (Str.ofString "_padded") (Str.ofString "_padded") (defArgs (topS 53)) (.stmts (defBody (topS 53))) (defScope (topS 53)) 3 [] Value.none Value.none Value.none (Value.str (Str.ofString "sillwatch.octets.fields") 963) none (Value.ref 608) Value.none 0)) #[]) ::
(nat_lit 610, Obj.mk (Value.type "tuple") none (Data.seq #[]) #[]) ::
(nat_lit 612, Obj.mk (Value.type "tuple") none (Data.seq #[Value.str (Str.ofString "number") 1067, Value.str (Str.ofString "opcode") 1068, Value.str (Str.ofString "arguments") 1069, Value.str (Str.ofString "body") 1070, Value.str (Str.ofString "kind") 1071, Value.str (Str.ofString "value") 1072, Value.str (Str.ofString "size") 1073]) #[]) ::
(nat_lit 613, Obj.mk (Value.type "tuple") none (Data.seq #[]) #[]) ::
(nat_lit 615, Obj.mk (Value.type "code") none (Data.fields #[Value.str (Str.ofString "encode_message") 1064, Value.str (Str.ofString "encode_message") 1065, Value.str (Str.ofString "/claim/cut.py") 1066, Value.int 374 0, Value.int 3 0, Value.int 0 0, Value.int 0 0, Value.int 3 0, Value.ref 610, Value.bool true, Value.int 181 0, Value.ref 611, Value.none, Value.ref 612, Value.ref 613, Value.ref 614, Value.int 1074 0, Value.int 374 0, Value.str (Str.ofString "/claim/cut.py") 1075]) #[]) ::
(nat_lit 616, Obj.mk (Value.type "function") none (Data.func (FuncData.mk (Str.ofString "encode_message") (Str.ofString "encode_message") (defArgs (topS 59)) (.stmts (defBody (topS 59))) (defScope (topS 59)) 3 [] Value.none Value.none Value.none (Value.str (Str.ofString "sillwatch.octets.messages") 1054) none (Value.ref 615) Value.none 0)) #[]) ::
(nat_lit 617, Obj.mk (Value.type "dict") none (Data.dict #[DictEntry.mk (PyData.keyHash PP (Str.ofString "display")) (Value.str (Str.ofString "display") 1079) (Value.ref 622), DictEntry.mk (PyData.keyHash PP (Str.ofString "callback")) (Value.str (Str.ofString "callback") 1086) (Value.ref 625), DictEntry.mk (PyData.keyHash PP (Str.ofString "registry")) (Value.str (Str.ofString "registry") 1089) (Value.ref 630), DictEntry.mk (PyData.keyHash PP (Str.ofString "buffer")) (Value.str (Str.ofString "buffer") 1095) (Value.ref 633), DictEntry.mk (PyData.keyHash PP (Str.ofString "output")) (Value.str (Str.ofString "output") 1097) (Value.ref 636), DictEntry.mk (PyData.keyHash PP (Str.ofString "window")) (Value.str (Str.ofString "window") 1103) (Value.ref 645), DictEntry.mk (PyData.keyHash PP (Str.ofString "popup")) (Value.str (Str.ofString "popup") 1114) (Value.ref 650), DictEntry.mk (PyData.keyHash PP (Str.ofString "pointer")) (Value.str (Str.ofString "pointer") 1121) (Value.ref 661), DictEntry.mk (PyData.keyHash PP (Str.ofString "keyboard")) (Value.str (Str.ofString "keyboard") 1141) (Value.ref 672), DictEntry.mk (PyData.keyHash PP (Str.ofString "transfer")) (Value.str (Str.ofString "transfer") 1157) (Value.ref 685), DictEntry.mk (PyData.keyHash PP (Str.ofString "offer")) (Value.str (Str.ofString "offer") 1173) (Value.ref 690), DictEntry.mk (PyData.keyHash PP (Str.ofString "capture")) (Value.str (Str.ofString "capture") 1181) (Value.ref 697), DictEntry.mk (PyData.keyHash PP (Str.ofString "fetch")) (Value.str (Str.ofString "fetch") 1189) (Value.ref 704), DictEntry.mk (PyData.keyHash PP (Str.ofString "watch")) (Value.str (Str.ofString "watch") 1196) (Value.ref 709)] 14) #[]) ::
(nat_lit 618, Obj.mk (Value.type "tuple") none (Data.seq #[Value.str (Str.ofString "uint") 1081, Value.str (Str.ofString "uint") 1082, Value.str (Str.ofString "text") 1083]) #[]) ::
(nat_lit 619, Obj.mk (Value.type "tuple") none (Data.seq #[Value.str (Str.ofString "error") 1080, Value.ref 618]) #[]) ::
(nat_lit 620, Obj.mk (Value.type "tuple") none (Data.seq #[Value.str (Str.ofString "uint") 1085]) #[]) ::
(nat_lit 621, Obj.mk (Value.type "tuple") none (Data.seq #[Value.str (Str.ofString "removed") 1084, Value.ref 620]) #[]) ::
(nat_lit 622, Obj.mk (Value.type "tuple") none (Data.seq #[Value.ref 619, Value.ref 621]) #[]) ::
(nat_lit 623, Obj.mk (Value.type "tuple") none (Data.seq #[Value.str (Str.ofString "uint") 1088]) #[]) ::
(nat_lit 624, Obj.mk (Value.type "tuple") none (Data.seq #[Value.str (Str.ofString "done") 1087, Value.ref 623]) #[]) ::
(nat_lit 625, Obj.mk (Value.type "tuple") none (Data.seq #[Value.ref 624]) #[]) ::
(nat_lit 626, Obj.mk (Value.type "tuple") none (Data.seq #[Value.str (Str.ofString "uint") 1091, Value.str (Str.ofString "text") 1092]) #[]) ::
(nat_lit 627, Obj.mk (Value.type "tuple") none (Data.seq #[Value.str (Str.ofString "there") 1090, Value.ref 626]) #[]) ::
(nat_lit 628, Obj.mk (Value.type "tuple") none (Data.seq #[Value.str (Str.ofString "uint") 1094]) #[]) ::
(nat_lit 629, Obj.mk (Value.type "tuple") none (Data.seq #[Value.str (Str.ofString "gone") 1093, Value.ref 628]) #[]) ::
(nat_lit 630, Obj.mk (Value.type "tuple") none (Data.seq #[Value.ref 627, Value.ref 629]) #[]) ::
(nat_lit 631, Obj.mk (Value.type "tuple") none (Data.seq #[]) #[]) ::
(nat_lit 632, Obj.mk (Value.type "tuple") none (Data.seq #[Value.str (Str.ofString "release") 1096, Value.ref 631]) #[]) ::
(nat_lit 633, Obj.mk (Value.type "tuple") none (Data.seq #[Value.ref 632]) #[]) ::
(nat_lit 634, Obj.mk (Value.type "tuple") none (Data.seq #[Value.str (Str.ofString "uint") 1099, Value.str (Str.ofString "uint") 1100, Value.str (Str.ofString "uint") 1101, Value.str (Str.ofString "uint") 1102]) #[]) ::
(nat_lit 635, Obj.mk (Value.type "tuple") none (Data.seq #[Value.str (Str.ofString "size") 1098, Value.ref 634]) #[]) ::
(nat_lit 636, Obj.mk (Value.type "tuple") none (Data.seq #[Value.ref 635]) #[]) ::
(nat_lit 637, Obj.mk (Value.type "tuple") none (Data.seq #[Value.str (Str.ofString "uint") 1105, Value.str (Str.ofString "uint") 1106, Value.str (Str.ofString "uint") 1107, Value.str (Str.ofString "uint") 1108]) #[]) ::
(nat_lit 638, Obj.mk (Value.type "tuple") none (Data.seq #[Value.str (Str.ofString "configure") 1104, Value.ref 637]) #[]) ::
(nat_lit 639, Obj.mk (Value.type "tuple") none (Data.seq #[]) #[]) ::
(nat_lit 640, Obj.mk (Value.type "tuple") none (Data.seq #[Value.str (Str.ofString "close") 1109, Value.ref 639]) #[]) ::
(nat_lit 641, Obj.mk (Value.type "tuple") none (Data.seq #[Value.str (Str.ofString "uint") 1111]) #[]) ::
(nat_lit 642, Obj.mk (Value.type "tuple") none (Data.seq #[Value.str (Str.ofString "output") 1110, Value.ref 641]) #[]) ::
(nat_lit 643, Obj.mk (Value.type "tuple") none (Data.seq #[Value.str (Str.ofString "uint") 1113]) #[]) ::
(nat_lit 644, Obj.mk (Value.type "tuple") none (Data.seq #[Value.str (Str.ofString "left") 1112, Value.ref 643]) #[]) ::
(nat_lit 645, Obj.mk (Value.type "tuple") none (Data.seq #[Value.ref 638, Value.ref 640, Value.ref 642, Value.ref 644]) #[]) ::
(nat_lit 646, Obj.mk (Value.type "tuple") none (Data.seq #[Value.str (Str.ofString "int") 1116, Value.str (Str.ofString "int") 1117, Value.str (Str.ofString "uint") 1118, Value.str (Str.ofString "uint") 1119]) #[]) ::
(nat_lit 647, Obj.mk (Value.type "tuple") none (Data.seq #[Value.str (Str.ofString "placed") 1115, Value.ref 646]) #[]) ::
(nat_lit 648, Obj.mk (Value.type "tuple") none (Data.seq #[]) #[]) ::
(nat_lit 649, Obj.mk (Value.type "tuple") none (Data.seq #[Value.str (Str.ofString "done") 1120, Value.ref 648]) #[]) ::
(nat_lit 650, Obj.mk (Value.type "tuple") none (Data.seq #[Value.ref 647, Value.ref 649]) #[]) ::
(nat_lit 651, Obj.mk (Value.type "tuple") none (Data.seq #[Value.str (Str.ofString "object") 1123, Value.str (Str.ofString "int") 1124, Value.str (Str.ofString "int") 1125]) #[]) ::
(nat_lit 652, Obj.mk (Value.type "tuple") none (Data.seq #[Value.str (Str.ofString "enter") 1122, Value.ref 651]) #[]) ::
(nat_lit 653, Obj.mk (Value.type "tuple") none (Data.seq #[Value.str (Str.ofString "object") 1127]) #[]) ::
(nat_lit 654, Obj.mk (Value.type "tuple") none (Data.seq #[Value.str (Str.ofString "leave") 1126, Value.ref 653]) #[]) ::
(nat_lit 655, Obj.mk (Value.type "tuple") none (Data.seq #[Value.str (Str.ofString "int") 1129, Value.str (Str.ofString "int") 1130, Value.str (Str.ofString "uint") 1131]) #[]) ::
(nat_lit 656, Obj.mk (Value.type "tuple") none (Data.seq #[Value.str (Str.ofString "motion") 1128, Value.ref 655]) #[]) ::
(nat_lit 657, Obj.mk (Value.type "tuple") none (Data.seq #[Value.str (Str.ofString "uint") 1133, Value.str (Str.ofString "uint") 1134, Value.str (Str.ofString "uint") 1135, Value.str (Str.ofString "uint") 1136]) #[]) ::
(nat_lit 658, Obj.mk (Value.type "tuple") none (Data.seq #[Value.str (Str.ofString "button") 1132, Value.ref 657]) #[]) ::
(nat_lit 659, Obj.mk (Value.type "tuple") none (Data.seq #[Value.str (Str.ofString "int") 1138, Value.str (Str.ofString "int") 1139, Value.str (Str.ofString "uint") 1140]) #[]) ::
(nat_lit 660, Obj.mk (Value.type "tuple") none (Data.seq #[Value.str (Str.ofString "axis") 1137, Value.ref 659]) #[]) ::
(nat_lit 661, Obj.mk (Value.type "tuple") none (Data.seq #[Value.ref 652, Value.ref 654, Value.ref 656, Value.ref 658, Value.ref 660]) #[]) ::
(nat_lit 662, Obj.mk (Value.type "tuple") none (Data.seq #[Value.str (Str.ofString "text") 1143]) #[]) ::
(nat_lit 663, Obj.mk (Value.type "tuple") none (Data.seq #[Value.str (Str.ofString "keymap") 1142, Value.ref 662]) #[]) ::
(nat_lit 664, Obj.mk (Value.type "tuple") none (Data.seq #[Value.str (Str.ofString "object") 1145]) #[]) ::
(nat_lit 665, Obj.mk (Value.type "tuple") none (Data.seq #[Value.str (Str.ofString "enter") 1144, Value.ref 664]) #[]) ::
(nat_lit 666, Obj.mk (Value.type "tuple") none (Data.seq #[Value.str (Str.ofString "object") 1147]) #[]) ::
(nat_lit 667, Obj.mk (Value.type "tuple") none (Data.seq #[Value.str (Str.ofString "leave") 1146, Value.ref 666]) #[]) ::
(nat_lit 668, Obj.mk (Value.type "tuple") none (Data.seq #[Value.str (Str.ofString "uint") 1149, Value.str (Str.ofString "uint") 1150, Value.str (Str.ofString "uint") 1151, Value.str (Str.ofString "uint") 1152]) #[]) ::
(nat_lit 669, Obj.mk (Value.type "tuple") none (Data.seq #[Value.str (Str.ofString "key") 1148, Value.ref 668]) #[]) ::
(nat_lit 670, Obj.mk (Value.type "tuple") none (Data.seq #[Value.str (Str.ofString "text") 1154, Value.str (Str.ofString "text") 1155, Value.str (Str.ofString "uint") 1156]) #[]) ::
(nat_lit 671, Obj.mk (Value.type "tuple") none (Data.seq #[Value.str (Str.ofString "symbol") 1153, Value.ref 670]) #[]) ::
(nat_lit 672, Obj.mk (Value.type "tuple") none (Data.seq #[Value.ref 663, Value.ref 665, Value.ref 667, Value.ref 669, Value.ref 671]) #[]) ::
(nat_lit 673, Obj.mk (Value.type "tuple") none (Data.seq #[Value.str (Str.ofString "new") 1159, Value.str (Str.ofString "uint") 1160]) #[]) ::
(nat_lit 674, Obj.mk (Value.type "tuple") none (Data.seq #[Value.str (Str.ofString "offer") 1158, Value.ref 673]) #[]) ::
(nat_lit 675, Obj.mk (Value.type "tuple") none (Data.seq #[Value.str (Str.ofString "object") 1162, Value.str (Str.ofString "int") 1163, Value.str (Str.ofString "int") 1164]) #[]) ::
(nat_lit 676, Obj.mk (Value.type "tuple") none (Data.seq #[Value.str (Str.ofString "hover") 1161, Value.ref 675]) #[]) ::
(nat_lit 677, Obj.mk (Value.type "tuple") none (Data.seq #[Value.str (Str.ofString "text") 1166]) #[]) ::
(nat_lit 678, Obj.mk (Value.type "tuple") none (Data.seq #[Value.str (Str.ofString "hover_kind") 1165, Value.ref 677]) #[]) ::
(nat_lit 679, Obj.mk (Value.type "tuple") none (Data.seq #[Value.str (Str.ofString "uint") 1168, Value.str (Str.ofString "int") 1169, Value.str (Str.ofString "int") 1170]) #[]) ::
(nat_lit 680, Obj.mk (Value.type "tuple") none (Data.seq #[Value.str (Str.ofString "moved") 1167, Value.ref 679]) #[]) ::
(nat_lit 681, Obj.mk (Value.type "tuple") none (Data.seq #[]) #[]) ::
(nat_lit 682, Obj.mk (Value.type "tuple") none (Data.seq #[Value.str (Str.ofString "away") 1171, Value.ref 681]) #[]) ::
(nat_lit 683, Obj.mk (Value.type "tuple") none (Data.seq #[]) #[]) ::
(nat_lit 684, Obj.mk (Value.type "tuple") none (Data.seq #[Value.str (Str.ofString "ended") 1172, Value.ref 683]) #[]) ::
(nat_lit 685, Obj.mk (Value.type "tuple") none (Data.seq #[Value.ref 674, Value.ref 676, Value.ref 678, Value.ref 680, Value.ref 682, Value.ref 684]) #[]) ::
(nat_lit 686, Obj.mk (Value.type "tuple") none (Data.seq #[Value.str (Str.ofString "text") 1175, Value.str (Str.ofString "uint") 1176]) #[]) ::
(nat_lit 687, Obj.mk (Value.type "tuple") none (Data.seq #[Value.str (Str.ofString "kind") 1174, Value.ref 686]) #[]) ::
(nat_lit 688, Obj.mk (Value.type "tuple") none (Data.seq #[Value.str (Str.ofString "text") 1178, Value.str (Str.ofString "uint") 1179, Value.str (Str.ofString "octets") 1180]) #[]) ::
(nat_lit 689, Obj.mk (Value.type "tuple") none (Data.seq #[Value.str (Str.ofString "part") 1177, Value.ref 688]) #[]) ::
(nat_lit 690, Obj.mk (Value.type "tuple") none (Data.seq #[Value.ref 687, Value.ref 689]) #[]) ::
(nat_lit 691, Obj.mk (Value.type "tuple") none (Data.seq #[Value.str (Str.ofString "uint") 1183, Value.str (Str.ofString "uint") 1184]) #[]) ::
(nat_lit 692, Obj.mk (Value.type "tuple") none (Data.seq #[Value.str (Str.ofString "allowed") 1182, Value.ref 691]) #[]) ::
(nat_lit 693, Obj.mk (Value.type "tuple") none (Data.seq #[]) #[]) ::
(nat_lit 694, Obj.mk (Value.type "tuple") none (Data.seq #[Value.str (Str.ofString "refused") 1185, Value.ref 693]) #[]) ::
(nat_lit 695, Obj.mk (Value.type "tuple") none (Data.seq #[Value.str (Str.ofString "uint") 1187, Value.str (Str.ofString "octets") 1188]) #[]) ::
(nat_lit 696, Obj.mk (Value.type "tuple") none (Data.seq #[Value.str (Str.ofString "rows") 1186, Value.ref 695]) #[]) ::
(nat_lit 697, Obj.mk (Value.type "tuple") none (Data.seq #[Value.ref 692, Value.ref 694, Value.ref 696]) #[]) ::
(nat_lit 698, Obj.mk (Value.type "tuple") none (Data.seq #[Value.str (Str.ofString "uint") 1191]) #[]) ::
(nat_lit 699, Obj.mk (Value.type "tuple") none (Data.seq #[Value.str (Str.ofString "changed") 1190, Value.ref 698]) #[]) ::
(nat_lit 700, Obj.mk (Value.type "tuple") none (Data.seq #[]) #[]) ::
(nat_lit 701, Obj.mk (Value.type "tuple") none (Data.seq #[Value.str (Str.ofString "gone") 1192, Value.ref 700]) #[]) ::
(nat_lit 702, Obj.mk (Value.type "tuple") none (Data.seq #[Value.str (Str.ofString "uint") 1194, Value.str (Str.ofString "octets") 1195]) #[]) ::
(nat_lit 703, Obj.mk (Value.type "tuple") none (Data.seq #[Value.str (Str.ofString "part") 1193, Value.ref 702]) #[]) ::
(nat_lit 704, Obj.mk (Value.type "tuple") none (Data.seq #[Value.ref 699, Value.ref 701, Value.ref 703]) #[]) ::
(nat_lit 705, Obj.mk (Value.type "tuple") none (Data.seq #[]) #[]) ::
(nat_lit 706, Obj.mk (Value.type "tuple") none (Data.seq #[Value.str (Str.ofString "there") 1197, Value.ref 705]) #[]) ::
(nat_lit 707, Obj.mk (Value.type "tuple") none (Data.seq #[]) #[]) ::
(nat_lit 708, Obj.mk (Value.type "tuple") none (Data.seq #[Value.str (Str.ofString "gone") 1198, Value.ref 707]) #[]) ::
(nat_lit 709, Obj.mk (Value.type "tuple") none (Data.seq #[Value.ref 706, Value.ref 708]) #[]) ::
(nat_lit 710, Obj.mk (Value.type "tuple") none (Data.seq #[]) #[]) ::
(nat_lit 712, Obj.mk (Value.type "tuple") none (Data.seq #[Value.str (Str.ofString "number") 1217, Value.str (Str.ofString "interface") 1218, Value.str (Str.ofString "name") 1219, Value.str (Str.ofString "values") 1220, Value.str (Str.ofString "rows") 1221, Value.str (Str.ofString "opcode") 1222, Value.str (Str.ofString "kinds") 1223]) #[]) ::
(nat_lit 713, Obj.mk (Value.type "tuple") none (Data.seq #[]) #[]) ::
(nat_lit 715, Obj.mk (Value.type "code") none (Data.fields #[Value.str (Str.ofString "event_octets") 1214, Value.str (Str.ofString "event_octets") 1215, Value.str (Str.ofString "/claim/cut.py") 1216, Value.int 390 0, Value.int 4 0, Value.int 0 0, Value.int 0 0, Value.int 3 0, Value.ref 710, Value.bool true, Value.int 181 0, Value.ref 711, Value.none, Value.ref 712, Value.ref 713, Value.ref 714, Value.int 1224 0, Value.int 390 0, Value.str (Str.ofString "/claim/cut.py") 1225]) #[]) ::
(nat_lit 716, Obj.mk (Value.type "function") none (Data.func (FuncData.mk (Str.ofString "event_octets") (Str.ofString "event_octets") (defArgs (topS 62)) (.stmts (defBody (topS 62))) (defScope (topS 62)) 3 [] Value.none Value.none Value.none (Value.str (Str.ofString "sillwatch.objects.tables") 1077) none (Value.ref 715) Value.none 0)) #[]) ::
(nat_lit 717, Obj.mk (Value.type "tuple") none (Data.seq #[]) #[]) ::
(nat_lit 720, Obj.mk (Value.type "code") none (Data.fields #[Value.str (Str.ofString "_opcode_of") 1227, Value.str (Str.ofString "_opcode_of") 1228, Value.str (Str.ofString "/claim/cut.py") 1229, Value.int 395 0, Value.int 2 0, Value.int 0 0, Value.int 0 0, Value.int 3 0, Value.ref 717, Value.bool true, Value.int 181 0, Value.ref 718, Value.none, Value.none, Value.none, Value.ref 719, Value.int 1230 0, Value.int 395 0, Value.str (Str.ofString "/claim/cut.py") 1231]) #[]) ::
(nat_lit 721, Obj.mk (Value.type "function") none (Data.func (FuncData.mk (Str.ofString "_opcode_of") (Str.ofString "_opcode_of") (defArgs (topS 63)) (.stmts (defBody (topS 63))) (defScope (topS 63)) 3 [] Value.none Value.none Value.none (Value.str (Str.ofString "sillwatch.objects.tables") 1077) none (Value.ref 720) Value.none 0)) #[]) ::
(nat_lit 729, Obj.mk (Value.type "tuple") none (Data.seq #[]) #[]) ::
(nat_lit 731, Obj.mk (Value.type "tuple") none (Data.seq #[Value.str (Str.ofString "self") 1250]) #[]) ::
(nat_lit 732, Obj.mk (Value.type "tuple") none (Data.seq #[]) #[]) ::
(nat_lit 734, Obj.mk (Value.type "code") none (Data.fields #[Value.str (Str.ofString "__init__") 1247, Value.str (Str.ofString "Reply.__init__") 1248, Value.str (Str.ofString "/claim/cut.py") 1249, Value.int 400 0, Value.int 1 0, Value.int 0 0, Value.int 0 0, Value.int 3 0, Value.ref 729, Value.bool true, Value.int 181 0, Value.ref 730, Value.none, Value.ref 731, Value.ref 732, Value.ref 733, Value.int 1251 0, Value.int 400 0, Value.str (Str.ofString "/claim/cut.py") 1252]) #[]) ::
(nat_lit 735, Obj.mk (Value.type "function") none (Data.func (FuncData.mk (Str.ofString "__init__") (Str.ofString "Reply.__init__") (defArgs (inClass (topS 65) 0)) (.stmts (defBody (inClass (topS 65) 0))) (defScope (inClass (topS 65) 0)) 3 [] Value.none Value.none Value.none (Value.str (Str.ofString "sillwatch.objects.replies") 1233) none (Value.ref 734) Value.none 0)) #[]) ::
(nat_lit 736, Obj.mk (Value.type "tuple") none (Data.seq #[]) #[]) ::
(nat_lit 738, Obj.mk (Value.type "tuple") none (Data.seq #[Value.str (Str.ofString "self") 1257, Value.str (Str.ofString "number") 1258, Value.str (Str.ofString "interface") 1259, Value.str (Str.ofString "name") 1260, Value.str (Str.ofString "values") 1261]) #[]) ::
(nat_lit 739, Obj.mk (Value.type "tuple") none (Data.seq #[]) #[]) ::
(nat_lit 741, Obj.mk (Value.type "code") none (Data.fields #[Value.str (Str.ofString "tell") 1254, Value.str (Str.ofString "Reply.tell") 1255, Value.str (Str.ofString "/claim/cut.py") 1256, Value.int 406 0, Value.int 5 0, Value.int 0 0, Value.int 0 0, Value.int 3 0, Value.ref 736, Value.bool true, Value.int 181 0, Value.ref 737, Value.none, Value.ref 738, Value.ref 739, Value.ref 740, Value.int 1262 0, Value.int 406 0, Value.str (Str.ofString "/claim/cut.py") 1263]) #[]) ::
(nat_lit 742, Obj.mk (Value.type "function") none (Data.func (FuncData.mk (Str.ofString "tell") (Str.ofString "Reply.tell") (defArgs (inClass (topS 65) 1)) (.stmts (defBody (inClass (topS 65) 1))) (defScope (inClass (topS 65) 1)) 3 [] Value.none Value.none Value.none (Value.str (Str.ofString "sillwatch.objects.replies") 1233) none (Value.ref 741) Value.none 0)) #[]) ::
(nat_lit 743, Obj.mk (Value.type "tuple") none (Data.seq #[]) #[]) ::
(nat_lit 745, Obj.mk (Value.type "tuple") none (Data.seq #[Value.str (Str.ofString "self") 1268, Value.str (Str.ofString "number") 1269]) #[]) ::
(nat_lit 746, Obj.mk (Value.type "tuple") none (Data.seq #[]) #[]) ::
(nat_lit 748, Obj.mk (Value.type "code") none (Data.fields #[Value.str (Str.ofString "end") 1265, Value.str (Str.ofString "Reply.end") 1266, Value.str (Str.ofString "/claim/cut.py") 1267, Value.int 409 0, Value.int 2 0, Value.int 0 0, Value.int 0 0, Value.int 3 0, Value.ref 743, Value.bool true, Value.int 181 0, Value.ref 744, Value.none, Value.ref 745, Value.ref 746, Value.ref 747, Value.int 1270 0, Value.int 409 0, Value.str (Str.ofString "/claim/cut.py") 1271]) #[]) ::
(nat_lit 749, Obj.mk (Value.type "function") none (Data.func (FuncData.mk (Str.ofString "end") (Str.ofString "Reply.end") (defArgs (inClass (topS 65) 2)) (.stmts (defBody (inClass (topS 65) 2))) (defScope (inClass (topS 65) 2)) 3 [] Value.none Value.none Value.none (Value.str (Str.ofString "sillwatch.objects.replies") 1233) none (Value.ref 748) Value.none 0)) #[]) ::
(nat_lit 750, Obj.mk (Value.type "tuple") none (Data.seq #[]) #[]) ::
(nat_lit 752, Obj.mk (Value.type "tuple") none (Data.seq #[Value.str (Str.ofString "self") 1276, Value.str (Str.ofString "deed") 1277]) #[]) ::
(nat_lit 753, Obj.mk (Value.type "tuple") none (Data.seq #[]) #[]) ::
(nat_lit 755, Obj.mk (Value.type "code") none (Data.fields #[Value.str (Str.ofString "wish") 1273, Value.str (Str.ofString "Reply.wish") 1274, Value.str (Str.ofString "/claim/cut.py") 1275, Value.int 412 0, Value.int 2 0, Value.int 0 0, Value.int 0 0, Value.int 3 0, Value.ref 750, Value.bool true, Value.int 181 0, Value.ref 751, Value.none, Value.ref 752, Value.ref 753, Value.ref 754, Value.int 1278 0, Value.int 412 0, Value.str (Str.ofString "/claim/cut.py") 1279]) #[]) ::
(nat_lit 756, Obj.mk (Value.type "function") none (Data.func (FuncData.mk (Str.ofString "wish") (Str.ofString "Reply.wish") (defArgs (inClass (topS 65) 3)) (.stmts (defBody (inClass (topS 65) 3))) (defScope (inClass (topS 65) 3)) 3 [] Value.none Value.none Value.none (Value.str (Str.ofString "sillwatch.objects.replies") 1233) none (Value.ref 755) Value.none 0)) #[]) ::
(nat_lit 757, Obj.mk (Value.type "tuple") none (Data.seq #[Value.str (Str.ofString "applied") 1281, Value.str (Str.ofString "ended") 1282, Value.str (Str.ofString "told") 1283, Value.str (Str.ofString "wishes") 1284]) #[]) ::
(nat_lit 758, Obj.mk (Value.type "dict") none (Data.dict #[DictEntry.mk (PyData.keyHash PP (Str.ofString "__module__")) (Value.str (Str.ofString "__module__") 1242) (Value.str (Str.ofString "sillwatch.objects.replies") 1233), DictEntry.mk (PyData.keyHash PP (Str.ofString "__firstlineno__")) (Value.str (Str.ofString "__firstlineno__") 1246) (Value.int 398 1245), DictEntry.mk (PyData.keyHash PP (Str.ofString "__init__")) (Value.str (Str.ofString "__init__") 1253) (Value.ref 735), DictEntry.mk (PyData.keyHash PP (Str.ofString "tell")) (Value.str (Str.ofString "tell") 1264) (Value.ref 742), DictEntry.mk (PyData.keyHash PP (Str.ofString "end")) (Value.str (Str.ofString "end") 1272) (Value.ref 749), DictEntry.mk (PyData.keyHash PP (Str.ofString "wish")) (Value.str (Str.ofString "wish") 1280) (Value.ref 756), DictEntry.mk (PyData.keyHash PP (Str.ofString "__static_attributes__")) (Value.str (Str.ofString "__static_attributes__") 1285) (Value.ref 757), DictEntry.mk (PyData.keyHash PP (Str.ofString "__dict__")) (Value.str (Str.ofString "__dict__") 1287) (Value.ref 760), DictEntry.mk (PyData.keyHash PP (Str.ofString "__weakref__")) (Value.str (Str.ofString "__weakref__") 1289) (Value.ref 761), DictEntry.mk (PyData.keyHash PP (Str.ofString "__doc__")) (Value.str (Str.ofString "__doc__") 1290) Value.none] 4) #[]) ::
(nat_lit 759, Obj.mk (Value.type "type") none (Data.cls (ClassData.mk (Str.ofString "Reply") [Value.type "object"] [Value.ref 759, Value.type "object"] 758 (Str.ofString "Reply") true [] [] false none false)) #[none, none, some (Value.str (Str.ofString "Reply") 1235), some (Value.str (Str.ofString "Reply") 1243), some (Value.builtin "object.__new__"), some (Value.bool true)]) ::
(nat_lit 760, Obj.mk (Value.type "getset_descriptor") none (Data.fields #[Value.str (Str.ofString "__dict__") 1286, Value.ref 759, Value.builtin "function.__dict__", Value.builtin "function.__dict__#set"]) #[]) ::
(nat_lit 761, Obj.mk (Value.type "getset_descriptor") none (Data.fields #[Value.str (Str.ofString "__weakref__") 1288, Value.ref 759, Value.builtin "ExceptionGroup.__weakref__", Value.none]) #[]) ::
(nat_lit 771, Obj.mk (Value.type "tuple") none (Data.seq #[]) #[]) ::
(nat_lit 773, Obj.mk (Value.type "tuple") none (Data.seq #[Value.str (Str.ofString "self") 1310, Value.str (Str.ofString "number") 1311, Value.str (Str.ofString "interface") 1312, Value.str (Str.ofString "name") 1313, Value.str (Str.ofString "arguments") 1314, Value.str (Str.ofString "ends") 1315]) #[]) ::
(nat_lit 774, Obj.mk (Value.type "tuple") none (Data.seq #[]) #[]) ::
(nat_lit 776, Obj.mk (Value.type "code") none (Data.fields #[Value.str (Str.ofString "__init__") 1307, Value.str (Str.ofString "Request.__init__") 1308, Value.str (Str.ofString "/claim/cut.py") 1309, Value.int 417 0, Value.int 6 0, Value.int 0 0, Value.int 0 0, Value.int 3 0, Value.ref 771, Value.bool true, Value.int 181 0, Value.ref 772, Value.none, Value.ref 773, Value.ref 774, Value.ref 775, Value.int 1316 0, Value.int 417 0, Value.str (Str.ofString "/claim/cut.py") 1317]) #[]) ::
(nat_lit 777, Obj.mk (Value.type "function") none (Data.func (FuncData.mk (Str.ofString "__init__") (Str.ofString "Request.__init__") (defArgs (inClass (topS 67) 0)) (.stmts (defBody (inClass (topS 67) 0))) (defScope (inClass (topS 67) 0)) 3 [] Value.none Value.none Value.none (Value.str (Str.ofString "sillwatch.objects.requests") 1293) none (Value.ref 776) Value.none 0)) #[]) ::
(nat_lit 778, Obj.mk (Value.type "tuple") none (Data.seq #[Value.str (Str.ofString "arguments") 1319, Value.str (Str.ofString "ends") 1320, Value.str (Str.ofString "interface") 1321, Value.str (Str.ofString "name") 1322, Value.str (Str.ofString "number") 1323]) #[]) ::
(nat_lit 779, Obj.mk (Value.type "dict") none (Data.dict #[DictEntry.mk (PyData.keyHash PP (Str.ofString "__module__")) (Value.str (Str.ofString "__module__") 1302) (Value.str (Str.ofString "sillwatch.objects.requests") 1293), DictEntry.mk (PyData.keyHash PP (Str.ofString "__firstlineno__")) (Value.str (Str.ofString "__firstlineno__") 1306) (Value.int 415 1305), DictEntry.mk (PyData.keyHash PP (Str.ofString "__init__")) (Value.str (Str.ofString "__init__") 1318) (Value.ref 777), DictEntry.mk (PyData.keyHash PP (Str.ofString "__static_attributes__")) (Value.str (Str.ofString "__static_attributes__") 1324) (Value.ref 778), DictEntry.mk (PyData.keyHash PP (Str.ofString "__dict__")) (Value.str (Str.ofString "__dict__") 1326) (Value.ref 781), DictEntry.mk (PyData.keyHash PP (Str.ofString "__weakref__")) (Value.str (Str.ofString "__weakref__") 1328) (Value.ref 782), DictEntry.mk (PyData.keyHash PP (Str.ofString "__doc__")) (Value.str (Str.ofString "__doc__") 1329) Value.none] 4) #[]) ::
(nat_lit 780, Obj.mk (Value.type "type") none (Data.cls (ClassData.mk (Str.ofString "Request") [Value.type "object"] [Value.ref 780, Value.type "object"] 779 (Str.ofString "Request") true [] [] false none false)) #[none, none, some (Value.str (Str.ofString "Request") 1295), some (Value.str (Str.ofString "Request") 1303), some (Value.builtin "object.__new__"), some (Value.bool true)]) ::
(nat_lit 781, Obj.mk (Value.type "getset_descriptor") none (Data.fields #[Value.str (Str.ofString "__dict__") 1325, Value.ref 780, Value.builtin "function.__dict__", Value.builtin "function.__dict__#set"]) #[]) ::
(nat_lit 782, Obj.mk (Value.type "getset_descriptor") none (Data.fields #[Value.str (Str.ofString "__weakref__") 1327, Value.ref 780, Value.builtin "ExceptionGroup.__weakref__", Value.none]) #[]) ::
(nat_lit 785, Obj.mk (Value.type "tuple") none (Data.seq #[]) #[]) ::
(nat_lit 787, Obj.mk (Value.type "tuple") none (Data.seq #[Value.str (Str.ofString "script") 1337, Value.str (Str.ofString "k") 1338, Value.str (Str.ofString "cell") 1339]) #[]) ::
(nat_lit 788, Obj.mk (Value.type "tuple") none (Data.seq #[]) #[]) ::
(nat_lit 790, Obj.mk (Value.type "code") none (Data.fields #[Value.str (Str.ofString "_law_cell") 1334, Value.str (Str.ofString "_law_cell") 1335, Value.str (Str.ofString "/claim/cut.py") 1336, Value.int 424 0, Value.int 2 0, Value.int 0 0, Value.int 0 0, Value.int 3 0, Value.ref 785, Value.bool true, Value.int 181 0, Value.ref 786, Value.none, Value.ref 787, Value.ref 788, Value.ref 789, Value.int 1340 0, Value.int 424 0, Value.str (Str.ofString "/claim/cut.py") 1341]) #[]) ::
(nat_lit 791, Obj.mk (Value.type "function") none (Data.func (FuncData.mk (Str.ofString "_law_cell") (Str.ofString "_law_cell") (defArgs (topS 69)) (.stmts (defBody (topS 69))) (defScope (topS 69)) 3 [] Value.none Value.none Value.none (Value.str (Str.ofString "law_sillwatch_k61_sources") 1332) none (Value.ref 790) Value.none 0)) #[]) ::
(nat_lit 792, Obj.mk (Value.type "tuple") none (Data.seq #[]) #[]) ::
(nat_lit 794, Obj.mk (Value.type "tuple") none (Data.seq #[Value.str (Str.ofString "script") 1346, Value.str (Str.ofString "k") 1347, Value.str (Str.ofString "cell") 1348, Value.str (Str.ofString "one") 1349, Value.str (Str.ofString "two") 1350]) #[]) ::
(nat_lit 795, Obj.mk (Value.type "tuple") none (Data.seq #[]) #[]) ::
(nat_lit 797, Obj.mk (Value.type "code") none (Data.fields #[Value.str (Str.ofString "_law_row") 1343, Value.str (Str.ofString "_law_row") 1344, Value.str (Str.ofString "/claim/cut.py") 1345, Value.int 431 0, Value.int 2 0, Value.int 0 0, Value.int 0 0, Value.int 3 0, Value.ref 792, Value.bool true, Value.int 181 0, Value.ref 793, Value.none, Value.ref 794, Value.ref 795, Value.ref 796, Value.int 1351 0, Value.int 431 0, Value.str (Str.ofString "/claim/cut.py") 1352]) #[]) ::
(nat_lit 798, Obj.mk (Value.type "function") none (Data.func (FuncData.mk (Str.ofString "_law_row") (Str.ofString "_law_row") (defArgs (topS 70)) (.stmts (defBody (topS 70))) (defScope (topS 70)) 3 [] Value.none Value.none Value.none (Value.str (Str.ofString "law_sillwatch_k61_sources") 1332) none (Value.ref 797) Value.none 0)) #[]) ::
(nat_lit 799, Obj.mk (Value.type "tuple") none (Data.seq #[]) #[]) ::
(nat_lit 801, Obj.mk (Value.type "tuple") none (Data.seq #[Value.str (Str.ofString "holdings") 1357, Value.str (Str.ofString "row") 1358, Value.str (Str.ofString "grant") 1359, Value.str (Str.ofString "gripped") 1360, Value.str (Str.ofString "dragging") 1361, Value.str (Str.ofString "reply") 1362, Value.str (Str.ofString "request") 1363, Value.str (Str.ofString "e") 1364]) #[]) ::
(nat_lit 802, Obj.mk (Value.type "tuple") none (Data.seq #[]) #[]) ::
(nat_lit 804, Obj.mk (Value.type "code") none (Data.fields #[Value.str (Str.ofString "_law_serve") 1354, Value.str (Str.ofString "_law_serve") 1355, Value.str (Str.ofString "/claim/cut.py") 1356, Value.int 438 0, Value.int 5 0, Value.int 0 0, Value.int 0 0, Value.int 3 0, Value.ref 799, Value.bool true, Value.int 181 0, Value.ref 800, Value.none, Value.ref 801, Value.ref 802, Value.ref 803, Value.int 1365 0, Value.int 438 0, Value.str (Str.ofString "/claim/cut.py") 1366]) #[]) ::
(nat_lit 805, Obj.mk (Value.type "function") none (Data.func (FuncData.mk (Str.ofString "_law_serve") (Str.ofString "_law_serve") (defArgs (topS 71)) (.stmts (defBody (topS 71))) (defScope (topS 71)) 3 [] Value.none Value.none Value.none (Value.str (Str.ofString "law_sillwatch_k61_sources") 1332) none (Value.ref 804) Value.none 0)) #[]) ::
(nat_lit 806, Obj.mk (Value.type "tuple") none (Data.seq #[]) #[]) ::
(nat_lit 808, Obj.mk (Value.type "tuple") none (Data.seq #[Value.str (Str.ofString "row") 1371, Value.str (Str.ofString "kinds") 1372]) #[]) ::
(nat_lit 809, Obj.mk (Value.type "tuple") none (Data.seq #[]) #[]) ::
(nat_lit 811, Obj.mk (Value.type "code") none (Data.fields #[Value.str (Str.ofString "_law_kind") 1368, Value.str (Str.ofString "_law_kind") 1369, Value.str (Str.ofString "/claim/cut.py") 1370, Value.int 446 0, Value.int 1 0, Value.int 0 0, Value.int 0 0, Value.int 3 0, Value.ref 806, Value.bool true, Value.int 181 0, Value.ref 807, Value.none, Value.ref 808, Value.ref 809, Value.ref 810, Value.int 1373 0, Value.int 446 0, Value.str (Str.ofString "/claim/cut.py") 1374]) #[]) ::
(nat_lit 812, Obj.mk (Value.type "function") none (Data.func (FuncData.mk (Str.ofString "_law_kind") (Str.ofString "_law_kind") (defArgs (topS 72)) (.stmts (defBody (topS 72))) (defScope (topS 72)) 3 [] Value.none Value.none Value.none (Value.str (Str.ofString "law_sillwatch_k61_sources") 1332) none (Value.ref 811) Value.none 0)) #[]) ::
(nat_lit 813, Obj.mk (Value.type "tuple") none (Data.seq #[]) #[]) ::
(nat_lit 816, Obj.mk (Value.type "code") none (Data.fields #[Value.str (Str.ofString "_law_octets") 1376, Value.str (Str.ofString "_law_octets") 1377, Value.str (Str.ofString "/claim/cut.py") 1378, Value.int 451 0, Value.int 1 0, Value.int 0 0, Value.int 0 0, Value.int 3 0, Value.ref 813, Value.bool true, Value.int 181 0, Value.ref 814, Value.none, Value.none, Value.none, Value.ref 815, Value.int 1379 0, Value.int 451 0, Value.str (Str.ofString "/claim/cut.py") 1380]) #[]) ::
(nat_lit 817, Obj.mk (Value.type "function") none (Data.func (FuncData.mk (Str.ofString "_law_octets") (Str.ofString "_law_octets") (defArgs (topS 73)) (.stmts (defBody (topS 73))) (defScope (topS 73)) 3 [] Value.none Value.none Value.none (Value.str (Str.ofString "law_sillwatch_k61_sources") 1332) none (Value.ref 816) Value.none 0)) #[]) ::
(nat_lit 818, Obj.mk (Value.type "tuple") none (Data.seq #[]) #[]) ::
(nat_lit 821, Obj.mk (Value.type "code") none (Data.fields #[Value.str (Str.ofString "_law_total") 1382, Value.str (Str.ofString "_law_total") 1383, Value.str (Str.ofString "/claim/cut.py") 1384, Value.int 455 0, Value.int 1 0, Value.int 0 0, Value.int 0 0, Value.int 3 0, Value.ref 818, Value.bool true, Value.int 181 0, Value.ref 819, Value.none, Value.none, Value.none, Value.ref 820, Value.int 1385 0, Value.int 455 0, Value.str (Str.ofString "/claim/cut.py") 1386]) #[]) ::
(nat_lit 822, Obj.mk (Value.type "function") none (Data.func (FuncData.mk (Str.ofString "_law_total") (Str.ofString "_law_total") (defArgs (topS 74)) (.stmts (defBody (topS 74))) (defScope (topS 74)) 3 [] Value.none Value.none Value.none (Value.str (Str.ofString "law_sillwatch_k61_sources") 1332) none (Value.ref 821) Value.none 0)) #[]) ::
(nat_lit 823, Obj.mk (Value.type "tuple") none (Data.seq #[]) #[]) ::
(nat_lit 826, Obj.mk (Value.type "code") none (Data.fields #[Value.str (Str.ofString "_law_write") 1388, Value.str (Str.ofString "_law_write") 1389, Value.str (Str.ofString "/claim/cut.py") 1390, Value.int 457 0, Value.int 4 0, Value.int 0 0, Value.int 0 0, Value.int 3 0, Value.ref 823, Value.bool true, Value.int 181 0, Value.ref 824, Value.none, Value.none, Value.none, Value.ref 825, Value.int 1391 0, Value.int 457 0, Value.str (Str.ofString "/claim/cut.py") 1392]) #[]) ::
(nat_lit 827, Obj.mk (Value.type "function") none (Data.func (FuncData.mk (Str.ofString "_law_write") (Str.ofString "_law_write") (defArgs (topS 75)) (.stmts (defBody (topS 75))) (defScope (topS 75)) 3 [] Value.none Value.none Value.none (Value.str (Str.ofString "law_sillwatch_k61_sources") 1332) none (Value.ref 826) Value.none 0)) #[]) ::
(nat_lit 828, Obj.mk (Value.type "tuple") none (Data.seq #[]) #[]) ::
(nat_lit 831, Obj.mk (Value.type "code") none (Data.fields #[Value.str (Str.ofString "_law_goods") 1394, Value.str (Str.ofString "_law_goods") 1395, Value.str (Str.ofString "/claim/cut.py") 1396, Value.int 472 0, Value.int 2 0, Value.int 0 0, Value.int 0 0, Value.int 3 0, Value.ref 828, Value.bool true, Value.int 181 0, Value.ref 829, Value.none, Value.none, Value.none, Value.ref 830, Value.int 1397 0, Value.int 472 0, Value.str (Str.ofString "/claim/cut.py") 1398]) #[]) ::
(nat_lit 832, Obj.mk (Value.type "function") none (Data.func (FuncData.mk (Str.ofString "_law_goods") (Str.ofString "_law_goods") (defArgs (topS 76)) (.stmts (defBody (topS 76))) (defScope (topS 76)) 3 [] Value.none Value.none Value.none (Value.str (Str.ofString "law_sillwatch_k61_sources") 1332) none (Value.ref 831) Value.none 0)) #[]) ::
(nat_lit 833, Obj.mk (Value.type "tuple") none (Data.seq #[]) #[]) ::
(nat_lit 836, Obj.mk (Value.type "code") none (Data.fields #[Value.str (Str.ofString "_law_give") 1400, Value.str (Str.ofString "_law_give") 1401, Value.str (Str.ofString "/claim/cut.py") 1402, Value.int 477 0, Value.int 3 0, Value.int 0 0, Value.int 0 0, Value.int 3 0, Value.ref 833, Value.bool true, Value.int 181 0, Value.ref 834, Value.none, Value.none, Value.none, Value.ref 835, Value.int 1403 0, Value.int 477 0, Value.str (Str.ofString "/claim/cut.py") 1404]) #[]) ::
(nat_lit 837, Obj.mk (Value.type "function") none (Data.func (FuncData.mk (Str.ofString "_law_give") (Str.ofString "_law_give") (defArgs (topS 77)) (.stmts (defBody (topS 77))) (defScope (topS 77)) 3 [] Value.none Value.none Value.none (Value.str (Str.ofString "law_sillwatch_k61_sources") 1332) none (Value.ref 836) Value.none 0)) #[]) ::
(nat_lit 838, Obj.mk (Value.type "tuple") none (Data.seq #[]) #[]) ::
(nat_lit 841, Obj.mk (Value.type "code") none (Data.fields #[Value.str (Str.ofString "law") 1406, Value.str (Str.ofString "law") 1407, Value.str (Str.ofString "/claim/cut.py") 1408, Value.int 489 0, Value.int 1 0, Value.int 0 0, Value.int 0 0, Value.int 3 0, Value.ref 838, Value.bool true, Value.int 181 0, Value.ref 839, Value.none, Value.none, Value.none, Value.ref 840, Value.int 1409 0, Value.int 489 0, Value.str (Str.ofString "/claim/cut.py") 1410]) #[]) ::
(nat_lit 842, Obj.mk (Value.type "function") none (Data.func (FuncData.mk (Str.ofString "law") (Str.ofString "law") (defArgs (topS 78)) (.stmts (defBody (topS 78))) (defScope (topS 78)) 3 [] Value.none Value.none Value.none (Value.str (Str.ofString "law_sillwatch_k61_sources") 1332) none (Value.ref 841) Value.none 0)) #[]) :: []
def KA : List Addr := [2, 3, 15, 17, 18, 20, 21, 22, 29, 30, 31, 32, 35, 42, 43, 44, 47, 54, 55, 56, 59, 62, 67, 68, 70, 71, 73, 74, 75, 76, 77, 87, 89, 90, 92, 93, 94, 96, 97, 99, 100, 101, 103, 104, 106, 107, 108, 110, 111, 113, 114, 115, 117, 118, 120, 121, 122, 123, 124, 125, 126, 136, 138, 139, 141, 142, 143, 144, 145, 146, 147, 157, 159, 160, 162, 163, 164, 165, 166, 167, 168, 178, 180, 181, 183, 184, 185, 187, 188, 190, 191, 192, 194, 195, 197, 198, 199, 202, 203, 204, 206, 207, 209, 210, 211, 213, 214, 216, 217, 218, 220, 221, 223, 224, 225, 227, 228, 230, 231, 232, 233, 234, 235, 236, 239, 241, 242, 244, 245, 253, 255, 256, 258, 259, 260, 262, 263, 265, 266, 267, 269, 270, 272, 273, 274, 276, 277, 279, 280, 281, 283, 284, 286, 287, 288, 290, 291, 293, 294, 295, 297, 298, 300, 301, 302, 304, 305, 307, 308, 309, 311, 312, 314, 315, 316, 318, 319, 321, 322, 323, 324, 325, 326, 327, 337, 339, 340, 342, 343, 344, 345, 346, 347, 348, 358, 360, 361, 363, 364, 365, 367, 368, 370, 371, 372, 375, 376, 377, 379, 380, 382, 383, 384, 387, 388, 389, 391, 392, 394, 395, 396, 399, 400, 401, 402, 403, 404, 405, 415, 417, 418, 420, 421, 422, 424, 425, 427, 428, 429, 431, 432, 434, 435, 436, 438, 439, 441, 442, 443, 445, 446, 448, 449, 450, 452, 453, 455, 456, 457, 459, 460, 462, 463, 464, 466, 467, 469, 470, 471, 473, 474, 476, 477, 478, 480, 481, 483, 484, 485, 487, 488, 490, 491, 492, 494, 495, 497, 498, 499, 501, 502, 504, 505, 506, 508, 509, 511, 512, 513, 515, 516, 518, 519, 520, 522, 523, 525, 526, 527, 529, 530, 532, 533, 534, 536, 537, 539, 540, 541, 542, 543, 544, 545, 548, 550, 551, 553, 554, 555, 558, 559, 560, 563, 564, 565, 567, 568, 570, 571, 572, 574, 575, 577, 578, 579, 581, 582, 584, 585, 586, 589, 590, 591, 593, 594, 596, 597, 598, 601, 602, 603, 605, 606, 608, 609, 610, 612, 613, 615, 616, 617, 618, 619, 620, 621, 622, 623, 624, 625, 626, 627, 628, 629, 630, 631, 632, 633, 634, 635, 636, 637, 638, 639, 640, 641, 642, 643, 644, 645, 646, 647, 648, 649, 650, 651, 652, 653, 654, 655, 656, 657, 658, 659, 660, 661, 662, 663, 664, 665, 666, 667, 668, 669, 670, 671, 672, 673, 674, 675, 676, 677, 678, 679, 680, 681, 682, 683, 684, 685, 686, 687, 688, 689, 690, 691, 692, 693, 694, 695, 696, 697, 698, 699, 700, 701, 702, 703, 704, 705, 706, 707, 708, 709, 710, 712, 713, 715, 716, 717, 720, 721, 729, 731, 732, 734, 735, 736, 738, 739, 741, 742, 743, 745, 746, 748, 749, 750, 752, 753, 755, 756, 757, 758, 759, 760, 761, 771, 773, 774, 776, 777, 778, 779, 780, 781, 782, 785, 787, 788, 790, 791, 792, 794, 795, 797, 798, 799, 801, 802, 804, 805, 806, 808, 809, 811, 812, 813, 816, 817, 818, 821, 822, 823, 826, 827, 828, 831, 832, 833, 836, 837, 838, 841, 842]
abbrev RR : PySem.W.OpenRow := PySem.W.OpenLaw.row PySem.Challenge.rw_sillwatch_k61_sources
def qv : Program := PySem.W.view RR.prog [78]
def looseN : List Str := ([Str.ofString "_wall", Str.ofString "DisplayError", Str.ofString "BadMessage", Str.ofString "MessageTooLong", Str.ofString "Fault", Str.ofString "LONGEST_SIDE", Str.ofString "MOST_PIXELS", Str.ofString "MOST_CAPTURES", Str.ofString "MOST_READ_captures", Str.ofString "Captures", Str.ofString "LONGEST_TEXT_fetches", Str.ofString "MOST_FETCHES", Str.ofString "MOST_WATCHES", Str.ofString "MOST_READ_fetches", Str.ofString "Fetch", Str.ofString "Watch", Str.ofString "Fetches", Str.ofString "_check_new", Str.ofString "MOST_READ_offers", Str.ofString "Offers", Str.ofString "MOST_SOURCES", Str.ofString "MOST_KINDS", Str.ofString "MOST_OCTETS_sources", Str.ofString "LONGEST_TEXT_sources", Str.ofString "Source", Str.ofString "Sources", Str.ofString "MOST_SENT_OCTETS", Str.ofString "MOST_SENT_NAMES", Str.ofString "Holdings", Str.ofString "GREATEST_NUMBER", Str.ofString "LEAST_INT", Str.ofString "GREATEST_INT", Str.ofString "LONGEST_TEXT_fields", Str.ofString "MOST_OCTETS_fields", Str.ofString "_FIRST_CODE", Str.ofString "_LAST_CODE", Str.ofString "_PERCENT_CODE", Str.ofString "is_integer", Str.ofString "is_text", Str.ofString "number_octets"] : List Str) ++ ([Str.ofString "field_octets", Str.ofString "_is_code", Str.ofString "_is_of", Str.ofString "_are_octets", Str.ofString "_is_bound", Str.ofString "_text_octets", Str.ofString "_padded", Str.ofString "HEADER_SIZE", Str.ofString "GREATEST_SIZE", Str.ofString "GREATEST_OPCODE", Str.ofString "MOST_ARGUMENTS", Str.ofString "encode_message", Str.ofString "_EVENTS", Str.ofString "event_octets", Str.ofString "_opcode_of", Str.ofString "Reply", Str.ofString "Request", Str.ofString "_law_cell", Str.ofString "_law_row", Str.ofString "_law_serve", Str.ofString "_law_kind", Str.ofString "_law_octets", Str.ofString "_law_total", Str.ofString "_law_write", Str.ofString "_law_goods", Str.ofString "_law_give"] : List Str)
theorem kae : ∀ P : Params, KA = (KF P).map (·.1) := fun _ => by kernel_rfl
def hkK : PySem.W.Hook := PySem.W.kHook KF KA kae
def obK (s : PySem.W.SharedT) : List (Option Obj) := KA.map (HandSHeadRun.getT s)
theorem obK_eq (s : PySem.W.SharedT) : obK s = hkK.obs s.abs := List.map_congr_left fun a _ => HandSHeadRun.getT_eq s a
theorem map3 {α β γ δ : Type} {o : Option α} {a : α → β} {b : α → γ} {c : α → δ} {x : β} {y : γ} {z : δ} (h1 : o.map (fun s => (a s, c s)) = some (x, z)) (h2 : o.map b = some y) : o.map (fun s => (a s, b s, c s)) = some (x, y, z) := by
  cases o with
  | none => cases h1
  | some s => cases h1; cases h2; rfl
abbrev LkP (w : World) : Prop := ∀ os : OsState, (HandSHeadRun.endF (HandSHeadRun.stepQ (HandSHeadRun.denQ HandSHeadRun.tabQ) RR.prog w) 13252 RR.prog w os).map (fun s => (HandSHeadRun.looksF RR.prog (PySem.W.boot_heap w.params) s.abs, obK s)) = some ((true, hkK.val w))
set_option maxHeartbeats 0 in
theorem falseLk (w : World) : LkP (w.withFollow "special-get-raises" false) := by intro os; kernel_rfl
set_option maxHeartbeats 0 in
theorem trueLk (w : World) : LkP (w.withFollow "special-get-raises" true) := by intro os; kernel_rfl
theorem allLk (w : World) : LkP w := PySem.W.byRow2 "special-get-raises" falseLk trueLk w
abbrev SaP (w : World) : Prop := ∀ os : OsState, (HandSHeadRun.endF (HandSHeadRun.stepQ (HandSHeadRun.denQ HandSHeadRun.tabQ) RR.prog w) 13252 RR.prog w os).map (fun s => HandSHeadRun.seenQ qv looseN (importedModules RR.prog.main.body) (fun s => PySem.W.xlAt qv [] s && PySem.W.recOk RR.toRowW.records s) s.abs) = some (PySem.W.openGood qv looseN)
set_option maxHeartbeats 0 in
theorem falseSa (w : World) : SaP (w.withFollow "special-get-raises" false) := by intro os; kernel_rfl
set_option maxHeartbeats 0 in
theorem trueSa (w : World) : SaP (w.withFollow "special-get-raises" true) := by intro os; kernel_rfl
theorem allSa (w : World) : SaP w := PySem.W.byRow2 "special-get-raises" falseSa trueSa w
theorem runK (w : World) : HandSHeadRun.RunEq RR qv hkK obK 13252 looseN w := fun os => map3 (allLk w os) (allSa w os)
end My
open PySem PySem.W PyProof.Rows
set_option maxRecDepth 100000 in
set_option maxHeartbeats 0 in
theorem PySem.Challenge.cw_sillwatch_k61_sources_holds : PySem.Challenge.rw_sillwatch_k61_sources.Holds := by
  w_on; o_law
  refine HandSHeadRun.head_any (r := PySem.W.OpenLaw.row PySem.Challenge.rw_sillwatch_k61_sources) (q := My.qv) (H := PySem.W.kHook My.KF My.KA My.kae) (ob := My.obK) (M := _) (loose := My.looseN) (kwd := []) My.obK_eq (by kernel_rfl) (fun s => by kernel_rfl) My.runK (by rfl) (by rfl) (by rfl) (by rfl) (by first | assumption | decide +kernel) (by decide +kernel) ⟨rfl, rfl, rfl, rfl, rfl, by decide +kernel⟩ ?hw ?hc
  (case hw => w_witness2)
  k_fill
  refine My.walk (l := PySem.Challenge.rw_sillwatch_k61_sources) rfl rfl (fun w h Y => PySem.W.kIn_of Y) ?F
  case F =>
    intro w mg fa h KX G hmg
    refine' My.all_mk (P := PySem.Challenge.rw_sillwatch_k61_sources.prog) ⟨by first | rfl | decide +kernel, by first | rfl | decide +kernel⟩ KX G hmg ?a1 ?l1 ?c1 ?k1 ?a2 ?l2 ?c2 ?k2 ?a3 ?l3 ?c3 ?k3 ?a4 ?l4 ?c4 ?k4 ?a5 ?l5 ?c5 ?k5 ?a6 ?l6 ?c6 ?k6 ?a7 ?l7 ?c7 ?k7 ?a8 ?l8 ?c8 ?k8 ?a9 ?l9 ?c9 ?k9 ?a10 ?l10 ?c10 ?k10 ?a11 ?l11 ?c11 ?k11 ?a12 ?l12 ?c12 ?k12 ?a13 ?l13 ?c13 ?k13 ?a14 ?l14 ?c14 ?k14 ?a15 ?l15 ?c15 ?k15 ?a16 ?l16 ?c16 ?k16 ?a17 ?l17 ?c17 ?k17 ?a18 ?l18 ?c18 ?k18 ?a19 ?l19 ?c19 ?k19 ?a20 ?l20 ?c20 ?k20 ?a21 ?l21 ?c21 ?k21 ?a22 ?l22 ?c22 ?k22 ?a23 ?l23 ?c23 ?k23 ?a24 ?l24 ?c24 ?k24 ?a25 ?i25 ?l25 ?c25 ?k25 ?lc25 ?ld25 ?rv25 ?lD25 ?ty25 ?a26 ?i26 ?l26 ?c26 ?k26 ?a27 ?i27 ?l27 ?c27 ?k27 ?a28 ?i28 ?l28 ?c28 ?k28 ?a29 ?i29 ?l29 ?c29 ?k29 ?a30 ?i30 ?l30 ?c30 ?k30 ?a31 ?i31 ?l31 ?c31 ?k31 ?a32 ?i32 ?l32 ?c32 ?k32 ?a33 ?i33 ?l33 ?c33 ?k33 ?a34 ?i34 ?l34 ?c34 ?k34 ?a35 ?i35 ?l35 ?c35 ?k35 ?a36 ?i36 ?l36 ?c36 ?k36 ?a37 ?i37 ?l37 ?c37 ?k37 ?a38 ?i38 ?l38 ?c38 ?k38 ?a39 ?i39 ?l39 ?c39 ?k39 ?a40 ?i40 ?l40 ?c40 ?k40 ?a41 ?i41 ?l41 ?c41 ?k41 ?a42 ?i42 ?l42 ?c42 ?k42 ?a43 ?i43 ?l43 ?c43 ?k43 ?a44 ?i44 ?l44 ?c44 ?k44 ?a45 ?i45 ?l45 ?c45 ?k45 ?a46 ?i46 ?l46 ?c46 ?k46 ?a47 ?i47 ?l47 ?c47 ?k47 ?a48 ?i48 ?l48 ?c48 ?k48 ?a49 ?i49 ?l49 ?c49 ?k49 ?a50 ?i50 ?l50 ?c50 ?k50 ?a51 ?i51 ?l51 ?c51 ?k51 ?a52 ?i52 ?l52 ?c52 ?k52 ?a53 ?i53 ?l53 ?c53 ?k53 ?a54 ?i54 ?l54 ?c54 ?k54 ?a55 ?i55 ?l55 ?c55 ?k55 ?a56 ?i56 ?l56 ?c56 ?k56 ?a57 ?i57 ?l57 ?c57 ?k57 ?a58 ?i58 ?l58 ?c58 ?k58 ?z_all ?z_bool ?z_int ?z_isinstance ?z_len ?z_list ?z_max ?z_min ?z_ord ?z_range ?z_str ?z_sum ?z_super ?z_tuple ?z_zip ?q_LONGEST_SIDE ?q_MOST_PIXELS ?q_MOST_CAPTURES ?q_MOST_READ_captures ?q_LONGEST_TEXT_fetches ?q_MOST_FETCHES ?q_MOST_WATCHES ?q_MOST_READ_fetches ?q_MOST_READ_offers ?q_MOST_SOURCES ?q_MOST_KINDS ?q_MOST_OCTETS_sources ?q_LONGEST_TEXT_sources ?q_MOST_SENT_OCTETS ?q_MOST_SENT_NAMES ?q_GREATEST_NUMBER ?q_LEAST_INT ?q_GREATEST_INT ?q_LONGEST_TEXT_fields ?q_MOST_OCTETS_fields ?q__FIRST_CODE ?q__LAST_CODE ?q__PERCENT_CODE ?q_HEADER_SIZE ?q_GREATEST_SIZE ?q_GREATEST_OPCODE ?q_MOST_ARGUMENTS ?q__EVENTS ?uCaptures ?pgCaptures ?hdCaptures ?poCaptures ?saCaptures ?mkCaptures ?kcCaptures ?nCaptures__pictures ?uFetch ?pgFetch ?hdFetch ?poFetch ?saFetch ?mkFetch ?kcFetch ?nFetch_name ?nFetch_octets ?uWatch ?pgWatch ?hdWatch ?poWatch ?saWatch ?mkWatch ?kcWatch ?nWatch_label ?nWatch_told ?uFetches ?pgFetches ?hdFetches ?poFetches ?saFetches ?mkFetches ?kcFetches ?nFetches__fetches ?nFetches__watches ?uOffers ?pgOffers ?hdOffers ?poOffers ?saOffers ?mkOffers ?kcOffers ?nOffers__transfers ?nOffers__kept ?nOffers__is_hovered ?uSource ?pgSource ?hdSource ?poSource ?saSource ?mkSource ?kcSource ?nSource_pieces ?nSource_is_used ?uSources ?pgSources ?hdSources ?poSources ?saSources ?mkSources ?kcSources ?nSources__sources ?uHoldings ?pgHoldings ?hdHoldings ?poHoldings ?saHoldings ?mkHoldings ?kcHoldings ?nHoldings__sources ?nHoldings__offers ?nHoldings__captures ?nHoldings__fetches ?nHoldings__sent_names ?uReply ?pgReply ?hdReply ?poReply ?saReply ?mkReply ?kcReply ?nReply_told ?nReply_ended ?nReply_wishes ?nReply_applied ?uRequest ?pgRequest ?hdRequest ?poRequest ?saRequest ?mkRequest ?kcRequest ?nRequest_number ?nRequest_interface ?nRequest_name ?nRequest_arguments ?nRequest_ends ?uBadMessage ?xBadMessage ?keBadMessage ?bxBadMessage ?txBadMessage ?ixBadMessage ?sxBadMessage ?uMessageTooLong ?xMessageTooLong ?keMessageTooLong ?bxMessageTooLong ?txMessageTooLong ?ixMessageTooLong ?sxMessageTooLong ?uFault ?loFault ?rmFault ?keFault ?bxFault ?txFault ?ixFault ?sxFault ?saFault ?mrFault ?ksFault ?veFault ?tpFault ?gaFault ?gtFault ?hxFault ?fcFault ?moFault ?sgFault ?tkFault ?nFault_number ?nFault_code ?nFault_words
    (case uCaptures => k_is)
    (case uFetch => k_is)
    (case uWatch => k_is)
    (case uFetches => k_is)
    (case uOffers => k_is)
    (case uSource => k_is)
    (case uSources => k_is)
    (case uHoldings => k_is)
    (case uReply => k_is)
    (case uRequest => k_is)
    (case uBadMessage => k_is)
    (case uMessageTooLong => k_is)
    (case uFault => k_is)
    (case a1 => k_is)
    (case l1 => k_is)
    (case c1 => k_is)
    (case k1 => k_is)
    (case a2 => k_is)
    (case l2 => k_is)
    (case c2 => k_is)
    (case k2 => k_is)
    (case a3 => k_is)
    (case l3 => k_is)
    (case c3 => k_is)
    (case k3 => k_is)
    (case a4 => k_is)
    (case l4 => k_is)
    (case c4 => k_is)
    (case k4 => k_is)
    (case a5 => k_is)
    (case l5 => k_is)
    (case c5 => k_is)
    (case k5 => k_is)
    (case a6 => k_is)
    (case l6 => k_is)
    (case c6 => k_is)
    (case k6 => k_is)
    (case a7 => k_is)
    (case l7 => k_is)
    (case c7 => k_is)
    (case k7 => k_is)
    (case a8 => k_is)
    (case l8 => k_is)
    (case c8 => k_is)
    (case k8 => k_is)
    (case a9 => k_is)
    (case l9 => k_is)
    (case c9 => k_is)
    (case k9 => k_is)
    (case a10 => k_is)
    (case l10 => k_is)
    (case c10 => k_is)
    (case k10 => k_is)
    (case a11 => k_is)
    (case l11 => k_is)
    (case c11 => k_is)
    (case k11 => k_is)
    (case a12 => k_is)
    (case l12 => k_is)
    (case c12 => k_is)
    (case k12 => k_is)
    (case a13 => k_is)
    (case l13 => k_is)
    (case c13 => k_is)
    (case k13 => k_is)
    (case a14 => k_is)
    (case l14 => k_is)
    (case c14 => k_is)
    (case k14 => k_is)
    (case a15 => k_is)
    (case l15 => k_is)
    (case c15 => k_is)
    (case k15 => k_is)
    (case a16 => k_is)
    (case l16 => k_is)
    (case c16 => k_is)
    (case k16 => k_is)
    (case a17 => k_is)
    (case l17 => k_is)
    (case c17 => k_is)
    (case k17 => k_is)
    (case a18 => k_is)
    (case l18 => k_is)
    (case c18 => k_is)
    (case k18 => k_is)
    (case a19 => k_is)
    (case l19 => k_is)
    (case c19 => k_is)
    (case k19 => k_is)
    (case a20 => k_is)
    (case l20 => k_is)
    (case c20 => k_is)
    (case k20 => k_is)
    (case a21 => k_is)
    (case l21 => k_is)
    (case c21 => k_is)
    (case k21 => k_is)
    (case a22 => k_is)
    (case l22 => k_is)
    (case c22 => k_is)
    (case k22 => k_is)
    (case a23 => k_is)
    (case l23 => k_is)
    (case c23 => k_is)
    (case k23 => k_is)
    (case a24 => k_is)
    (case l24 => k_is)
    (case c24 => k_is)
    (case k24 => k_is)
    (case a25 => k_is)
    (case i25 => k_is)
    (case l25 => k_is)
    (case c25 => k_is)
    (case k25 => k_is)
    (case lc25 => k_is)
    (case ld25 => k_is)
    (case rv25 => first | rfl | decide +kernel)
    (case lD25 => k_is)
    (case ty25 => k_is)
    (case a26 => k_is)
    (case i26 => k_is)
    (case l26 => k_is)
    (case c26 => k_is)
    (case k26 => k_is)
    (case a27 => k_is)
    (case i27 => k_is)
    (case l27 => k_is)
    (case c27 => k_is)
    (case k27 => k_is)
    (case a28 => k_is)
    (case i28 => k_is)
    (case l28 => k_is)
    (case c28 => k_is)
    (case k28 => k_is)
    (case a29 => k_is)
    (case i29 => k_is)
    (case l29 => k_is)
    (case c29 => k_is)
    (case k29 => k_is)
    (case a30 => k_is)
    (case i30 => k_is)
    (case l30 => k_is)
    (case c30 => k_is)
    (case k30 => k_is)
    (case a31 => k_is)
    (case i31 => k_is)
    (case l31 => k_is)
    (case c31 => k_is)
    (case k31 => k_is)
    (case a32 => k_is)
    (case i32 => k_is)
    (case l32 => k_is)
    (case c32 => k_is)
    (case k32 => k_is)
    (case a33 => k_is)
    (case i33 => k_is)
    (case l33 => k_is)
    (case c33 => k_is)
    (case k33 => k_is)
    (case a34 => k_is)
    (case i34 => k_is)
    (case l34 => k_is)
    (case c34 => k_is)
    (case k34 => k_is)
    (case a35 => k_is)
    (case i35 => k_is)
    (case l35 => k_is)
    (case c35 => k_is)
    (case k35 => k_is)
    (case a36 => k_is)
    (case i36 => k_is)
    (case l36 => k_is)
    (case c36 => k_is)
    (case k36 => k_is)
    (case a37 => k_is)
    (case i37 => k_is)
    (case l37 => k_is)
    (case c37 => k_is)
    (case k37 => k_is)
    (case a38 => k_is)
    (case i38 => k_is)
    (case l38 => k_is)
    (case c38 => k_is)
    (case k38 => k_is)
    (case a39 => k_is)
    (case i39 => k_is)
    (case l39 => k_is)
    (case c39 => k_is)
    (case k39 => k_is)
    (case a40 => k_is)
    (case i40 => k_is)
    (case l40 => k_is)
    (case c40 => k_is)
    (case k40 => k_is)
    (case a41 => k_is)
    (case i41 => k_is)
    (case l41 => k_is)
    (case c41 => k_is)
    (case k41 => k_is)
    (case a42 => k_is)
    (case i42 => k_is)
    (case l42 => k_is)
    (case c42 => k_is)
    (case k42 => k_is)
    (case a43 => k_is)
    (case i43 => k_is)
    (case l43 => k_is)
    (case c43 => k_is)
    (case k43 => k_is)
    (case a44 => k_is)
    (case i44 => k_is)
    (case l44 => k_is)
    (case c44 => k_is)
    (case k44 => k_is)
    (case a45 => k_is)
    (case i45 => k_is)
    (case l45 => k_is)
    (case c45 => k_is)
    (case k45 => k_is)
    (case a46 => k_is)
    (case i46 => k_is)
    (case l46 => k_is)
    (case c46 => k_is)
    (case k46 => k_is)
    (case a47 => k_is)
    (case i47 => k_is)
    (case l47 => k_is)
    (case c47 => k_is)
    (case k47 => k_is)
    (case a48 => k_is)
    (case i48 => k_is)
    (case l48 => k_is)
    (case c48 => k_is)
    (case k48 => k_is)
    (case a49 => k_is)
    (case i49 => k_is)
    (case l49 => k_is)
    (case c49 => k_is)
    (case k49 => k_is)
    (case a50 => k_is)
    (case i50 => k_is)
    (case l50 => k_is)
    (case c50 => k_is)
    (case k50 => k_is)
    (case a51 => k_is)
    (case i51 => k_is)
    (case l51 => k_is)
    (case c51 => k_is)
    (case k51 => k_is)
    (case a52 => k_is)
    (case i52 => k_is)
    (case l52 => k_is)
    (case c52 => k_is)
    (case k52 => k_is)
    (case a53 => k_is)
    (case i53 => k_is)
    (case l53 => k_is)
    (case c53 => k_is)
    (case k53 => k_is)
    (case a54 => k_is)
    (case i54 => k_is)
    (case l54 => k_is)
    (case c54 => k_is)
    (case k54 => k_is)
    (case a55 => k_is)
    (case i55 => k_is)
    (case l55 => k_is)
    (case c55 => k_is)
    (case k55 => k_is)
    (case a56 => k_is)
    (case i56 => k_is)
    (case l56 => k_is)
    (case c56 => k_is)
    (case k56 => k_is)
    (case a57 => k_is)
    (case i57 => k_is)
    (case l57 => k_is)
    (case c57 => k_is)
    (case k57 => k_is)
    (case a58 => k_is)
    (case i58 => k_is)
    (case l58 => k_is)
    (case c58 => k_is)
    (case k58 => k_is)
    (case z_all => k_is)
    (case z_bool => k_is)
    (case z_int => k_is)
    (case z_isinstance => k_is)
    (case z_len => k_is)
    (case z_list => k_is)
    (case z_max => k_is)
    (case z_min => k_is)
    (case z_ord => k_is)
    (case z_range => k_is)
    (case z_str => k_is)
    (case z_sum => k_is)
    (case z_super => k_is)
    (case z_tuple => k_is)
    (case z_zip => k_is)
    (case q_LONGEST_SIDE => k_is)
    (case q_MOST_PIXELS => k_is)
    (case q_MOST_CAPTURES => k_is)
    (case q_MOST_READ_captures => k_is)
    (case q_LONGEST_TEXT_fetches => k_is)
    (case q_MOST_FETCHES => k_is)
    (case q_MOST_WATCHES => k_is)
    (case q_MOST_READ_fetches => k_is)
    (case q_MOST_READ_offers => k_is)
    (case q_MOST_SOURCES => k_is)
    (case q_MOST_KINDS => k_is)
    (case q_MOST_OCTETS_sources => k_is)
    (case q_LONGEST_TEXT_sources => k_is)
    (case q_MOST_SENT_OCTETS => k_is)
    (case q_MOST_SENT_NAMES => k_is)
    (case q_GREATEST_NUMBER => k_is)
    (case q_LEAST_INT => k_is)
    (case q_GREATEST_INT => k_is)
    (case q_LONGEST_TEXT_fields => k_is)
    (case q_MOST_OCTETS_fields => k_is)
    (case q__FIRST_CODE => k_is)
    (case q__LAST_CODE => k_is)
    (case q__PERCENT_CODE => k_is)
    (case q_HEADER_SIZE => k_is)
    (case q_GREATEST_SIZE => k_is)
    (case q_GREATEST_OPCODE => k_is)
    (case q_MOST_ARGUMENTS => k_is)
    (case q__EVENTS => k_is)
    (case pgCaptures => k_is)
    (case hdCaptures => k_is)
    (case poCaptures => k_is)
    (case saCaptures => k_is)
    (case mkCaptures => k_is)
    (case kcCaptures => k_is)
    (case nCaptures__pictures => k_is)
    (case pgFetch => k_is)
    (case hdFetch => k_is)
    (case poFetch => k_is)
    (case saFetch => k_is)
    (case mkFetch => k_is)
    (case kcFetch => k_is)
    (case nFetch_name => k_is)
    (case nFetch_octets => k_is)
    (case pgWatch => k_is)
    (case hdWatch => k_is)
    (case poWatch => k_is)
    (case saWatch => k_is)
    (case mkWatch => k_is)
    (case kcWatch => k_is)
    (case nWatch_label => k_is)
    (case nWatch_told => k_is)
    (case pgFetches => k_is)
    (case hdFetches => k_is)
    (case poFetches => k_is)
    (case saFetches => k_is)
    (case mkFetches => k_is)
    (case kcFetches => k_is)
    (case nFetches__fetches => k_is)
    (case nFetches__watches => k_is)
    (case pgOffers => k_is)
    (case hdOffers => k_is)
    (case poOffers => k_is)
    (case saOffers => k_is)
    (case mkOffers => k_is)
    (case kcOffers => k_is)
    (case nOffers__transfers => k_is)
    (case nOffers__kept => k_is)
    (case nOffers__is_hovered => k_is)
    (case pgSource => k_is)
    (case hdSource => k_is)
    (case poSource => k_is)
    (case saSource => k_is)
    (case mkSource => k_is)
    (case kcSource => k_is)
    (case nSource_pieces => k_is)
    (case nSource_is_used => k_is)
    (case pgSources => k_is)
    (case hdSources => k_is)
    (case poSources => k_is)
    (case saSources => k_is)
    (case mkSources => k_is)
    (case kcSources => k_is)
    (case nSources__sources => k_is)
    (case pgHoldings => k_is)
    (case hdHoldings => k_is)
    (case poHoldings => k_is)
    (case saHoldings => k_is)
    (case mkHoldings => k_is)
    (case kcHoldings => k_is)
    (case nHoldings__sources => k_is)
    (case nHoldings__offers => k_is)
    (case nHoldings__captures => k_is)
    (case nHoldings__fetches => k_is)
    (case nHoldings__sent_names => k_is)
    (case pgReply => k_is)
    (case hdReply => k_is)
    (case poReply => k_is)
    (case saReply => k_is)
    (case mkReply => k_is)
    (case kcReply => k_is)
    (case nReply_told => k_is)
    (case nReply_ended => k_is)
    (case nReply_wishes => k_is)
    (case nReply_applied => k_is)
    (case pgRequest => k_is)
    (case hdRequest => k_is)
    (case poRequest => k_is)
    (case saRequest => k_is)
    (case mkRequest => k_is)
    (case kcRequest => k_is)
    (case nRequest_number => k_is)
    (case nRequest_interface => k_is)
    (case nRequest_name => k_is)
    (case nRequest_arguments => k_is)
    (case nRequest_ends => k_is)
    (case xBadMessage => k_exc)
    (case keBadMessage => k_is)
    (case bxBadMessage => k_is)
    (case txBadMessage => k_is)
    (case ixBadMessage => k_is)
    (case sxBadMessage => first | rfl | k_is)
    (case xMessageTooLong => k_exc)
    (case keMessageTooLong => k_is)
    (case bxMessageTooLong => k_is)
    (case txMessageTooLong => k_is)
    (case ixMessageTooLong => k_is)
    (case sxMessageTooLong => first | rfl | k_is)
    (case loFault => k_is)
    (case rmFault => first | rfl | decide +kernel)
    (case keFault => k_is)
    (case bxFault => k_is)
    (case txFault => k_is)
    (case ixFault => k_is)
    (case sxFault => first | rfl | k_is)
    (case saFault => k_is)
    (case mrFault => k_is)
    (case ksFault => ks_is)
    (case veFault => k_is)
    (case tpFault => k_is)
    (case gaFault => k_is)
    (case gtFault => k_is)
    (case hxFault => k_is)
    (case fcFault => k_is)
    (case moFault => k_is)
    (case sgFault => k_is)
    (case tkFault => k_is)
    (case nFault_number => k_is)
    (case nFault_code => k_is)
    (case nFault_words => k_is)
