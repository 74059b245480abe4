import PyProof.Rows.All
import Wide.All
import OpenK.AllK
import Wide.FinOn
import HandS.ForMost
import HandS.Exc
import HandS.TryOnly
import HandS.ExcOwn
import HandS.WordsExc
import HandS.IsInst
import HandS.Wide
import HandS.Flow
import HandS.More
import HandS.Codes
import HandS.Walk
import HandS.TupLe
import HandS.WordsDict
import HandS.Conv
import HandS.TryMany
import HandS.ExcIs
import KE.KBits
import HandS.CallLocal
import HandS.Strs
import HandS.SetFor
import HandS.Set
import HandS.Property
import KE.GoesMore
import KE.KTurns
import KE.KDictZip
import HandS.Keys
import HandS.Remove
import HandS.NoneIn
import HandS.Deep
import KE.KExcSuper
import KE.RegKSuper
import KE.KExcIs
import HandS.ExcInit
import HandS.ExcField
import HandS.Star
import KE.KStateDown
import HandS.Head0
import HandS.Head1
import HandS.Head2
import PySem.Challenge.RW_sillwatch_k64_captures
set_option Elab.async false
set_option linter.all false
set_option maxRecDepth 100000
set_option maxHeartbeats 4000000
namespace My
open PySem L2
section
/-! ### a def whose first statement is super().__init__(e, ..), in an own exception (our own rule) -/
open PySem PySem.Spec PyProof.Rows
structure SupScope (N P : List Str) (sc : Scope) : Prop where
  kind : sc.kind = .function
  co : sc.isCoroutine = false
  gen : sc.isGenerator = false
  nd : N.Nodup
  pre : N.take P.length = P
  par : ∀ x ∈ P, sc.names.lookup x = some .local
  nocell : ∀ y ∈ sc.names, y.2 ≠ .cell
  free : ∀ y ∈ sc.names, y.2 = .free → y.1 = "__class__"
  cls : sc.names.lookup ("__class__" : Str) = some .free
  sup : sc.names.lookup ("super" : Str) = some .globalImplicit
abbrev envSup (qual : Str) (scope : Scope) (L f : Addr) (cd : Value) (cc : Addr) : Env := PySem.W.envX qual scope L f cd [("__class__", cc)]
def cxSup (CX : CXT) (P : Program) (w : World) (K : PySem.W.Frag) (mg : Str → Option Value) (base : Heap) (N : List Str) (qual : Str) (scope : Scope) (f : Addr) (cd : Value) (cc : Addr) (A : Around) (outer : List Env) (s : Shared) (H : Hp) (E : XK) : Cx where
  prog := P
  w := w
  K := K
  mg := mg
  base := base
  A := A.deeper (envSup qual scope s.heap.objs.size f cd cc)
  N := N
  s_0 := s
  H_0 := H
  env := envSup qual scope s.heap.objs.size f cd cc
  outer := outer
  stack := envSup qual scope s.heap.objs.size f cd cc :: outer
  ex := []
  calm := true
  fn := fun x => x != ("__class__" : Str)
  pn := []
  xe := fun e s' => wpAny (model P w) (A.deeper (envSup qual scope s.heap.objs.size f cd cc)) (leaving (envSup qual scope s.heap.objs.size f cd cc) e) (fun _ s'' => CX outer H s E e s'') (fun e' s'' => CX outer H s E e' s'') s'
theorem zip_rev_out {x : Str} : ∀ {ps : List Str} {us : List Value}, x ∉ ps → ((ps.zip us).reverse.lookup x) = none := by
  intro ps us h
  rw [List.lookup_eq_none_iff]
  intro p hp
  rw [List.mem_reverse] at hp
  have := (List.of_mem_zip (a := p.1) (b := p.2) hp).1
  simp only [beq_eq_false_iff_ne, bne_iff_ne, ne_eq]
  intro e
  rw [e] at h
  exact h this
theorem zip_rev_get {x : Str} {u : Value} : ∀ {ps : List Str} {us : List Value} {i : Nat}, ps.Nodup → ps[i]? = some x → us[i]? = some u → (ps.zip us).reverse.lookup x = some u
  | [], _, _, _, h, _ => by simp at h
  | _ :: _, [], _, _, _, h => by simp at h
  | p :: ps, v :: us, 0, nd, h1, h2 => by
    simp at h1 h2; subst h1; subst h2
    rw [List.zip_cons_cons, List.reverse_cons, List.lookup_append, zip_rev_out (List.nodup_cons.mp nd).1]
    simp [List.lookup]
  | p :: ps, v :: us, i + 1, nd, h1, h2 => by
    rw [List.zip_cons_cons, List.reverse_cons, List.lookup_append, zip_rev_get (i := i) (List.nodup_cons.mp nd).2 (by simpa using h1) (by simpa using h2)]
    rfl
theorem sup_cell {x : Str} {c cc : Addr} (h : List.lookup x [(("__class__" : Str), cc)] = some c) : x = "__class__" ∧ c = cc := by
  rw [List.lookup_cons] at h
  cases e : (x == ("__class__" : Str)) with
  | true =>
    rw [e] at h
    exact ⟨by simpa using e, by cases h; rfl⟩
  | false => rw [e] at h; cases h
theorem inv_sup {CX : CXT} {P : Program} {w : World} {K : PySem.W.Frag} {mg : Str → Option Value} {base : Heap} {N ps : List Str} {qual : Str} {scope : Scope} {f cc : Addr} {cd : Value} {A : Around} {outer : List Env} {s : Shared} {H : Hp} {E : XK} {us : List Value} {vs : List V} {h1 : Heap} {tk : Nat}
    {cl : Value} {cld : Option Addr} {cv : Option Value} {csl : Array (Option Value)} (S : SupScope N ps scope) (hd : A.handled = none) (e0 : Env0 P w K mg base A outer s H) (hl : vs.length = ps.length) (r : Vals vs us) (hcc : K.lookup cc = some ⟨cl, cld, .cell cv, csl⟩)
    (hns : h1.Ns s.heap.objs.size (fun x => (ps.zip us).reverse.lookup x)) (hk : ∀ b o, s.heap.get? b = some o → h1.get? b = some o) :
    Inv (cxSup CX P w K mg base N qual scope f cd cc A outer s H E) [] (L2.start N vs) H { s with heap := h1, toks := tk } := by
  have hpl : ps.length ≤ N.length := by have := congrArg List.length S.pre; rw [List.length_take] at this; omega
  have noA : ∀ b : Addr, b ∉ (cxSup CX P w K mg base N qual scope f cd cc A outer s H E).ex := fun b z => absurd (show b ∈ ([] : List Addr) from z) (by simp)
  have hcb : base.get? cc = some ⟨cl, cld, .cell cv, csl⟩ := e0.mod.kin _ _ hcc
  have hcs := (e0.bs _ _ hcb).1
  refine ⟨⟨e0.mod, S.kind, rfl, rfl, Nat.le_refl _, fun y z c a b => ?_, fun y hy => ?_, fun y c hf h => ?_, fun _ => hd, Around.frames_deeper e0.frames, .inr ⟨rfl, rfl⟩, fun b z => absurd z (noA b), e0.bs, e0.bsz, fun b _ _ => noA b, fun b z => absurd z (noA b), e0.funs, e0.frf⟩,
    rfl, e0.bare, Un.kept hk, ⟨_, hns, fun i y v a b c => ?_⟩, fun y c h => ?_, e0.hok.fresh (Nat.le_refl _), fun y c h => ?_, fun p hp => absurd (show p ∈ ([] : List (Addr × Obj)) from hp) (by simp), e0.hok.kept hk, ?_⟩
  · rw [(sup_cell a).1, (sup_cell b).1]
  · have hy : scope.names.lookup y = some .cell ∨ scope.names.lookup y = some .free := hy
    rcases hy with hy | hy
    · exact absurd rfl (S.nocell _ (PySem.mem_of_lookup hy))
    · have e := S.free _ (PySem.mem_of_lookup hy) rfl
      refine ⟨cc, ?_⟩
      show List.lookup y [(("__class__" : Str), cc)] = some cc
      rw [show y = "__class__" from e]
      exact List.lookup_cons_self
  · have := (sup_cell h).1
    subst this
    exact absurd hf (by show ¬ ((("__class__" : Str) != ("__class__" : Str)) = true); decide)
  · have hi : i < vs.length := by
      unfold L2.start at b
      by_cases hi : i < vs.length
      · exact hi
      · rw [List.getElem?_append_right (by simpa using hi)] at b
        rw [List.getElem?_replicate] at b
        split at b <;> cases b
    have ha : vs[i]? = some v := by
      unfold L2.start at b
      rw [List.getElem?_append_left (by simpa using hi), List.getElem?_map] at b
      cases e : vs[i]? with
      | none => rw [e] at b; cases b
      | some a => rw [e] at b; cases b; rfl
    obtain ⟨u, hu, rv⟩ := r.get ha
    have hp : ps[i]? = some y := by
      rw [← S.pre, List.getElem?_take_of_lt (by omega)]; exact a
    have ndP : ps.Nodup := by rw [← S.pre]; exact S.nd.sublist (List.take_sublist _ _)
    exact ⟨u, rv, .inl ⟨S.par y (List.mem_of_getElem? hp), zip_rev_get ndP hp hu⟩⟩
  · obtain ⟨_, rfl⟩ := sup_cell h
    exact ⟨cv, _, hk _ _ hcs, rfl⟩
  · obtain ⟨_, rfl⟩ := sup_cell h
    exact (e0.bs _ _ hcb).2
  · unfold L2.start
    show _ = N.length
    rw [List.length_append, List.length_map, List.length_replicate]
    omega
/-- ValueError's __init__ called through the wrapper that super() gave -/
theorem sup_call {X : Cx} {pins : List (Addr × Obj)} {σ : L2.St} {H : Hp} {s : Shared} {a C u : Addr} {us : List Value} {Q : Value → Shared → Prop} {E : Value → Shared → Prop} {A : Around} (T : OexC X.K C) (I : Inv X pins σ H s) (e : H a = some (exo a C none))
    (hu : s.heap.get? u = some (PySem.W.kxs_mw "ValueError.__init__" a)) (hl : us.length ≤ sizeLine) (h : ∀ s', Inv X pins σ H s' → Q .none s') :
    wpAny (model X.prog X.w) A (call (.ref u) us) Q E s := by
  obtain ⟨nm, q, N, bs, bm, sn, sub, ab, col, dd, k0, k1, k2, k3, k5, hC, hbm⟩ := T.cls
  obtain ⟨t1, ho⟩ := exo_at I.hok e
  have hCs := I.kIn _ _ hC
  obtain ⟨hp, g, d, t, os⟩ := s
  refine wpAny_call (codeAny_of_tree ?_)
  show wpAny _ A.in1 (callAny (.ref u) ⟨us, []⟩) _ _ _
  simp only [callAny]
  refine wpAny_bind (wpAny_load hu ?_)
  simp only [PySem.W.kxs_mw, show (Value.type "method-wrapper" == Value.type "method" || Value.type "method-wrapper" == Value.type "builtin_function_or_method" || Value.type "method-wrapper" == Value.type "method-wrapper") = true by decide, if_true]
  refine PySem.W.KFB.if_so (by decide) ?_
  refine wpAny_bind (PySem.W.check_bound_init F.excBase_ValueError.toExcCallFacts hCs ho rfl ?_)
  refine wpAny_bind (wpAny_pure (wpAny_pure ?_))
  refine ⟨PySem.plainId_quiet F.excBase_ValueError.init.plain _, codeAny_builtin F.excBase_ValueError.initEntry ?_⟩
  refine PySem.W.exc_init_tree (cls := .ref C) (t0 := t1) (dv := none) (c2 := .none) (c3 := .none) (b4 := .bool false) ho hl (fun h' k hx _ => ?_)
  have J := I.write (t' := t) (x := a) (e := a) (o := exo a C none) (by rw [e]; exact True.intro) (.inl rfl) k ⟨_, hx⟩ (exo_ok hx)
  have eu : upd H a (exo a C none) = H := by
    funext b
    by_cases hb : b = a
    · rw [hb, upd_same, e]
    · rw [upd_ne hb]
  rw [eu] at J
  exact h _ J
/-- what the written part says of an own exception's class C whose __init__ D has -/
structure SupC (K : PySem.W.Frag) (C D : Addr) : Prop where
  ox : OexC K C
  up : PySem.W.mroIn K C (.ref D) = some true
  get : PySem.W.ks_superIn K C D "__init__" = some (some (.builtin "ValueError.__init__"))
  ve : PySem.W.subIn K (.ref C) (.type "ValueError") = some true
  tp : PySem.W.nsIn K PySem.cStatics "thirdparty.any" = some none
theorem fn_sup {CX : CXT} {P : Program} {w : World} {K : PySem.W.Frag} {mg : Str → Option Value} {base : Heap} {k : Nat} {f cc cda D : Addr} {name qual : Str} {params : Arguments} {e : Expr} {es : List Expr} {p0 p1 p2 p3 p4 : Pos} {rest : List Stmt} {scope : Scope} {dV kV doc pm ct oc cl ccl : Value} {an od cld cdd : Option Addr}
    {osl csl ccs : Array (Option Value)} {N ps : List Str} {sp : Sp} {ar : Arg} {fvs : Array Value} {file : Str} {tf : Tok} {cdD : ClassData}
    (lk : K.lookup f = some ⟨oc, od, .func (PySem.W.fnX name qual params (.Expr (.Call (.Attribute (.Call (.Name "super" p0) [] [] p1) "__init__" p2) (e :: es) [] p3) p4 :: rest) scope [("__class__", cc)] dV kV doc pm an (.ref cda) ct), osl⟩)
    (hcd : PySem.W.codeIn K (.ref cda) qual = true) (S : SupScope N ps scope) (len : ∀ vs H Q E, sp vs H Q E → vs.length = ps.length)
    (hpar : (params.posonlyargs ++ params.args).head? = some ar) (har : ps[0]? = some ar.arg)
    (hcode : K.lookup cda = some ⟨ccl, cdd, .fields fvs, ccs⟩) (hvs : fvs[2]? = some (.str file tf)) (hfile : ((P.main.file : Str) == file) = true)
    (hcc : K.lookup cc = some ⟨cl, cld, .cell (some (.ref D)), csl⟩) (hD : PySem.W.clsIn K D = some cdD) (hsuper : mg "super" = none) (htop : (P.main.scope.names.lookup ("super" : Str)).isSome = false)
    (pl : Addr → Sem Bool) (hev : ∀ L : Addr, eval (.Call (.Attribute (.Call (.Name "super" p0) [] [] p1) "__init__" p2) (e :: es) [] p3) (envSup qual scope L f (.ref cda) cc) = (do
      let ov ← attributeBase (.Call (.Name "super" p0) [] [] p1) "__init__" (envSup qual scope L f (.ref cda) cc) (eval (.Call (.Name "super" p0) [] [] p1) (envSup qual scope L f (.ref cda) cc))
      standAt p2.atName
      let (fx, first) ← holding [ov] (getMethod ov "__init__" (pl L))
      callWith p3 fx first (backTo p3 (starEach (e :: es) (envSup qual scope L f (.ref cda) cc))) []))
    (he : ∀ X : Cx, starEach (e :: es) X.env = (false, eval e X.env) :: starEach es X.env) (hpl : ∀ X : Cx, (backTo p3 (starEach es X.env)).any (·.1) = false)
    (hbody : ∀ (A : Around) (outer : List Env) (s : Shared) (H : Hp) (vs : List V) (Q : VK) (E : XK), Room k (A.deeper (envSup qual scope s.heap.objs.size f (.ref cda) cc)) → sp vs H Q E →
      ∃ (ta : TA) (t : TS) (a C : Addr) (ws : List V), PA (cxSup CX P w K mg base N qual scope f (.ref cda) cc A outer s H E) (e :: es) ta ∧ PSs (cxSup CX P w K mg base N qual scope f (.ref cda) cc A outer s H E) rest t ∧ vs = .ref a :: ws ∧ H a = some (exo a C none) ∧ SupC K C D ∧
        ta (L2.start N vs) H fun us H1 => us.length ≤ 1000 ∧ H1 a = some (exo a C none) ∧ t { nx := fun _ H' => Q .non H', rt := Q } (L2.start N vs) H1) :
    FnOk P w K mg base CX (k + 1) f (PySem.W.fnX name qual params (.Expr (.Call (.Attribute (.Call (.Name "super" p0) [] [] p1) "__init__" p2) (e :: es) [] p3) p4 :: rest) scope [("__class__", cc)] dV kV doc pm an (.ref cda) ct) ps sp := by
  refine ⟨len, fun A outer s H args us vs Q E hr e0 hb r hsp => ?_⟩
  have hl := len _ _ _ _ hsp
  have KX : K.In s.heap := e0.mod.kin.keeps fun b o e => (e0.bs b o e).1
  have lim : s.heap.NoLimit := e0.mod.nolimit.keeps fun b o e => (e0.bs b o e).1
  refine PySem.ks_codeAny_call_defAt (fd := PySem.W.fnX name qual params (.Expr (.Call (.Attribute (.Call (.Name "super" p0) [] [] p1) "__init__" p2) (e :: es) [] p3) p4 :: rest) scope [("__class__", cc)] dV kV doc pm an (.ref cda) ct) (binds := ps.zip us)
    hr.depth (KX _ _ lk) rfl lim (PySem.W.codeRec_of KX hcd) rfl hb S.nocell (fun ⟨n, v⟩ hy => S.par n (List.of_mem_zip hy).1) (fun h₀ hns hk => ?_) S.co S.gen S.kind
  obtain ⟨ta, t, a, C, ws, hPA, hPS, rfl, ea, T, hq⟩ := hbody A outer s H vs Q E (hr.deeper _) hsp
  have I : Inv (cxSup CX P w K mg base N qual scope f (.ref cda) cc A outer s H E) [] (L2.start N (.ref a :: ws)) H { s with heap := h₀, toks := s.toks + (ps.zip us).length } := inv_sup S hr.hd e0 hl r hcc hns hk
  have ndP : ps.Nodup := by rw [← S.pre]; exact S.nd.sublist (List.take_sublist _ _)
  have hus : ∃ ur, us = .ref a :: ur := by
    cases r with
    | cons h _ => obtain rfl := (show _ = Value.ref a from h); exact ⟨_, rfl⟩
  obtain ⟨ur, rfl⟩ := hus
  have hself : (ps.zip (.ref a :: ur)).reverse.lookup ar.arg = some (.ref a) := zip_rev_get (i := 0) ndP har rfl
  obtain ⟨t1, ho⟩ := exo_at I.hok ea
  have K0 : K.In h₀ := I.kIn
  obtain ⟨oD, hD1, hD2⟩ : ∃ oD, h₀.get? D = some oD ∧ oD.data = .cls cdD := by
    unfold PySem.W.clsIn at hD
    split at hD
    · rename_i c d cd' sl ho
      cases hD
      exact ⟨_, K0 _ _ ho, rfl⟩
    · cases hD
  show PySem.wpAt (model P w) (A.deeper (envSup qual scope s.heap.objs.size f (.ref cda) cc)) (.func (.Expr (.Call (.Attribute (.Call (.Name "super" p0) [] [] p1) "__init__" p2) (e :: es) [] p3) p4 :: rest) (envSup qual scope s.heap.objs.size f (.ref cda) cc)) (execs (.Expr (.Call (.Attribute (.Call (.Name "super" p0) [] [] p1) "__init__" p2) (e :: es) [] p3) p4 :: rest) (envSup qual scope s.heap.objs.size f (.ref cda) cc)) _ _ _
  refine PySem.ks_wpAt_execs_cons (PySem.ks_wpAt_Expr_any (PySem.ks_wpAt_MethodCall ?_ (hev _)) I.quiet)
  refine PySem.ks_wpAt_super_base (f := f) (cc := cda) (ar := ar) (vs := fvs) (file := file) (tf := tf) (env := envSup qual scope s.heap.objs.size f (.ref cda) cc) S.sup S.cls (by decide) rfl (K0 _ _ lk) rfl hpar rfl (K0 _ _ hcode) rfl hvs hfile htop ?_
  obtain ⟨mb, hb1, hb2⟩ := I.mod.blt
  refine PySem.W.ks_loadName_global S.kind S.sup (Calls.loadGlobal_builtin (I.mod.glob.keeps I.bk) hsuper (hb1.keeps I.bk) ((hb2 _ (by decide)).trans (by first | rfl | kernel_rfl | decide +kernel)) ⟨rfl, ?_⟩)
  refine wpAny_loadName_free S.kind S.cls (c := cc) rfl ⟨_, K0 _ _ hcc, rfl⟩ ?_
  refine wpAny_loadName_local S.kind (S.par _ (List.mem_of_getElem? har)) hns hself ?_
  refine PySem.ks_wpAny_isType_cls hD1 hD2 ⟨rfl, ?_⟩
  refine PySem.ks_wpAny_call_super hD1 hD2 ho rfl (fun c z => by cases z) (PySem.W.looks_mroIn K0 T.up) (fun h' eso k => ?_)
  have I' := I.kept (t' := s.toks + (ps.zip (Value.ref a :: ur)).length) k
  have K' : K.In h' := I'.kIn
  have ho' := k _ _ ho
  obtain ⟨nm, q, N', bs, bm, sn, sub, ab, col, dd, k0, k1, k2, k3, k5, hC, hbm⟩ := T.ox.cls
  have hcl : PySem.W.clsIn K C = some { name := nm, bases := bs, mro := .ref C :: bm, ns := N', qualname := q, hasDict := true, slotNames := sn, subclasses := sub, abstract := ab, collection := col, hasDel := false } := by unfold PySem.W.clsIn; rw [hC] <;> rfl
  have hget := T.get
  unfold PySem.W.ks_superIn at hget
  rw [hcl, Option.bind_some] at hget
  have haC : a ≠ C := fun z => by
    have := (e0.bs _ _ (e0.mod.kin _ _ hC)).2
    rw [← z, ea] at this; cases this
  have IA : PySem.W.InstAt h' a { cls := .ref C, dict := none, data := .fields #[.ref t1, .none, .none, .none, .bool false, .none] } C none := ⟨ho', rfl, rfl, trivial⟩
  refine PySem.W.kxs_getMethod PySem.W.kxs_ValueError eso (PySem.W.looks_opaque K' T.tp) ((PySem.W.looks_clsIn K' hcl).andThen .now) rfl K' hget (IA.type.andThen (PySem.W.looks_subIn K' T.ve)) haC (by decide) ?_
  have I2 := I'.kept (t' := s.toks + (ps.zip (Value.ref a :: ur)).length + 1) (h' := h'.push (PySem.W.kxs_mw "ValueError.__init__" a)) (fun b o e => Heap.get?_push_of_some _ e)
  have I3 : Inv (cxSup CX P w K mg base N qual scope f (.ref cda) cc A outer s H E) [(h'.objs.size, PySem.W.kxs_mw "ValueError.__init__" a)] (L2.start N (.ref a :: ws)) H { s with heap := h'.push (PySem.W.kxs_mw "ValueError.__init__" a), toks := s.toks + (ps.zip (Value.ref a :: ur)).length + 1 } :=
    I2.pins_of fun p hp => by
      rw [List.mem_singleton.mp hp]
      exact ⟨Heap.get?_push_at rfl rfl, I'.hok.fresh (Nat.le_refl _), Nat.ne_of_gt I'.lt, I'.nofs (Nat.le_refl _), fun v z => by cases z⟩
  have hX := he (cxSup CX P w K mg base N qual scope f (.ref cda) cc A outer s H E)
  have hpl2 := hpl (cxSup CX P w K mg base N qual scope f (.ref cda) cc A outer s H E)
  have hrun := hPA.run p3 _ _ _ _ _ I3 hq
  show wpAny _ _ (callWith p3 (Value.ref h'.objs.size) [] (backTo p3 (starEach (e :: es) (cxSup CX P w K mg base N qual scope f (.ref cda) cc A outer s H E).env)) []) _ _ _
  rw [hX] at hrun ⊢
  refine PySem.W.kxs_callWith (i := "ValueError.__init__") (x := a) (by show (false || (backTo p3 (starEach es _)).any (·.1)) = false; rw [hpl2]; rfl) (Calls.evalArgs_plain (wpAny_mono hrun (fun ws' s1 hh => ?_) fun _ _ z => z))
  obtain ⟨vs1, H1, I4, r1, hl1, e1, ht⟩ := hh
  refine ⟨(I4.pin _ (List.mem_append_right _ (List.mem_singleton.mpr rfl))).1, ?_⟩
  refine sup_call T.ox I4 e1 (I4.pin _ (List.mem_append_right _ (List.mem_singleton.mpr rfl))).1 (by rw [List.nil_append, ← Paired.length r1, sizeLine_eq]; omega) (fun s2 J => ?_)
  refine wpAt_of_wpAny ?_
  refine wpAny_mono (hPS.run _ s2 _ H1 _ J ht) (fun fl s' hs => ?_) fun e s' hs => hs
  have fin : ∀ {σ' : L2.St} {H' : Hp} {v : V} {u : Value}, Inv (cxSup CX P w K mg base N qual scope f (.ref cda) cc A outer s H E) [(h'.objs.size, PySem.W.kxs_mw "ValueError.__init__" a)] σ' H' s' → RelV v u → Q v H' → CE outer P w H s Q u s' :=
    fun {σ' H' v u} J rv q => ⟨v, H', J.os, J.bare, J.base, J.hok, rv, q⟩
  cases fl with
  | ret u =>
    obtain ⟨v, σ', H', J, rv, q⟩ := hs
    exact fin J rv q
  | next =>
    obtain ⟨σ', H', J, q⟩ := hs
    exact fin (v := V.non) (u := Value.none) J rfl q
  | brk =>
    obtain ⟨_, _, _, q⟩ := hs
    exact False.elim q
  | cont =>
    obtain ⟨_, _, _, q⟩ := hs
    exact False.elim q
/-- what the program says of its own file, and of the name super -/
structure Prg (P : Program) : Prop where
  file : ((P.main.file : Str) == ("/claim/cut.py" : Str)) = true
  top : (P.main.scope.names.lookup ("super" : Str)).isSome = false
/-- such a def of the text as it stands behind the top -/
structure FunSup (K : PySem.W.Frag) (x qual : Str) (st : Stmt) (f : Addr) (fd : FuncData) (D : Addr) : Prop where
  ex : ∃ (oc : Value) (od : Option Addr) (kV doc pm : Value) (an : Option Addr) (cda : Addr) (ct : Value) (osl : Array (Option Value)) (cc : Addr) (cl ccl : Value) (cld cdd : Option Addr) (csl ccs : Array (Option Value)) (fvs : Array Value) (tf : Tok) (cdD : ClassData),
    fd = PySem.W.fnX x qual (defArgs st) (defBody st) (defScope st) [("__class__", cc)] .none kV doc pm an (.ref cda) ct ∧ K.lookup f = some ⟨oc, od, .func fd, osl⟩ ∧ PySem.W.codeIn K (.ref cda) qual = true ∧ K.lookup cda = some ⟨ccl, cdd, .fields fvs, ccs⟩ ∧
    fvs[2]? = some (.str "/claim/cut.py" tf) ∧ K.lookup cc = some ⟨cl, cld, .cell (some (.ref D)), csl⟩ ∧ PySem.W.clsIn K D = some cdD
theorem FunSup.ok {CX : CXT} {P : Program} {w : World} {K : PySem.W.Frag} {mg : Str → Option Value} {base : Heap} {x qual : Str} {st : Stmt} {f D : Addr} {fd : FuncData} {N ps : List Str} {k : Nat} {sp : Sp} {ar : Arg} {e : Expr} {es : List Expr} {p0 p1 p2 p3 p4 : Pos} {rest : List Stmt}
    (F : FunSup K x qual st f fd D) (hP : Prg P) (S : SupScope N ps (defScope st)) (len : ∀ vs H Q E, sp vs H Q E → vs.length = ps.length)
    (hst : defBody st = .Expr (.Call (.Attribute (.Call (.Name "super" p0) [] [] p1) "__init__" p2) (e :: es) [] p3) p4 :: rest) (hpar : ((defArgs st).posonlyargs ++ (defArgs st).args).head? = some ar) (har : ps[0]? = some ar.arg) (hsuper : mg "super" = none)
    {pl : Addr → Addr → Addr → Sem Bool} (hev : ∀ cc cda L : Addr, eval (.Call (.Attribute (.Call (.Name "super" p0) [] [] p1) "__init__" p2) (e :: es) [] p3) (envSup qual (defScope st) L f (.ref cda) cc) = (do
      let ov ← attributeBase (.Call (.Name "super" p0) [] [] p1) "__init__" (envSup qual (defScope st) L f (.ref cda) cc) (eval (.Call (.Name "super" p0) [] [] p1) (envSup qual (defScope st) L f (.ref cda) cc))
      standAt p2.atName
      let (fx, first) ← holding [ov] (getMethod ov "__init__" (pl cc cda L))
      callWith p3 fx first (backTo p3 (starEach (e :: es) (envSup qual (defScope st) L f (.ref cda) cc))) []))
    (he : ∀ X : Cx, starEach (e :: es) X.env = (false, eval e X.env) :: starEach es X.env) (hpl : ∀ X : Cx, (backTo p3 (starEach es X.env)).any (·.1) = false)
    (hbody : ∀ (cc cda : Addr) (A : Around) (outer : List Env) (s : Shared) (H : Hp) (vs : List V) (Q : VK) (E : XK), Room k (A.deeper (envSup qual (defScope st) s.heap.objs.size f (.ref cda) cc)) → sp vs H Q E →
      ∃ (ta : TA) (t : TS) (a C : Addr) (ws : List V), PA (cxSup CX P w K mg base N qual (defScope st) f (.ref cda) cc A outer s H E) (e :: es) ta ∧ PSs (cxSup CX P w K mg base N qual (defScope st) f (.ref cda) cc A outer s H E) rest t ∧ vs = .ref a :: ws ∧ H a = some (exo a C none) ∧ SupC K C D ∧
        ta (L2.start N vs) H fun us H1 => us.length ≤ 1000 ∧ H1 a = some (exo a C none) ∧ t { nx := fun _ H' => Q .non H', rt := Q } (L2.start N vs) H1) :
    FnOk P w K mg base CX (k + 1) f fd ps sp := by
  obtain ⟨oc, od, kV, doc, pm, an, cda, ct, osl, cc, cl, ccl, cld, cdd, csl, ccs, fvs, tf, cdD, rfl, lk, hcd, hcode, hvs, hcc, hD⟩ := F.ex
  rw [hst] at lk ⊢
  exact fn_sup lk hcd S len hpar har hcode hvs hP.file hcc hD hsuper hP.top (pl cc cda) (hev cc cda) he hpl (fun A outer s H vs Q E => hbody cc cda A outer s H vs Q E)
end
section
/-! ### an own exception that was made with its own __init__, as a value (our own rules) -/
open PySem PySem.Spec PyProof.Rows
/-- its object and its dict -/
structure ExV (H : Hp) (a C dx : Addr) (fs : List (Str × V)) : Prop where
  ob : H a = some (exo a C (some dx))
  di : H dx = some (exd dx fs)
theorem ExV.to {H H' : Hp} {a C dx : Addr} {fs : List (Str × V)} (h : ExV H a C dx fs) (s : Same H H') : ExV H' a C dx fs := ⟨s _ _ h.ob, s _ _ h.di⟩
theorem exv_inst {X : Cx} {pins : List (Addr × Obj)} {σ : L2.St} {H : Hp} {s : Shared} {a C dx : Addr} {fs : List (Str × V)} (I : Inv X pins σ H s) (h : ExV H a C dx fs) :
    ∃ (ox od : Obj) (mA : Str → Option Value), PySem.W.InstAt s.heap a ox C (some od) ∧ (∀ f, RelO (fs.lookup f) (mA f)) ∧ ∀ n, PySem.W.lookIn n od = some (mA n) := by
  obtain ⟨t1, ho⟩ := exo_at I.hok h.ob
  obtain ⟨mA, hns, hr⟩ := exd_at I.hok h.di
  obtain ⟨od, hod, hl⟩ := lookIn_ns hns
  exact ⟨_, od, mA, ⟨ho, rfl, rfl, hod⟩, hr, hl⟩
/-- isinstance(x, c) of such an exception -/
def rIsExo (K : PySem.W.Frag) : List V → Hp → VK → Prop := fun xs H Q => ∃ (a C dx : Addr) (fs : List (Str × V)) (c : V) (cv : Value) (b : Bool), xs = [.ref a, c] ∧ ExV H a C dx fs ∧ ExcC K C ∧ (∀ u, RelV c u → u = cv) ∧ PySem.W.kitOne K (.ref C) cv = some b ∧ Q (.bl b) H
theorem call_isExo {X : Cx} : CallR X (.builtin "isinstance") (rIsExo X.K) := by
  intro pins s σ H xs us Q I r h
  obtain ⟨a, C, dx, fs, c, cv, b, rfl, ev, T, hcv, e, q⟩ := h
  cases r with
  | cons rx rr =>
    cases rr with
    | cons rt rr =>
      cases rr
      cases rx
      have ec := hcv _ rt
      subst ec
      obtain ⟨ox, od, mA, J, _, _⟩ := exv_inst I ev
      have hcl : (PySem.W.clsIn X.K C).isSome = true := by
        have := T.hd
        unfold PySem.W.hasDictIn at this
        cases z : PySem.W.clsIn X.K C with
        | none => rw [z] at this; cases this
        | some cd => rfl
      exact PySem.W.kia_one (PySem.W.kitx_exc hcl T.hg T.hk T.hs T.ha T.hn T.ht T.hm) I.kIn J e (fun z => nomatch z) fun tk => ⟨.bl b, H, I.kept (t' := tk) fun _ _ z => z, rfl, q⟩
/-- e.f of such an exception -/
def tExf (K : PySem.W.Frag) (n : Str) (te : TE) : TE := fun σ H Q => te σ H fun x H1 => ∃ (a C dx : Addr) (fs : List (Str × V)) (v : V), x = .ref a ∧ ExV H1 a C dx fs ∧ XfC K C ∧ PySem.W.findIn K (.ref C) n = some none ∧ fs.lookup n = some v ∧ Q v H1
theorem pe_exf {X : Cx} {e : Expr} {te : TE} {pos : Pos} {n : Str} (he : PE X e te) (hb : attributeBase e n X.env (eval e X.env) = eval e X.env := by rfl) : PE X (.Attribute e n pos) (tExf X.K n te) := by
  refine ⟨fun pins s σ H Q I h => ?_⟩
  refine attr_of hb (thn (he.run pins s σ H _ I h) fun u s1 hh => ?_)
  obtain ⟨x, H1, I1, rx, a, C, dx, fs, v, ex, ev, T, hno, l, q⟩ := hh
  subst ex
  obtain rfl : u = Value.ref a := rx
  obtain ⟨ox, od, mA, J, hr, hl⟩ := exv_inst I1 ev
  obtain ⟨u, hu, ru⟩ := RelO.some_of (v := v) (o := mA n) (by rw [← l]; exact hr n)
  exact HandSPX.exc_get I1.kIn J T.ga T.gg T.exC (PySem.W.findObj_own T.hdC hno rfl (by rw [hl, hu])) (handed_of ru) ⟨v, H1, I1.tok _, ru, q⟩
/-- C(e, ..) as a value, C's own __init__ keeping sp -/
def tMkV (C : Addr) (sp : Sp) (dvs : List V) (ta : TA) : TE := fun σ H Q => ta σ H fun vs H1 => vs.length ≤ 1000 ∧ ∀ a, H1 a = none → sp (.ref a :: (vs ++ dvs)) (upd H1 a (exo a C none)) (fun v H2 => v = .non ∧ Q (.ref a) H2) (fun _ _ _ => False)
theorem pe_mkv {X : Cx} {e : Expr} {es : List Expr} {ta : TA} {p pos : Pos} {CX : CXT} {x : Str} {C fI : Addr} {k : Nat} {fd : FuncData} {ps : List Str} {sp : Sp} {ds : List Value} {dvs : List V} (T : OexC X.K C) (iC : PySem.W.findIn X.K (.ref C) "__init__" = some (some (.ref fI))) (tI : PySem.W.typeIn X.K (.ref fI) = some (.type "function"))
    (F1 : FnOk X.prog X.w X.K X.mg X.base CX k fI fd ps sp) (hr : Room (k + 1) X.A) (hb : Binds X.K fd ps ds) (hd : Vals dvs ds) (hx : Passes CX X (fun _ _ _ => False)) (hg : Gl X x) (hm : X.mg x = some (.ref C)) (ha : PA X (e :: es) ta)
    (hdb : (x == ("__debug__" : Str)) = false := by decide) (he : starEach (e :: es) X.env = (false, eval e X.env) :: starEach es X.env := by rfl) (hpl : (backTo pos (starEach es X.env)).any (·.1) = false := by rfl) :
    PE X (.Call (.Name x p) (e :: es) [] pos) (tMkV C sp dvs ta) := by
  refine ⟨fun pins s σ H Q I h => ?_⟩
  obtain ⟨nm, q, N, bs, bm, sn, sub, ab, col, dd, k0, k1, k2, k3, k5, hC, hbm⟩ := T.cls
  refine wpAny_Call_Name_kw (ld_glob I hg hm ?_ hdb)
  refine PySem.W.callWith_K (h₀ := X.base) I.ok.mod.kin T.kC (thn (ha.run pos pins s σ H _ I h) fun us s1 ⟨vs, H1, I1, r1, hz, q1⟩ => ⟨I1.kIn, ?_⟩) he hpl
  show wpAny _ _ (call (.ref C) us) _ _ _
  obtain ⟨hp, g, dr, tk, os⟩ := s1
  have hsz : hp.objs.size ≤ hp.objs.size + 1 := Nat.le_succ _
  have hn : H1 (hp.objs.size + 1) = none := I1.hok.fresh hsz
  have hq := q1 (hp.objs.size + 1) hn
  have kk : ∀ b o, hp.get? b = some o → ((hp.push (PySem.W.kdv_tup us)).push (PySem.HandSPX.excO C hp.objs.size)).get? b = some o := fun b o e => Heap.get?_push_of_some _ (Heap.get?_push_of_some _ e)
  have hget : ((hp.push (PySem.W.kdv_tup us)).push (PySem.HandSPX.excO C hp.objs.size)).get? (hp.objs.size + 1) = some (PySem.HandSPX.excO C hp.objs.size) := by heap_get
  have I2 : Inv X pins σ (upd H1 (hp.objs.size + 1) (exo (hp.objs.size + 1) C none)) ⟨(hp.push (PySem.W.kdv_tup us)).push (PySem.HandSPX.excO C hp.objs.size), g, dr, tk, os⟩ :=
    I1.laid (t' := tk) (a := hp.objs.size + 1) (o := exo (hp.objs.size + 1) C none) (h' := (hp.push (PySem.W.kdv_tup us)).push (PySem.HandSPX.excO C hp.objs.size)) kk hsz (exo_ok hget)
  have r2 : Vals (V.ref (hp.objs.size + 1) :: (vs ++ dvs)) (Value.ref (hp.objs.size + 1) :: (us ++ ds)) := .cons rfl (r1.append hd)
  have hl : (Value.ref (hp.objs.size + 1) :: us ++ ds).length = ps.length := by
    have e := r2.length
    rw [F1.len _ _ _ _ hq] at e
    exact e.symm
  have hus : us.length ≤ sizeLine := by
    rw [← Paired.length r1, sizeLine_eq]
    omega
  refine wpAny_call (PySem.HandSPX.call_own F.excBase_ValueError (fun Y => PySem.HandSPX.refsVE_contains Y bm hbm) (I1.kIn _ _ hC) (PySem.W.looks_findIn I1.kIn iC) (fun self => PySem.W.bind_fn I1.kIn self tI) hus
    (codeAny_mono (F1.run _ X.stack _ _ ⟨Value.ref (hp.objs.size + 1) :: us, []⟩ (Value.ref (hp.objs.size + 1) :: (us ++ ds)) _ _ (fun _ _ _ => False) (hr.make C us []) (I2.env0.make C us []) (hb _ (Value.ref (hp.objs.size + 1) :: us) I2.kIn hl) r2 hq) fun r s' hq' => ?_))
  cases r with
  | error er => exact hx pins σ _ _ er s' I2 hq'
  | ok fl =>
    cases fl with
    | ret u =>
      obtain ⟨v, H2, J, rv, ev, q2⟩ := I2.after hq'
      subst ev
      exact ⟨rv, V.ref (hp.objs.size + 1), H2, J, rfl, q2⟩
    | next => exact False.elim hq'
    | brk => exact False.elim hq'
    | cont => exact False.elim hq'
end
def topS (i : Nat) : Stmt := PySem.Challenge.pw_sillwatch_k64_captures.main.body.getD i (.Pass ⟨0, 0, 0, 0⟩)
abbrev s__check_new : Stmt := topS 20
abbrev s_is_integer : Stmt := topS 44
abbrev s_is_text : Stmt := topS 45
abbrev s_number_octets : Stmt := topS 46
abbrev s_field_octets : Stmt := topS 47
abbrev s__is_code : Stmt := topS 48
abbrev s__is_of : Stmt := topS 49
abbrev s__are_octets : Stmt := topS 50
abbrev s__is_bound : Stmt := topS 51
abbrev s__text_octets : Stmt := topS 52
abbrev s__padded : Stmt := topS 53
abbrev s_encode_message : Stmt := topS 59
abbrev s_event_octets : Stmt := topS 62
abbrev s__opcode_of : Stmt := topS 63
abbrev s__law_cell : Stmt := topS 69
abbrev s__law_row : Stmt := topS 70
abbrev s__law_serve : Stmt := topS 71
abbrev s__law_size : Stmt := topS 72
abbrev s__law_ask : Stmt := topS 73
abbrev s__law_answer : Stmt := topS 74
abbrev s__law_read : Stmt := topS 75
abbrev s_law : Stmt := topS 76
abbrev s_Fault___init__ : Stmt := inClass (topS 5) 0
abbrev s_Captures___init__ : Stmt := inClass (topS 11) 0
abbrev s_Captures_make : Stmt := inClass (topS 11) 1
abbrev s_Captures_answered : Stmt := inClass (topS 11) 2
abbrev s_Captures_read : Stmt := inClass (topS 11) 3
abbrev s_Captures_forget : Stmt := inClass (topS 11) 4
abbrev s_Fetch___init__ : Stmt := inClass (topS 17) 0
abbrev s_Watch___init__ : Stmt := inClass (topS 18) 0
abbrev s_Fetches___init__ : Stmt := inClass (topS 19) 0
abbrev s_Fetches_make_fetch : Stmt := inClass (topS 19) 1
abbrev s_Fetches_make_watch : Stmt := inClass (topS 19) 2
abbrev s_Fetches_read : Stmt := inClass (topS 19) 6
abbrev s_Fetches_forget : Stmt := inClass (topS 19) 7
abbrev s_Offers___init__ : Stmt := inClass (topS 23) 0
abbrev s_Offers_forget : Stmt := inClass (topS 23) 3
abbrev s_Offers_read : Stmt := inClass (topS 23) 5
abbrev s_Source___init__ : Stmt := inClass (topS 29) 0
abbrev s_Sources___init__ : Stmt := inClass (topS 30) 0
abbrev s_Sources_make : Stmt := inClass (topS 30) 1
abbrev s_Sources_write : Stmt := inClass (topS 30) 2
abbrev s_Sources_is_used : Stmt := inClass (topS 30) 3
abbrev s_Sources_use_up : Stmt := inClass (topS 30) 4
abbrev s_Sources_forget : Stmt := inClass (topS 30) 5
abbrev s_Sources__fresh : Stmt := inClass (topS 30) 6
abbrev s_Holdings___init__ : Stmt := inClass (topS 34) 0
abbrev s_Holdings_serve : Stmt := inClass (topS 34) 1
abbrev s_Holdings_ended : Stmt := inClass (topS 34) 3
abbrev s_Holdings_answered : Stmt := inClass (topS 34) 10
abbrev s_Holdings__serve_transfer : Stmt := inClass (topS 34) 14
abbrev s_Holdings__give : Stmt := inClass (topS 34) 15
abbrev s_Holdings__send : Stmt := inClass (topS 34) 16
abbrev s_Holdings__unsend : Stmt := inClass (topS 34) 17
abbrev s_Reply___init__ : Stmt := inClass (topS 65) 0
abbrev s_Reply_tell : Stmt := inClass (topS 65) 1
abbrev s_Reply_wish : Stmt := inClass (topS 65) 3
abbrev s_Request___init__ : Stmt := inClass (topS 67) 0
structure Adr where
  f_check_new : Addr
  d_check_new : FuncData
  fis_integer : Addr
  dis_integer : FuncData
  fis_text : Addr
  dis_text : FuncData
  fnumber_octets : Addr
  dnumber_octets : FuncData
  ffield_octets : Addr
  dfield_octets : FuncData
  f_is_code : Addr
  d_is_code : FuncData
  f_is_of : Addr
  d_is_of : FuncData
  f_are_octets : Addr
  d_are_octets : FuncData
  f_is_bound : Addr
  d_is_bound : FuncData
  f_text_octets : Addr
  d_text_octets : FuncData
  f_padded : Addr
  d_padded : FuncData
  fencode_message : Addr
  dencode_message : FuncData
  fevent_octets : Addr
  devent_octets : FuncData
  f_opcode_of : Addr
  d_opcode_of : FuncData
  f_law_cell : Addr
  d_law_cell : FuncData
  f_law_row : Addr
  d_law_row : FuncData
  f_law_serve : Addr
  d_law_serve : FuncData
  f_law_size : Addr
  d_law_size : FuncData
  f_law_ask : Addr
  d_law_ask : FuncData
  f_law_answer : Addr
  d_law_answer : FuncData
  f_law_read : Addr
  d_law_read : FuncData
  flaw : Addr
  dlaw : FuncData
  fFault___init__ : Addr
  dFault___init__ : FuncData
  fCaptures___init__ : Addr
  dCaptures___init__ : FuncData
  fCaptures_make : Addr
  dCaptures_make : FuncData
  fCaptures_answered : Addr
  dCaptures_answered : FuncData
  fCaptures_read : Addr
  dCaptures_read : FuncData
  fCaptures_forget : Addr
  dCaptures_forget : FuncData
  fFetch___init__ : Addr
  dFetch___init__ : FuncData
  fWatch___init__ : Addr
  dWatch___init__ : FuncData
  fFetches___init__ : Addr
  dFetches___init__ : FuncData
  fFetches_make_fetch : Addr
  dFetches_make_fetch : FuncData
  fFetches_make_watch : Addr
  dFetches_make_watch : FuncData
  fFetches_read : Addr
  dFetches_read : FuncData
  fFetches_forget : Addr
  dFetches_forget : FuncData
  fOffers___init__ : Addr
  dOffers___init__ : FuncData
  fOffers_forget : Addr
  dOffers_forget : FuncData
  fOffers_read : Addr
  dOffers_read : FuncData
  fSource___init__ : Addr
  dSource___init__ : FuncData
  fSources___init__ : Addr
  dSources___init__ : FuncData
  fSources_make : Addr
  dSources_make : FuncData
  fSources_write : Addr
  dSources_write : FuncData
  fSources_is_used : Addr
  dSources_is_used : FuncData
  fSources_use_up : Addr
  dSources_use_up : FuncData
  fSources_forget : Addr
  dSources_forget : FuncData
  fSources__fresh : Addr
  dSources__fresh : FuncData
  fHoldings___init__ : Addr
  dHoldings___init__ : FuncData
  fHoldings_serve : Addr
  dHoldings_serve : FuncData
  fHoldings_ended : Addr
  dHoldings_ended : FuncData
  fHoldings_answered : Addr
  dHoldings_answered : FuncData
  fHoldings__serve_transfer : Addr
  dHoldings__serve_transfer : FuncData
  fHoldings__give : Addr
  dHoldings__give : FuncData
  fHoldings__send : Addr
  dHoldings__send : FuncData
  fHoldings__unsend : Addr
  dHoldings__unsend : FuncData
  fReply___init__ : Addr
  dReply___init__ : FuncData
  fReply_tell : Addr
  dReply_tell : FuncData
  fReply_wish : Addr
  dReply_wish : FuncData
  fRequest___init__ : Addr
  dRequest___init__ : FuncData
  tLONGEST_SIDE : Tok
  tMOST_PIXELS : Tok
  tMOST_CAPTURES : Tok
  tMOST_READ_captures : Tok
  tLONGEST_TEXT_fetches : Tok
  tMOST_FETCHES : Tok
  tMOST_WATCHES : Tok
  tMOST_READ_fetches : Tok
  tMOST_READ_offers : Tok
  tMOST_SOURCES : Tok
  tMOST_KINDS : Tok
  tMOST_OCTETS_sources : Tok
  tLONGEST_TEXT_sources : Tok
  tMOST_SENT_OCTETS : Tok
  tMOST_SENT_NAMES : Tok
  tGREATEST_NUMBER : Tok
  tLEAST_INT : Tok
  tGREATEST_INT : Tok
  tLONGEST_TEXT_fields : Tok
  tMOST_OCTETS_fields : Tok
  t_FIRST_CODE : Tok
  t_LAST_CODE : Tok
  t_PERCENT_CODE : Tok
  tHEADER_SIZE : Tok
  tGREATEST_SIZE : Tok
  tGREATEST_OPCODE : Tok
  tMOST_ARGUMENTS : Tok
  a_EVENTS : Addr
  a_EVENTS_k11 : Addr
  a_EVENTS_k11_0 : Addr
  a_EVENTS_k11_0_1 : Addr
  a_EVENTS_k11_1 : Addr
  a_EVENTS_k11_1_1 : Addr
  a_EVENTS_k11_2 : Addr
  a_EVENTS_k11_2_1 : Addr
  CCaptures : Addr
  CFetch : Addr
  CWatch : Addr
  CFetches : Addr
  COffers : Addr
  CSource : Addr
  CSources : Addr
  CHoldings : Addr
  CReply : Addr
  CRequest : Addr
  CBadMessage : Addr
  CMessageTooLong : Addr
  CFault : Addr
structure Txt0 (P : Program) (K : PySem.W.Frag) (mg : Str → Option Value) (A : Adr) : Prop where
  prg : Prg P
  F_check_new : Fun K "_check_new" "_check_new" s__check_new A.f_check_new A.d_check_new
  b_check_new : Binds K A.d_check_new ["request", "present", "most"] []
  g_check_new : mg "_check_new" = some (.ref A.f_check_new)
  k_check_new : PySem.W.keepIn K (.ref A.f_check_new) = true
  Fis_integer : Fun K "is_integer" "is_integer" s_is_integer A.fis_integer A.dis_integer
  bis_integer : Binds K A.dis_integer ["value", "least", "greatest"] []
  gis_integer : mg "is_integer" = some (.ref A.fis_integer)
  kis_integer : PySem.W.keepIn K (.ref A.fis_integer) = true
  Fis_text : Fun K "is_text" "is_text" s_is_text A.fis_text A.dis_text
  bis_text : Binds K A.dis_text ["value"] []
  gis_text : mg "is_text" = some (.ref A.fis_text)
  kis_text : PySem.W.keepIn K (.ref A.fis_text) = true
  Fnumber_octets : Fun K "number_octets" "number_octets" s_number_octets A.fnumber_octets A.dnumber_octets
  bnumber_octets : Binds K A.dnumber_octets ["number", "count"] []
  gnumber_octets : mg "number_octets" = some (.ref A.fnumber_octets)
  knumber_octets : PySem.W.keepIn K (.ref A.fnumber_octets) = true
  Ffield_octets : Fun K "field_octets" "field_octets" s_field_octets A.ffield_octets A.dfield_octets
  bfield_octets : Binds K A.dfield_octets ["kind", "value"] []
  gfield_octets : mg "field_octets" = some (.ref A.ffield_octets)
  kfield_octets : PySem.W.keepIn K (.ref A.ffield_octets) = true
  F_is_code : Fun K "_is_code" "_is_code" s__is_code A.f_is_code A.d_is_code
  b_is_code : Binds K A.d_is_code ["code"] []
  g_is_code : mg "_is_code" = some (.ref A.f_is_code)
  k_is_code : PySem.W.keepIn K (.ref A.f_is_code) = true
  F_is_of : Fun K "_is_of" "_is_of" s__is_of A.f_is_of A.d_is_of
  b_is_of : Binds K A.d_is_of ["kind", "value"] []
  g_is_of : mg "_is_of" = some (.ref A.f_is_of)
  k_is_of : PySem.W.keepIn K (.ref A.f_is_of) = true
  F_are_octets : Fun K "_are_octets" "_are_octets" s__are_octets A.f_are_octets A.d_are_octets
  b_are_octets : Binds K A.d_are_octets ["value"] []
  g_are_octets : mg "_are_octets" = some (.ref A.f_are_octets)
  k_are_octets : PySem.W.keepIn K (.ref A.f_are_octets) = true
  F_is_bound : Fun K "_is_bound" "_is_bound" s__is_bound A.f_is_bound A.d_is_bound
  b_is_bound : Binds K A.d_is_bound ["value"] []
  g_is_bound : mg "_is_bound" = some (.ref A.f_is_bound)
  k_is_bound : PySem.W.keepIn K (.ref A.f_is_bound) = true
  F_text_octets : Fun K "_text_octets" "_text_octets" s__text_octets A.f_text_octets A.d_text_octets
  b_text_octets : Binds K A.d_text_octets ["text"] []
  g_text_octets : mg "_text_octets" = some (.ref A.f_text_octets)
  k_text_octets : PySem.W.keepIn K (.ref A.f_text_octets) = true
  F_padded : Fun K "_padded" "_padded" s__padded A.f_padded A.d_padded
  b_padded : Binds K A.d_padded ["octets"] []
  g_padded : mg "_padded" = some (.ref A.f_padded)
  k_padded : PySem.W.keepIn K (.ref A.f_padded) = true
  Fencode_message : Fun K "encode_message" "encode_message" s_encode_message A.fencode_message A.dencode_message
  bencode_message : Binds K A.dencode_message ["number", "opcode", "arguments"] []
  gencode_message : mg "encode_message" = some (.ref A.fencode_message)
  kencode_message : PySem.W.keepIn K (.ref A.fencode_message) = true
  Fevent_octets : Fun K "event_octets" "event_octets" s_event_octets A.fevent_octets A.devent_octets
  bevent_octets : Binds K A.devent_octets ["number", "interface", "name", "values"] []
  gevent_octets : mg "event_octets" = some (.ref A.fevent_octets)
  kevent_octets : PySem.W.keepIn K (.ref A.fevent_octets) = true
  F_opcode_of : Fun K "_opcode_of" "_opcode_of" s__opcode_of A.f_opcode_of A.d_opcode_of
  b_opcode_of : Binds K A.d_opcode_of ["rows", "name"] []
  g_opcode_of : mg "_opcode_of" = some (.ref A.f_opcode_of)
  k_opcode_of : PySem.W.keepIn K (.ref A.f_opcode_of) = true
  F_law_cell : Fun K "_law_cell" "_law_cell" s__law_cell A.f_law_cell A.d_law_cell
  b_law_cell : Binds K A.d_law_cell ["script", "k"] []
  g_law_cell : mg "_law_cell" = some (.ref A.f_law_cell)
  k_law_cell : PySem.W.keepIn K (.ref A.f_law_cell) = true
  F_law_row : Fun K "_law_row" "_law_row" s__law_row A.f_law_row A.d_law_row
  b_law_row : Binds K A.d_law_row ["script", "k"] []
  g_law_row : mg "_law_row" = some (.ref A.f_law_row)
  k_law_row : PySem.W.keepIn K (.ref A.f_law_row) = true
  F_law_serve : Fun K "_law_serve" "_law_serve" s__law_serve A.f_law_serve A.d_law_serve
  b_law_serve : Binds K A.d_law_serve ["holdings", "row", "grant", "gripped", "dragging"] []
  g_law_serve : mg "_law_serve" = some (.ref A.f_law_serve)
  k_law_serve : PySem.W.keepIn K (.ref A.f_law_serve) = true
  F_law_size : Fun K "_law_size" "_law_size" s__law_size A.f_law_size A.d_law_size
  b_law_size : Binds K A.d_law_size ["row"] []
  g_law_size : mg "_law_size" = some (.ref A.f_law_size)
  k_law_size : PySem.W.keepIn K (.ref A.f_law_size) = true
  F_law_ask : Fun K "_law_ask" "_law_ask" s__law_ask A.f_law_ask A.d_law_ask
  b_law_ask : Binds K A.d_law_ask ["holdings", "captures", "k", "row"] []
  g_law_ask : mg "_law_ask" = some (.ref A.f_law_ask)
  k_law_ask : PySem.W.keepIn K (.ref A.f_law_ask) = true
  F_law_answer : Fun K "_law_answer" "_law_answer" s__law_answer A.f_law_answer A.d_law_answer
  b_law_answer : Binds K A.d_law_answer ["holdings", "one", "row"] []
  g_law_answer : mg "_law_answer" = some (.ref A.f_law_answer)
  k_law_answer : PySem.W.keepIn K (.ref A.f_law_answer) = true
  F_law_read : Fun K "_law_read" "_law_read" s__law_read A.f_law_read A.d_law_read
  b_law_read : Binds K A.d_law_read ["holdings", "one", "row"] []
  g_law_read : mg "_law_read" = some (.ref A.f_law_read)
  k_law_read : PySem.W.keepIn K (.ref A.f_law_read) = true
  Flaw : Fun K "law" "law" s_law A.flaw A.dlaw
  blaw : Binds K A.dlaw ["script"] []
  glaw : mg "law" = some (.ref A.flaw)
  klaw : PySem.W.keepIn K (.ref A.flaw) = true
  FFault___init__ : FunSup K "__init__" "Fault.__init__" s_Fault___init__ A.fFault___init__ A.dFault___init__ A.CFault
  bFault___init__ : Binds K A.dFault___init__ ["self", "number", "code", "words"] []
  MFault : PySem.W.findIn K (.ref A.CFault) "__init__" = some (some (.ref A.fFault___init__))
  TFault : PySem.W.typeIn K (.ref A.fFault___init__) = some (.type "function")
  FCaptures___init__ : Fun K "__init__" "Captures.__init__" s_Captures___init__ A.fCaptures___init__ A.dCaptures___init__
  bCaptures___init__ : Binds K A.dCaptures___init__ ["self"] []
  MCaptures : Mk K A.CCaptures A.fCaptures___init__
  FCaptures_make : Fun K "make" "Captures.make" s_Captures_make A.fCaptures_make A.dCaptures_make
  bCaptures_make : Binds K A.dCaptures_make ["self", "request"] []
  mCaptures_make : Meth K A.CCaptures "make" A.fCaptures_make
  FCaptures_answered : Fun K "answered" "Captures.answered" s_Captures_answered A.fCaptures_answered A.dCaptures_answered
  bCaptures_answered : Binds K A.dCaptures_answered ["self", "number", "picture", "reply"] []
  mCaptures_answered : Meth K A.CCaptures "answered" A.fCaptures_answered
  FCaptures_read : Fun K "read" "Captures.read" s_Captures_read A.fCaptures_read A.dCaptures_read
  bCaptures_read : Binds K A.dCaptures_read ["self", "request", "reply"] []
  mCaptures_read : Meth K A.CCaptures "read" A.fCaptures_read
  FCaptures_forget : Fun K "forget" "Captures.forget" s_Captures_forget A.fCaptures_forget A.dCaptures_forget
  bCaptures_forget : Binds K A.dCaptures_forget ["self", "number"] []
  mCaptures_forget : Meth K A.CCaptures "forget" A.fCaptures_forget
  FFetch___init__ : Fun K "__init__" "Fetch.__init__" s_Fetch___init__ A.fFetch___init__ A.dFetch___init__
  bFetch___init__ : Binds K A.dFetch___init__ ["self", "name"] []
  MFetch : Mk K A.CFetch A.fFetch___init__
  FWatch___init__ : Fun K "__init__" "Watch.__init__" s_Watch___init__ A.fWatch___init__ A.dWatch___init__
  bWatch___init__ : Binds K A.dWatch___init__ ["self", "label"] []
  MWatch : Mk K A.CWatch A.fWatch___init__
  FFetches___init__ : Fun K "__init__" "Fetches.__init__" s_Fetches___init__ A.fFetches___init__ A.dFetches___init__
  bFetches___init__ : Binds K A.dFetches___init__ ["self"] []
  MFetches : Mk K A.CFetches A.fFetches___init__
  FFetches_make_fetch : Fun K "make_fetch" "Fetches.make_fetch" s_Fetches_make_fetch A.fFetches_make_fetch A.dFetches_make_fetch
  bFetches_make_fetch : Binds K A.dFetches_make_fetch ["self", "request"] []
  mFetches_make_fetch : Meth K A.CFetches "make_fetch" A.fFetches_make_fetch
  FFetches_make_watch : Fun K "make_watch" "Fetches.make_watch" s_Fetches_make_watch A.fFetches_make_watch A.dFetches_make_watch
  bFetches_make_watch : Binds K A.dFetches_make_watch ["self", "request"] []
  mFetches_make_watch : Meth K A.CFetches "make_watch" A.fFetches_make_watch
  FFetches_read : Fun K "read" "Fetches.read" s_Fetches_read A.fFetches_read A.dFetches_read
  bFetches_read : Binds K A.dFetches_read ["self", "request", "reply"] []
  mFetches_read : Meth K A.CFetches "read" A.fFetches_read
  FFetches_forget : Fun K "forget" "Fetches.forget" s_Fetches_forget A.fFetches_forget A.dFetches_forget
  bFetches_forget : Binds K A.dFetches_forget ["self", "number"] []
  mFetches_forget : Meth K A.CFetches "forget" A.fFetches_forget
  FOffers___init__ : Fun K "__init__" "Offers.__init__" s_Offers___init__ A.fOffers___init__ A.dOffers___init__
  bOffers___init__ : Binds K A.dOffers___init__ ["self"] []
  MOffers : Mk K A.COffers A.fOffers___init__
  FOffers_forget : Fun K "forget" "Offers.forget" s_Offers_forget A.fOffers_forget A.dOffers_forget
  bOffers_forget : Binds K A.dOffers_forget ["self", "number"] []
  mOffers_forget : Meth K A.COffers "forget" A.fOffers_forget
  FOffers_read : Fun K "read" "Offers.read" s_Offers_read A.fOffers_read A.dOffers_read
  bOffers_read : Binds K A.dOffers_read ["self", "request", "reply"] []
  mOffers_read : Meth K A.COffers "read" A.fOffers_read
  FSource___init__ : Fun K "__init__" "Source.__init__" s_Source___init__ A.fSource___init__ A.dSource___init__
  bSource___init__ : Binds K A.dSource___init__ ["self"] []
  MSource : Mk K A.CSource A.fSource___init__
  FSources___init__ : Fun K "__init__" "Sources.__init__" s_Sources___init__ A.fSources___init__ A.dSources___init__
  bSources___init__ : Binds K A.dSources___init__ ["self"] []
  MSources : Mk K A.CSources A.fSources___init__
  FSources_make : Fun K "make" "Sources.make" s_Sources_make A.fSources_make A.dSources_make
  bSources_make : Binds K A.dSources_make ["self", "request"] []
  mSources_make : Meth K A.CSources "make" A.fSources_make
  FSources_write : Fun K "write" "Sources.write" s_Sources_write A.fSources_write A.dSources_write
  bSources_write : Binds K A.dSources_write ["self", "request"] []
  mSources_write : Meth K A.CSources "write" A.fSources_write
  FSources_is_used : Fun K "is_used" "Sources.is_used" s_Sources_is_used A.fSources_is_used A.dSources_is_used
  bSources_is_used : Binds K A.dSources_is_used ["self", "number"] []
  mSources_is_used : Meth K A.CSources "is_used" A.fSources_is_used
  FSources_use_up : Fun K "use_up" "Sources.use_up" s_Sources_use_up A.fSources_use_up A.dSources_use_up
  bSources_use_up : Binds K A.dSources_use_up ["self", "number"] []
  mSources_use_up : Meth K A.CSources "use_up" A.fSources_use_up
  FSources_forget : Fun K "forget" "Sources.forget" s_Sources_forget A.fSources_forget A.dSources_forget
  bSources_forget : Binds K A.dSources_forget ["self", "number"] []
  mSources_forget : Meth K A.CSources "forget" A.fSources_forget
  FSources__fresh : Fun K "_fresh" "Sources._fresh" s_Sources__fresh A.fSources__fresh A.dSources__fresh
  bSources__fresh : Binds K A.dSources__fresh ["self"] []
  mSources__fresh : Meth K A.CSources "_fresh" A.fSources__fresh
  FHoldings___init__ : Fun K "__init__" "Holdings.__init__" s_Holdings___init__ A.fHoldings___init__ A.dHoldings___init__
  bHoldings___init__ : Binds K A.dHoldings___init__ ["self"] []
  MHoldings : Mk K A.CHoldings A.fHoldings___init__
  FHoldings_serve : Fun K "serve" "Holdings.serve" s_Holdings_serve A.fHoldings_serve A.dHoldings_serve
  bHoldings_serve : Binds K A.dHoldings_serve ["self", "request", "grant", "gripped", "dragging", "reply"] []
  mHoldings_serve : Meth K A.CHoldings "serve" A.fHoldings_serve
  FHoldings_ended : Fun K "ended" "Holdings.ended" s_Holdings_ended A.fHoldings_ended A.dHoldings_ended
  bHoldings_ended : Binds K A.dHoldings_ended ["self", "number"] []
  mHoldings_ended : Meth K A.CHoldings "ended" A.fHoldings_ended
  FHoldings_answered : Fun K "answered" "Holdings.answered" s_Holdings_answered A.fHoldings_answered A.dHoldings_answered
  bHoldings_answered : Binds K A.dHoldings_answered ["self", "number", "picture", "reply"] []
  mHoldings_answered : Meth K A.CHoldings "answered" A.fHoldings_answered
  FHoldings__serve_transfer : Fun K "_serve_transfer" "Holdings._serve_transfer" s_Holdings__serve_transfer A.fHoldings__serve_transfer A.dHoldings__serve_transfer
  bHoldings__serve_transfer : Binds K A.dHoldings__serve_transfer ["self", "request", "grant", "may_drag", "reply"] []
  mHoldings__serve_transfer : Meth K A.CHoldings "_serve_transfer" A.fHoldings__serve_transfer
  FHoldings__give : Fun K "_give" "Holdings._give" s_Holdings__give A.fHoldings__give A.dHoldings__give
  bHoldings__give : Binds K A.dHoldings__give ["self", "request", "grant", "reply"] []
  mHoldings__give : Meth K A.CHoldings "_give" A.fHoldings__give
  FHoldings__send : Fun K "_send" "Holdings._send" s_Holdings__send A.fHoldings__send A.dHoldings__send
  bHoldings__send : Binds K A.dHoldings__send ["self", "request", "reply"] []
  mHoldings__send : Meth K A.CHoldings "_send" A.fHoldings__send
  FHoldings__unsend : Fun K "_unsend" "Holdings._unsend" s_Holdings__unsend A.fHoldings__unsend A.dHoldings__unsend
  bHoldings__unsend : Binds K A.dHoldings__unsend ["self", "request", "reply"] []
  mHoldings__unsend : Meth K A.CHoldings "_unsend" A.fHoldings__unsend
  FReply___init__ : Fun K "__init__" "Reply.__init__" s_Reply___init__ A.fReply___init__ A.dReply___init__
  bReply___init__ : Binds K A.dReply___init__ ["self"] []
  MReply : Mk K A.CReply A.fReply___init__
  FReply_tell : Fun K "tell" "Reply.tell" s_Reply_tell A.fReply_tell A.dReply_tell
  bReply_tell : Binds K A.dReply_tell ["self", "number", "interface", "name", "values"] []
  mReply_tell : Meth K A.CReply "tell" A.fReply_tell
  FReply_wish : Fun K "wish" "Reply.wish" s_Reply_wish A.fReply_wish A.dReply_wish
  bReply_wish : Binds K A.dReply_wish ["self", "deed"] []
  mReply_wish : Meth K A.CReply "wish" A.fReply_wish
  FRequest___init__ : Fun K "__init__" "Request.__init__" s_Request___init__ A.fRequest___init__ A.dRequest___init__
  bRequest___init__ : Binds K A.dRequest___init__ ["self", "number", "interface", "name", "arguments", "ends"] []
  MRequest : Mk K A.CRequest A.fRequest___init__
  all : mg "all" = none
  bool : mg "bool" = none
  int : mg "int" = none
  isinstance : mg "isinstance" = none
  len : mg "len" = none
  list : mg "list" = none
  max : mg "max" = none
  min : mg "min" = none
  ord : mg "ord" = none
  range : mg "range" = none
  str : mg "str" = none
  sum : mg "sum" = none
  super : mg "super" = none
  tuple : mg "tuple" = none
  zip : mg "zip" = none
  gLONGEST_SIDE : mg "LONGEST_SIDE" = some (.int (256) A.tLONGEST_SIDE)
  gMOST_PIXELS : mg "MOST_PIXELS" = some (.int (4096) A.tMOST_PIXELS)
  gMOST_CAPTURES : mg "MOST_CAPTURES" = some (.int (2) A.tMOST_CAPTURES)
  gMOST_READ_captures : mg "MOST_READ_captures" = some (.int (1024) A.tMOST_READ_captures)
  gLONGEST_TEXT_fetches : mg "LONGEST_TEXT_fetches" = some (.int (128) A.tLONGEST_TEXT_fetches)
  gMOST_FETCHES : mg "MOST_FETCHES" = some (.int (4) A.tMOST_FETCHES)
  gMOST_WATCHES : mg "MOST_WATCHES" = some (.int (8) A.tMOST_WATCHES)
  gMOST_READ_fetches : mg "MOST_READ_fetches" = some (.int (1024) A.tMOST_READ_fetches)
  gMOST_READ_offers : mg "MOST_READ_offers" = some (.int (1024) A.tMOST_READ_offers)
  gMOST_SOURCES : mg "MOST_SOURCES" = some (.int (8) A.tMOST_SOURCES)
  gMOST_KINDS : mg "MOST_KINDS" = some (.int (16) A.tMOST_KINDS)
  gMOST_OCTETS_sources : mg "MOST_OCTETS_sources" = some (.int (32768) A.tMOST_OCTETS_sources)
  gLONGEST_TEXT_sources : mg "LONGEST_TEXT_sources" = some (.int (128) A.tLONGEST_TEXT_sources)
  gMOST_SENT_OCTETS : mg "MOST_SENT_OCTETS" = some (.int (8192) A.tMOST_SENT_OCTETS)
  gMOST_SENT_NAMES : mg "MOST_SENT_NAMES" = some (.int (4) A.tMOST_SENT_NAMES)
  gGREATEST_NUMBER : mg "GREATEST_NUMBER" = some (.int (4294967295) A.tGREATEST_NUMBER)
  gLEAST_INT : mg "LEAST_INT" = some (.int (-2147483648) A.tLEAST_INT)
  gGREATEST_INT : mg "GREATEST_INT" = some (.int (2147483647) A.tGREATEST_INT)
  gLONGEST_TEXT_fields : mg "LONGEST_TEXT_fields" = some (.int (1000) A.tLONGEST_TEXT_fields)
  gMOST_OCTETS_fields : mg "MOST_OCTETS_fields" = some (.int (16384) A.tMOST_OCTETS_fields)
  g_FIRST_CODE : mg "_FIRST_CODE" = some (.int (32) A.t_FIRST_CODE)
  g_LAST_CODE : mg "_LAST_CODE" = some (.int (126) A.t_LAST_CODE)
  g_PERCENT_CODE : mg "_PERCENT_CODE" = some (.int (37) A.t_PERCENT_CODE)
  gHEADER_SIZE : mg "HEADER_SIZE" = some (.int (8) A.tHEADER_SIZE)
  gGREATEST_SIZE : mg "GREATEST_SIZE" = some (.int (20480) A.tGREATEST_SIZE)
  gGREATEST_OPCODE : mg "GREATEST_OPCODE" = some (.int (65535) A.tGREATEST_OPCODE)
  gMOST_ARGUMENTS : mg "MOST_ARGUMENTS" = some (.int (20) A.tMOST_ARGUMENTS)
  g_EVENTS : mg "_EVENTS" = some (.ref A.a_EVENTS)
  w_EVENTS_k11 : ∀ H : Hp, SqT K H A.a_EVENTS_k11 [.ref A.a_EVENTS_k11_0, .ref A.a_EVENTS_k11_1, .ref A.a_EVENTS_k11_2]
  w_EVENTS_k11_0 : ∀ H : Hp, SqT K H A.a_EVENTS_k11_0 [.str "allowed", .ref A.a_EVENTS_k11_0_1]
  w_EVENTS_k11_0_1 : ∀ H : Hp, SqT K H A.a_EVENTS_k11_0_1 [.str "uint", .str "uint"]
  w_EVENTS_k11_1 : ∀ H : Hp, SqT K H A.a_EVENTS_k11_1 [.str "refused", .ref A.a_EVENTS_k11_1_1]
  w_EVENTS_k11_1_1 : ∀ H : Hp, SqT K H A.a_EVENTS_k11_1_1 []
  w_EVENTS_k11_2 : ∀ H : Hp, SqT K H A.a_EVENTS_k11_2 [.str "rows", .ref A.a_EVENTS_k11_2_1]
  w_EVENTS_k11_2_1 : ∀ H : Hp, SqT K H A.a_EVENTS_k11_2_1 [.str "uint", .str "octets"]
  clCaptures : Cls K A.CCaptures
  gCaptures : mg "Captures" = some (.ref A.CCaptures)
  nCaptures__pictures : NoAttr K A.CCaptures "_pictures"
  clFetch : Cls K A.CFetch
  gFetch : mg "Fetch" = some (.ref A.CFetch)
  nFetch_name : NoAttr K A.CFetch "name"
  nFetch_octets : NoAttr K A.CFetch "octets"
  clWatch : Cls K A.CWatch
  gWatch : mg "Watch" = some (.ref A.CWatch)
  nWatch_label : NoAttr K A.CWatch "label"
  nWatch_told : NoAttr K A.CWatch "told"
  clFetches : Cls K A.CFetches
  gFetches : mg "Fetches" = some (.ref A.CFetches)
  nFetches__fetches : NoAttr K A.CFetches "_fetches"
  nFetches__watches : NoAttr K A.CFetches "_watches"
  clOffers : Cls K A.COffers
  gOffers : mg "Offers" = some (.ref A.COffers)
  nOffers__transfers : NoAttr K A.COffers "_transfers"
  nOffers__kept : NoAttr K A.COffers "_kept"
  nOffers__is_hovered : NoAttr K A.COffers "_is_hovered"
  clSource : Cls K A.CSource
  gSource : mg "Source" = some (.ref A.CSource)
  nSource_pieces : NoAttr K A.CSource "pieces"
  nSource_is_used : NoAttr K A.CSource "is_used"
  clSources : Cls K A.CSources
  gSources : mg "Sources" = some (.ref A.CSources)
  nSources__sources : NoAttr K A.CSources "_sources"
  clHoldings : Cls K A.CHoldings
  gHoldings : mg "Holdings" = some (.ref A.CHoldings)
  nHoldings__sources : NoAttr K A.CHoldings "_sources"
  nHoldings__offers : NoAttr K A.CHoldings "_offers"
  nHoldings__captures : NoAttr K A.CHoldings "_captures"
  nHoldings__fetches : NoAttr K A.CHoldings "_fetches"
  nHoldings__sent_names : NoAttr K A.CHoldings "_sent_names"
  clReply : Cls K A.CReply
  gReply : mg "Reply" = some (.ref A.CReply)
  nReply_told : NoAttr K A.CReply "told"
  nReply_ended : NoAttr K A.CReply "ended"
  nReply_wishes : NoAttr K A.CReply "wishes"
  nReply_applied : NoAttr K A.CReply "applied"
  clRequest : Cls K A.CRequest
  gRequest : mg "Request" = some (.ref A.CRequest)
  nRequest_number : NoAttr K A.CRequest "number"
  nRequest_interface : NoAttr K A.CRequest "interface"
  nRequest_name : NoAttr K A.CRequest "name"
  nRequest_arguments : NoAttr K A.CRequest "arguments"
  nRequest_ends : NoAttr K A.CRequest "ends"
  gBadMessage : mg "BadMessage" = some (.ref A.CBadMessage)
  xBadMessage : PySem.W.excIn K A.CBadMessage [.type "ValueError", .type "Exception", .type "BaseException", .type "object"] "ValueError.__new__" = true
  kBadMessage : PySem.W.keepIn K (.ref A.CBadMessage) = true
  bxBadMessage : PySem.W.subIn K (.ref A.CBadMessage) (.type "BaseException") = some true
  txBadMessage : PySem.W.typeIn K (.ref A.CBadMessage) = some (.type "type")
  exBadMessage : PySem.W.exmOne K (.ref A.CBadMessage) (.ref A.CBadMessage) = some true
  gMessageTooLong : mg "MessageTooLong" = some (.ref A.CMessageTooLong)
  xMessageTooLong : PySem.W.excIn K A.CMessageTooLong [.type "ValueError", .type "Exception", .type "BaseException", .type "object"] "ValueError.__new__" = true
  kMessageTooLong : PySem.W.keepIn K (.ref A.CMessageTooLong) = true
  bxMessageTooLong : PySem.W.subIn K (.ref A.CMessageTooLong) (.type "BaseException") = some true
  txMessageTooLong : PySem.W.typeIn K (.ref A.CMessageTooLong) = some (.type "type")
  exMessageTooLong : PySem.W.exmOne K (.ref A.CMessageTooLong) (.ref A.CMessageTooLong) = some true
  gFault : mg "Fault" = some (.ref A.CFault)
  oFault : OexC K A.CFault
  vFault : SupC K A.CFault A.CFault
  xfFault : XfC K A.CFault
  iXFault : ExcC K A.CFault
  kFault : PySem.W.keepIn K (.ref A.CFault) = true
  nFault_number : PySem.W.findIn K (.ref A.CFault) "number" = some none
  nFault_code : PySem.W.findIn K (.ref A.CFault) "code" = some none
  nFault_words : PySem.W.findIn K (.ref A.CFault) "words" = some none
  bxFault : PySem.W.subIn K (.ref A.CFault) (.type "BaseException") = some true
  txFault : PySem.W.typeIn K (.ref A.CFault) = some (.type "type")
  exFault : PySem.W.exmOne K (.ref A.CFault) (.ref A.CFault) = some true
structure Dic (w : World) (K : PySem.W.Frag) (A : Adr) : Prop where
  d_EVENTS_k11 : KDct K w A.a_EVENTS "capture" (.ref A.a_EVENTS_k11)
section
variable {P : Program} {w : World} {K : PySem.W.Frag} {mg : Str → Option Value} {base : Heap} {A : Adr}
/-! ### common: tests, errors, small words -/
theorem exm_self {K : PySem.W.Frag} {S : Addr} (h1 : PySem.W.subIn K (.ref S) (.type "BaseException") = some true) (h2 : PySem.W.isClsIn K S = true) (h3 : PySem.W.typeIn K (.ref S) = some (.type "type")) (h4 : PySem.W.subIn K (.ref S) (.ref S) = some true) :
    PySem.W.exmOne K (.ref S) (.ref S) = some true := by
  have g1 : (PySem.W.subIn K (.ref S) (.type "BaseException") == some true) = true := by rw [h1]; rfl
  have g0 : (PySem.W.clsIn K S).isSome = true := h2
  have g2 : ((PySem.W.clsIn K S).isSome && PySem.W.typeIn K (.ref S) == some (.type "type")) = true := by rw [g0, h3]; rfl
  show (if (PySem.W.subIn K (.ref S) (.type "BaseException") == some true) = true then (if ((PySem.W.clsIn K S).isSome && PySem.W.typeIn K (.ref S) == some (.type "type")) = true then PySem.W.subIn K (.ref S) (.ref S) else none) else none) = some true
  rw [if_pos g1, if_pos g2]
  exact h4
theorem exm_cross {K : PySem.W.Frag} {S R : Addr} {b : Bool} (h1 : PySem.W.subIn K (.ref S) (.type "BaseException") = some true) (h2 : PySem.W.isClsIn K S = true) (h3 : PySem.W.typeIn K (.ref S) = some (.type "type")) (h4 : PySem.W.subIn K (.ref R) (.ref S) = some b) :
    PySem.W.exmOne K (.ref R) (.ref S) = some b := by
  have g1 : (PySem.W.subIn K (.ref S) (.type "BaseException") == some true) = true := by rw [h1]; rfl
  have g0 : (PySem.W.clsIn K S).isSome = true := h2
  have g2 : ((PySem.W.clsIn K S).isSome && PySem.W.typeIn K (.ref S) == some (.type "type")) = true := by rw [g0, h3]; rfl
  show (if (PySem.W.subIn K (.ref S) (.type "BaseException") == some true) = true then (if ((PySem.W.clsIn K S).isSome && PySem.W.typeIn K (.ref S) == some (.type "type")) = true then PySem.W.subIn K (.ref R) (.ref S) else none) else none) = some b
  rw [if_pos g1, if_pos g2]
  exact h4
/-- the law's own promise -/
def sp_law (K : PySem.W.Frag) : Sp := fun vs H Q _ => ∃ (a : Addr) (ns : List Int), vs = [.ref a] ∧ SqL K H a (ns.map V.int) ∧ ns.length ≤ 63 ∧ ∀ H', Q (.bl true) H'
theorem iteP {p A B : Prop} [Decidable p] (h1 : p → A) (h2 : ¬ p → B) : if decide p = true then A else B := by
  by_cases h : p
  · rw [decide_eq_true h]; exact iteT (h1 h)
  · rw [decide_eq_false h]; exact iteF (h2 h)
theorem iteN {p A B : Prop} [Decidable p] (h1 : ¬ p → A) (h2 : p → B) : if (!decide p) = true then A else B := by
  by_cases h : p
  · rw [decide_eq_true h]; exact iteF (h2 h)
  · rw [decide_eq_false h]; exact iteT (h1 h)
theorem iteEq {i j : Int} {A B : Prop} (h1 : i = j → A) (h2 : i ≠ j → B) : if decide (V.int i = V.int j) = true then A else B :=
  iteP (fun h => h1 (V.int.inj h)) (fun h => h2 fun e => h (congrArg V.int e))
theorem iteNe {i j : Int} {A B : Prop} (h1 : i ≠ j → A) (h2 : i = j → B) : if (!decide (V.int i = V.int j)) = true then A else B :=
  iteN (fun h => h1 fun e => h (congrArg V.int e)) (fun h => h2 (V.int.inj h))
theorem if_t {b : Bool} {A B : Prop} (e : b = true) (h : A) : if b = true then A else B := by rw [if_pos e]; exact h
theorem if_f {b : Bool} {A B : Prop} (e : b = false) (h : B) : if b = true then A else B := by rw [e]; exact iteF h
theorem if_b {b : Bool} {A B : Prop} (h1 : b = true → A) (h2 : b = false → B) : if b = true then A else B := by
  cases b with
  | true => exact iteT (h1 rfl)
  | false => exact iteF (h2 rfl)
theorem same_upd {H : Hp} {p : Addr} {o : HO} (h : H p = none) : Same H (upd H p o) := fun b x e => by
  rw [upd_ne (ne_of_none e h)]
  exact e
theorem len_line {n : Nat} (h : n ≤ 100000) : n ≤ sizeLine := Nat.le_trans h (by decide)
theorem lt_line {n : Nat} (h : n < 100000) : n < sizeLine := Nat.lt_of_lt_of_le h (by decide)
local macro_rules | `(tactic| walk_at "rd") => `(tactic| repeat (first
  | refine ⟨_, rfl, ?_⟩
  | refine ⟨_, _, rfl, rfl, ?_⟩
  | refine ⟨rfl, ?_⟩
  | refine Or.inl ⟨_, rfl, ?_⟩
  | refine ⟨(by show (0 : Int) < _; decide), ?_⟩
  | refine ⟨(⟨by decide, by decide⟩ : CDiv _ _), ?_⟩
  | refine ⟨(Or.inl ⟨by decide, by decide⟩ : CMul _ _), ?_⟩
  | refine ⟨(Or.inr ⟨by decide, by decide⟩ : CMul _ _), ?_⟩))
/-! ### data that are compared -/
def Sh (n : Nat) (d : PyData) : Prop := d.canLay0 = true ∧ d.depth ≤ n
theorem Sh.mono {n m : Nat} {d : PyData} (h : Sh n d) (l : n ≤ m) : Sh m d := ⟨h.1, Nat.le_trans h.2 l⟩
theorem sh_all : ∀ {n : Nat} {ds : List PyData}, (∀ d ∈ ds, Sh n d) → PyData.canLayAll0 ds = true ∧ PyData.depthAll ds ≤ n
  | n, [], _ => ⟨by simp [PyData.canLayAll0], by simp [PyData.depthAll]⟩
  | n, d :: ds, h => by
    have h1 := h d List.mem_cons_self
    have h2 := sh_all fun e he => h e (List.mem_cons_of_mem _ he)
    refine ⟨?_, ?_⟩
    · simp only [PyData.canLayAll0, Bool.and_eq_true]; exact ⟨h1.1, h2.1⟩
    · simp only [PyData.depthAll]; exact Nat.max_le.mpr ⟨h1.2, h2.2⟩
theorem sh_list {n : Nat} {ds : List PyData} (h : ∀ d ∈ ds, Sh n d) : Sh (n + 1) (.list ds) := by
  have q := sh_all h
  exact ⟨by simp only [PyData.canLay0]; exact q.1, by simp only [PyData.depth]; exact Nat.succ_le_succ q.2⟩
theorem sh_tuple {n : Nat} {ds : List PyData} (h : ∀ d ∈ ds, Sh n d) : Sh (n + 1) (.tuple ds) := by
  have q := sh_all h
  exact ⟨by simp only [PyData.canLay0]; exact q.1, by simp only [PyData.depth]; exact Nat.succ_le_succ q.2⟩
theorem sh_int (i : Int) : Sh 0 (.int i) := ⟨by simp [PyData.canLay0], by simp [PyData.depth]⟩
theorem sh_bool (i : Bool) : Sh 0 (.bool i) := ⟨by simp [PyData.canLay0], by simp [PyData.depth]⟩
theorem sh_none : Sh 0 .none := ⟨by simp [PyData.canLay0], by simp [PyData.depth]⟩
theorem sh_str {s : Str} (h : PyData.strOk s = true) : Sh 0 (.str s) := ⟨by simp only [PyData.canLay0]; exact h, by simp [PyData.depth]⟩
theorem Sh.shaped {n : Nat} {d : PyData} (h : Sh n d) (l : n ≤ 64 := by decide) : SeqAt.shaped d = true := by
  show (d.canLay0 && decide (d.depth ≤ 64)) = true
  rw [h.1, decide_eq_true (Nat.le_trans h.2 l)]
  rfl
theorem Sh.self {n : Nat} {d : PyData} (h : Sh n d) : PyData.eqv d d = true := SeqAt.eqv_refl d h.1
def pInts (xs : List Int) : PyData := .list (xs.map PyData.int)
theorem sh_ints (xs : List Int) : Sh 1 (pInts xs) := sh_list fun d hd => by
  obtain ⟨i, _, rfl⟩ := List.mem_map.mp hd
  exact sh_int i
theorem dpall_ints {K : PySem.W.Frag} {H : Hp} : ∀ xs : List Int, DpAll K H (xs.map V.int) (xs.map PyData.int)
  | [] => .nil
  | x :: r => .cons (.int x) (dpall_ints r)
theorem dp_ints {K : PySem.W.Frag} {H : Hp} {p : Addr} {xs : List Int} (h : SqL K H p (xs.map V.int)) : Dp K H (.ref p) (pInts xs) := .lst h (dpall_ints xs)
/-! ### views: what is new, what stands -/
structure Ext (V H V' H' : Hp) : Prop where
  vv : Same V V'
  vh : Same V' H'
  hh : Same H H'
  nw : ∀ a, V' a ≠ none → V a ≠ none ∨ H a = none
theorem Ext.refl {V H : Hp} (h : Same V H) : Ext V H V H := ⟨Same.refl V, h, Same.refl H, fun _ h => Or.inl h⟩
theorem Ext.trans {V H V1 H1 V2 H2 : Hp} (a : Ext V H V1 H1) (b : Ext V1 H1 V2 H2) : Ext V H V2 H2 :=
  ⟨a.vv.trans b.vv, b.vh, a.hh.trans b.hh, fun x h => by
    rcases b.nw x h with q | q
    · exact a.nw x q
    · exact Or.inr (a.hh.free q)⟩
theorem none_of_same {V H : Hp} {p : Addr} (s : Same V H) (h : H p = none) : V p = none := s.free h
theorem Ext.new {V H : Hp} {p : Addr} {o : HO} (s : Same V H) (h : H p = none) : Ext V H (upd V p o) (upd H p o) :=
  ⟨same_upd (s.free h), fun b u e => by
    by_cases hb : b = p
    · subst hb; rw [upd_same] at e ⊢; exact e
    · rw [upd_ne hb] at e ⊢; exact s b u e, same_upd h, fun a e => by
    by_cases ha : a = p
    · subst ha; exact Or.inr h
    · rw [upd_ne ha] at e; exact Or.inl e⟩
/-- a new object that the view does not take in -/
theorem Ext.skip {V H : Hp} {p : Addr} {o : HO} (s : Same V H) (h : H p = none) : Ext V H V (upd H p o) :=
  ⟨Same.refl V, s.trans (same_upd h), same_upd h, fun _ e => Or.inl e⟩
theorem Ext.keepOut {V H V' H' : Hp} (x : Ext V H V' H') {D : Addr} (h : V D = none) (hd : H D ≠ none) : V' D = none := by
  cases e : V' D with
  | none => rfl
  | some o =>
    rcases x.nw D (by rw [e]; exact fun z => by cases z) with q | q
    · exact absurd h q
    · exact absurd q hd
/-- an object outside of the view changes -/
theorem Ext.poke {V H V' H' : Hp} (x : Ext V H V' H') {D : Addr} {o : HO} (hd : H D = none) (h : V' D = none) : Ext V H V' (upd H' D o) :=
  ⟨x.vv, fun b u e => by
    have hb : b ≠ D := fun z => by rw [z, h] at e; cases e
    rw [upd_ne hb]; exact x.vh b u e, fun b u e => by
    have hb : b ≠ D := ne_of_none e hd
    rw [upd_ne hb]; exact x.hh b u e, x.nw⟩
/-- the object at D, done, is taken in -/
theorem Ext.take {V H V' H' : Hp} (x : Ext V H V' H') {D : Addr} {o : HO} (hd : H D = none) (h : V' D = none) (e : H' D = some o) : Ext V H (upd V' D o) H' :=
  ⟨x.vv.trans (same_upd h), fun b u q => by
    by_cases hb : b = D
    · subst hb; rw [upd_same] at q; rw [e]; exact q
    · rw [upd_ne hb] at q; exact x.vh b u q, x.hh, fun a q => by
    by_cases ha : a = D
    · subst ha; exact Or.inr hd
    · rw [upd_ne ha] at q; exact x.nw a q⟩
theorem _root_.L2.Same.sqt {K : PySem.W.Frag} {H H' : Hp} {a : Addr} {xs : List V} (e : Same H H') (h : SqT K H a xs) : SqT K H' a xs := by
  rcases h with (h | ⟨o, h⟩) | h
  · exact .inl (.inl (e _ _ h))
  · exact .inl (.inr ⟨o, e _ _ h⟩)
  · exact .inr h
mutual
theorem dp_same {K : PySem.W.Frag} {H H' : Hp} (s : Same H H') : ∀ (d : PyData) (v : V), Dp K H v d → Dp K H' v d
  | .none, _, h => by cases h; exact .non
  | .bool b, _, h => by cases h; exact .bl b
  | .int i, _, h => by cases h; exact .int i
  | .str x, _, h => by cases h; exact .str x
  | .list ds, _, h => by
    cases h with
    | lst q r => exact .lst (s.seq q) (dpall_same s ds _ r)
  | .tuple ds, _, h => by
    cases h with
    | tup q r => exact .tup (s.sqt q) (dpall_same s ds _ r)
  | .dict _, _, h => by cases h
theorem dpall_same {K : PySem.W.Frag} {H H' : Hp} (s : Same H H') : ∀ (ds : List PyData) (vs : List V), DpAll K H vs ds → DpAll K H' vs ds
  | [], _, h => by cases h; exact .nil
  | d :: ds, _, h => by
    cases h with
    | cons q r => exact .cons (dp_same s d _ q) (dpall_same s ds _ r)
end
theorem _root_.L2.Dp.to {K : PySem.W.Frag} {H H' : Hp} {v : V} {d : PyData} (h : Dp K H v d) (s : Same H H') : Dp K H' v d := dp_same s d v h
theorem _root_.L2.DpAll.to {K : PySem.W.Frag} {H H' : Hp} {v : List V} {d : List PyData} (h : DpAll K H v d) (s : Same H H') : DpAll K H' v d := dpall_same s d v h
theorem dpall_len {K : PySem.W.Frag} {H : Hp} : ∀ {vs : List V} {ds : List PyData}, DpAll K H vs ds → vs.length = ds.length
  | _, [], h => by cases h; rfl
  | _, d :: ds, h => by
    cases h with
    | cons q r => exact congrArg (· + 1) (dpall_len r)
theorem dpall_get {K : PySem.W.Frag} {H : Hp} : ∀ {vs : List V} {ds : List PyData} {i : Nat} {v : V}, DpAll K H vs ds → vs[i]? = some v → ∃ d, ds[i]? = some d ∧ Dp K H v d
  | _, [], i, v, h, e => by cases h; cases e
  | _, d :: ds, i, v, h, e => by
    cases h with
    | cons q r =>
      match i, e with
      | 0, e => cases e; exact ⟨d, rfl, q⟩
      | i + 1, e => exact dpall_get (i := i) r e
theorem dpall_get' {K : PySem.W.Frag} {H : Hp} : ∀ {vs : List V} {ds : List PyData} {i : Nat} {d : PyData}, DpAll K H vs ds → ds[i]? = some d → ∃ v, vs[i]? = some v ∧ Dp K H v d
  | _, [], i, d, h, e => by cases e
  | _, d :: ds, i, d', h, e => by
    cases h with
    | cons q r =>
      match i, e with
      | 0, e => cases e; exact ⟨_, rfl, q⟩
      | i + 1, e => exact dpall_get' (i := i) r e
theorem dpall_app {K : PySem.W.Frag} {H : Hp} : ∀ {vs ws : List V} {ds es : List PyData}, DpAll K H vs ds → DpAll K H ws es → DpAll K H (vs ++ ws) (ds ++ es)
  | _, _, [], _, h, g => by cases h; exact g
  | _, _, d :: ds, _, h, g => by
    cases h with
    | cons q r => exact .cons q (dpall_app r g)
theorem dp_list {K : PySem.W.Frag} {H : Hp} {v : V} {ds : List PyData} (h : Dp K H v (.list ds)) : ∃ a xs, v = .ref a ∧ SqL K H a xs ∧ DpAll K H xs ds := by
  cases h with
  | lst q r => exact ⟨_, _, rfl, q, r⟩
theorem dp_tuple {K : PySem.W.Frag} {H : Hp} {v : V} {ds : List PyData} (h : Dp K H v (.tuple ds)) : ∃ a xs, v = .ref a ∧ SqT K H a xs ∧ DpAll K H xs ds := by
  cases h with
  | tup q r => exact ⟨_, _, rfl, q, r⟩
theorem dp_int {K : PySem.W.Frag} {H : Hp} {v : V} {i : Int} (h : Dp K H v (.int i)) : v = .int i := by cases h; rfl
theorem dp_str {K : PySem.W.Frag} {H : Hp} {v : V} {i : Str} (h : Dp K H v (.str i)) : v = .str i := by cases h; rfl
theorem dp_bool {K : PySem.W.Frag} {H : Hp} {v : V} {i : Bool} (h : Dp K H v (.bool i)) : v = .bl i := by cases h; rfl
/-! ### comprehensions over any walk -/
def fm {α : Type} (f : Nat → Option α) (n : Nat) : List α := (List.range n).filterMap f
theorem fm_succ {α : Type} (f : Nat → Option α) (n : Nat) : fm f (n + 1) = fm f n ++ (f n).toList := by
  unfold fm
  rw [List.range_succ, List.filterMap_append]
  congr 1
theorem fm_len {α : Type} (f : Nat → Option α) (n : Nat) : (fm f n).length ≤ n := by
  have h := List.length_filterMap_le f (List.range n)
  rw [List.length_range] at h
  exact h
structure LcInv (K : PySem.W.Frag) (V0 H0 : Hp) (D : Addr) (acc : List PyData) (H : Hp) : Prop where
  ex : ∃ V xs, Ext V0 H0 V H ∧ V D = none ∧ H D = some (.lst xs) ∧ DpAll K V xs acc
theorem LcInv.start {K : PySem.W.Frag} {V0 H0 : Hp} {D : Addr} (s : Same V0 H0) (hD : H0 D = none) : LcInv K V0 H0 D [] (upd H0 D (.lst [])) :=
  ⟨V0, [], Ext.skip s hD, s.free hD, upd_same, .nil⟩
theorem LcInv.done {K : PySem.W.Frag} {V0 H0 H : Hp} {D : Addr} {acc : List PyData} (hD : H0 D = none) (i : LcInv K V0 H0 D acc H) : ∃ U xs, Ext V0 H0 U H ∧ U D = some (.lst xs) ∧ DpAll K U xs acc ∧ Dp K U (.ref D) (.list acc) := by
  obtain ⟨V, xs, x, hv, hd, dp⟩ := i.ex
  exact ⟨_, xs, x.take hD hv hd, upd_same, dp.to (same_upd hv), .lst (SqL.of upd_same) (dp.to (same_upd hv))⟩
/-- one more item -/
theorem LcInv.push {K : PySem.W.Frag} {V0 H0 U H U' H' : Hp} {D : Addr} {acc : List PyData} {xs : List V} {y : V} {d : PyData} (hD : H0 D = none) (x : Ext V0 H0 U H) (hv : U D = none) (hd : H D = some (.lst xs)) (dp : DpAll K U xs acc)
    (x2 : Ext U H U' H') (e : Dp K U' y d) (hl : acc.length < 100000) :
    ∃ acc', H' D = some (.lst acc') ∧ acc'.length < sizeLine ∧ LcInv K V0 H0 D (acc ++ [d]) (upd H' D (.lst (acc' ++ [y]))) := by
  have hv' : U' D = none := x2.keepOut hv (by rw [hd]; exact fun z => by cases z)
  refine ⟨xs, x2.hh _ _ hd, lt_line (by rw [dpall_len dp]; exact hl), U', xs ++ [y], (x.trans x2).poke hD hv', hv', upd_same, dpall_app (dp.to x2.vv) (.cons e .nil)⟩
/-- a comprehension's reading over a walk that leaves the heap as it is: at turn i the item x, then f i: the data of what is put in, or none -/
theorem lc_dp0 {J : It} {n : Nat} {G : Hp → Prop} {Y : Nat → Hp → V → Hp → Prop} (wk : Walk J n G Y) {K : PySem.W.Frag} {V0 H0 : Hp} {D : Addr} {g : TG} {tt : TT} {te : TE} {vs : List Nat} {σ : St} {Qd : Hp → Prop} (f : Nat → Option PyData) (σ0 : St) (hσ : wipe σ vs = σ0) (s0 : Same V0 H0) (hD : H0 D = none) (hn : n < 100000)
    (hG : ∀ H, Same H0 H → G H) (hY : ∀ i H x H', Y i H x H' → H' = H)
    (hs : ∀ i x V H, i < n → Ext V0 H0 V H → Y i H x H → ∀ (Qy : VK) (Qn : Hp → Prop), (∀ d y V' H', f i = some d → Ext V H V' H' → Dp K V' y d → Qy y H') → (f i = none → ∀ V' H', Ext V H V' H' → Qn H') →
      g x σ0 H fun σ2 H2 => wipe σ2 vs = σ0 ∧ tt σ2 H2 fun b H3 => if b = true then te σ2 H3 Qy else Qn H3)
    (hd : ∀ (U H : Hp) (xs : List V), Ext V0 H0 U H → U D = none → H D = some (.lst xs) → DpAll K U xs (fm f n) → Qd H) :
    ∃ W : Nat → Nat → Hp → Prop, (∃ m, W 0 m (upd H0 D (.lst []))) ∧ ∀ i m H, W i m H →
      (J.stop i H ∧ Qd H) ∨ (J.go i H ∧ ∃ Nx : Hp → Prop, (∀ H', Nx H' → ∃ m', m' < m ∧ W (i + 1) m' H') ∧ ∀ x H', J.yld i H x H' → g x (wipe σ vs) H' fun σ2 H2 => wipe σ2 vs = wipe σ vs ∧ tt σ2 H2 fun b H3 =>
        if b = true then te σ2 H3 fun y H4 => ∃ acc, H4 D = some (.lst acc) ∧ acc.length < sizeLine ∧ Nx (upd H4 D (.lst (acc ++ [y]))) else Nx H3) := by
  subst hσ
  refine lc_it wk (fun i H => LcInv K V0 H0 D (fm f i) H) (LcInv.start s0 hD) (fun i H _ p => ?_) (fun i x H H' hi p y => ?_) (fun H p => ?_)
  · obtain ⟨V, xs, x, _⟩ := p.ex
    exact hG H x.hh
  · obtain ⟨V, xs, x0, hv, hdd, dp⟩ := p.ex
    obtain rfl := hY i H x H' y
    refine hs i x V H' hi x0 y _ _ (fun d y' V' H4 e x2 dy => ?_) (fun e V' H4 x2 => ?_)
    · have hl : (fm f i).length < 100000 := Nat.lt_of_le_of_lt (fm_len f i) (Nat.lt_trans hi hn)
      obtain ⟨acc', a1, a2, a3⟩ := LcInv.push hD x0 hv hdd dp x2 dy hl
      refine ⟨acc', a1, a2, ?_⟩
      rw [fm_succ, e]
      exact a3
    · have hv' : V' D = none := x2.keepOut hv (by rw [hdd]; exact fun z => by cases z)
      rw [fm_succ, e]
      show LcInv K V0 H0 D (fm f i ++ []) H4
      rw [List.append_nil]
      exact ⟨V', xs, x0.trans x2, hv', x2.hh _ _ hdd, dp.to x2.vv⟩
  · obtain ⟨U, xs, x, hv, hdd, dp⟩ := p.ex
    exact hd U H xs x hv hdd dp
/-- a comprehension's reading over a walk that leaves the heap as it is: at turn i the item x, then f i: the data of what is put in, or none -/
theorem lc_dp {J : It} {n : Nat} {G : Hp → Prop} {Y : Nat → Hp → V → Hp → Prop} (wk : Walk J n G Y) {K : PySem.W.Frag} {V0 H0 : Hp} {D : Addr} {g : TG} {tt : TT} {te : TE} {vs : List Nat} {σ : St} {Qd : Hp → Prop} (f : Nat → Option PyData) (σ0 : St) (hσ : wipe σ vs = σ0) (s0 : Same V0 H0) (hD : H0 D = none) (hn : n < 100000)
    (hG : ∀ H, Same H0 H → G H) (hY : ∀ i H x H', Y i H x H' → H' = H)
    (hs : ∀ i x V H, i < n → Ext V0 H0 V H → Y i H x H → ∀ (Qy : VK) (Qn : Hp → Prop), (∀ d y V' H', f i = some d → Ext V H V' H' → Dp K V' y d → Qy y H') → (f i = none → ∀ V' H', Ext V H V' H' → Qn H') →
      g x σ0 H fun σ2 H2 => wipe σ2 vs = σ0 ∧ tt σ2 H2 fun b H3 => if b = true then te σ2 H3 Qy else Qn H3)
    (hd : ∀ (U H : Hp) (xs : List V), Ext V0 H0 U H → U D = some (.lst xs) → DpAll K U xs (fm f n) → Dp K U (.ref D) (.list (fm f n)) → Qd H) :
    ∃ W : Nat → Nat → Hp → Prop, (∃ m, W 0 m (upd H0 D (.lst []))) ∧ ∀ i m H, W i m H →
      (J.stop i H ∧ Qd H) ∨ (J.go i H ∧ ∃ Nx : Hp → Prop, (∀ H', Nx H' → ∃ m', m' < m ∧ W (i + 1) m' H') ∧ ∀ x H', J.yld i H x H' → g x (wipe σ vs) H' fun σ2 H2 => wipe σ2 vs = wipe σ vs ∧ tt σ2 H2 fun b H3 =>
        if b = true then te σ2 H3 fun y H4 => ∃ acc, H4 D = some (.lst acc) ∧ acc.length < sizeLine ∧ Nx (upd H4 D (.lst (acc ++ [y]))) else Nx H3) := by
  refine lc_dp0 wk f σ0 hσ s0 hD hn hG hY hs fun U H xs x hv hdd dp => ?_
  exact hd _ H xs (x.take hD hv hdd) upd_same (dp.to (same_upd hv)) (.lst (SqL.of upd_same) (dp.to (same_upd hv)))
theorem fm_map {α β : Type} (f : α → β) : ∀ (xs : List α), fm (fun i => (xs[i]?).map f) xs.length = xs.map f := by
  intro xs
  have h : ∀ n, n ≤ xs.length → fm (fun i => (xs[i]?).map f) n = (xs.take n).map f := by
    intro n
    induction n with
    | zero => intro _; rfl
    | succ n ih =>
      intro hn
      rw [fm_succ, ih (by omega), List.getElem?_eq_getElem (by omega), List.take_succ_eq_append_getElem (by omega), List.map_append]
      rfl
  rw [h _ (Nat.le_refl _), List.take_length]

theorem lc2_outer {J : It} {n : Nat} {G : Hp → Prop} {Y : Nat → Hp → V → Hp → Prop} (wk : Walk J n G Y) {K : PySem.W.Frag} {V0 H0 : Hp} {D : Addr} {g : TG} {vs : List Nat} {σ : St} {body : St → Hp → (Hp → Prop) → Prop} {Qd : Hp → Prop} (F : Nat → List PyData) (σ0 : St) (hσ : wipe σ vs = σ0) (s0 : Same V0 H0) (hD : H0 D = none) (hF : F 0 = [])
    (hG : ∀ H, Same H0 H → G H) (hY : ∀ i H x H', Y i H x H' → H' = H)
    (hs : ∀ i x H, i < n → LcInv K V0 H0 D (F i) H → Y i H x H → ∀ Nx : Hp → Prop, (∀ H', LcInv K V0 H0 D (F (i + 1)) H' → Nx H') → g x σ0 H fun σ2 H2 => wipe σ2 vs = σ0 ∧ body σ2 H2 Nx)
    (hd : ∀ (U H : Hp) (xs : List V), Ext V0 H0 U H → U D = some (.lst xs) → DpAll K U xs (F n) → Dp K U (.ref D) (.list (F n)) → Qd H) :
    ∃ W : Nat → Nat → Hp → Prop, (∃ m, W 0 m (upd H0 D (.lst []))) ∧ ∀ i m H, W i m H →
      (J.stop i H ∧ Qd H) ∨ (J.go i H ∧ ∃ Nx : Hp → Prop, (∀ H', Nx H' → ∃ m', m' < m ∧ W (i + 1) m' H') ∧ ∀ x H', J.yld i H x H' → g x (wipe σ vs) H' fun σ2 H2 => wipe σ2 vs = wipe σ vs ∧ body σ2 H2 Nx) := by
  subst hσ
  refine ⟨fun i m H => m = n - i ∧ i ≤ n ∧ LcInv K V0 H0 D (F i) H, ⟨n, by simp, Nat.zero_le _, by rw [hF]; exact LcInv.start s0 hD⟩, ?_⟩
  rintro i m H ⟨rfl, hi, p⟩
  have sH : Same H0 H := by obtain ⟨_, _, x, _⟩ := p.ex; exact x.hh
  by_cases hlt : i < n
  · refine .inr ⟨wk.goes i H hlt (hG H sH), fun H' => LcInv K V0 H0 D (F (i + 1)) H', fun H' p' => ⟨n - (i + 1), by omega, rfl, hlt, p'⟩, fun x H' y => ?_⟩
    have y' := wk.yields i H x H' hlt (hG H sH) y
    obtain rfl := hY i H x H' y'
    exact hs i x H' hlt p y' _ fun _ h => h
  · have e : i = n := by omega
    subst e
    obtain ⟨U, xs, x, e1, e2, e3⟩ := p.done hD
    exact .inl ⟨wk.stops H (hG H sH), hd U H xs x e1 e2 e3⟩
theorem lc2_inner {J : It} {n : Nat} {G : Hp → Prop} {Y : Nat → Hp → V → Hp → Prop} (wk : Walk J n G Y) {K : PySem.W.Frag} {V0 H0 H4 : Hp} {D : Addr} {acc0 : List PyData} {g : TG} {tt : TT} {te : TE} {vs : List Nat} {σ : St} {Nx : Hp → Prop} (f : Nat → Option PyData) (σ0 : St) (hσ : wipe σ vs = σ0) (hD : H0 D = none)
    (inv : LcInv K V0 H0 D acc0 H4) (hn : acc0.length + n < 100000) (hG : ∀ H, Same H0 H → G H) (hY : ∀ i H x H', Y i H x H' → H' = H)
    (hs : ∀ i x V H, i < n → Ext V0 H0 V H → Y i H x H → ∀ (Qy : VK) (Qn : Hp → Prop), (∀ d y V' H', f i = some d → Ext V H V' H' → Dp K V' y d → Qy y H') → (f i = none → ∀ V' H', Ext V H V' H' → Qn H') →
      g x σ0 H fun σ2 H2 => wipe σ2 vs = σ0 ∧ tt σ2 H2 fun b H3 => if b = true then te σ2 H3 Qy else Qn H3)
    (hd : ∀ H, LcInv K V0 H0 D (acc0 ++ fm f n) H → Nx H) :
    ∃ W : Nat → Nat → Hp → Prop, (∃ m, W 0 m H4) ∧ ∀ i m H, W i m H →
      (J.stop i H ∧ Nx H) ∨ (J.go i H ∧ ∃ Nx1 : Hp → Prop, (∀ H', Nx1 H' → ∃ m', m' < m ∧ W (i + 1) m' H') ∧ ∀ x H', J.yld i H x H' → g x (wipe σ vs) H' fun σ2 H2 => wipe σ2 vs = wipe σ vs ∧ tt σ2 H2 fun b H3 =>
        if b = true then te σ2 H3 fun y H4 => ∃ acc, H4 D = some (.lst acc) ∧ acc.length < sizeLine ∧ Nx1 (upd H4 D (.lst (acc ++ [y]))) else Nx1 H3) := by
  subst hσ
  refine ⟨fun i m H => m = n - i ∧ i ≤ n ∧ LcInv K V0 H0 D (acc0 ++ fm f i) H, ⟨n, by simp, Nat.zero_le _, by rw [show fm f 0 = [] from rfl, List.append_nil]; exact inv⟩, ?_⟩
  rintro i m H ⟨rfl, hi, p⟩
  have sH : Same H0 H := by obtain ⟨_, _, x, _⟩ := p.ex; exact x.hh
  by_cases hlt : i < n
  · refine .inr ⟨wk.goes i H hlt (hG H sH), fun H' => LcInv K V0 H0 D (acc0 ++ fm f (i + 1)) H', fun H' p' => ⟨n - (i + 1), by omega, rfl, hlt, p'⟩, fun x H' y => ?_⟩
    have y' := wk.yields i H x H' hlt (hG H sH) y
    obtain rfl := hY i H x H' y'
    obtain ⟨V, xs, x0, hv, hdd, dp⟩ := p.ex
    refine hs i x V H' hlt x0 y' _ _ (fun d y' V' H4 e x2 dy => ?_) (fun e V' H4 x2 => ?_)
    · have hl : (acc0 ++ fm f i).length < 100000 := by have := fm_len f i; rw [List.length_append]; omega
      obtain ⟨acc', a1, a2, a3⟩ := LcInv.push hD x0 hv hdd dp x2 dy hl
      refine ⟨acc', a1, a2, ?_⟩
      rw [fm_succ, e, ← List.append_assoc]
      exact a3
    · have hv' : V' D = none := x2.keepOut hv (by rw [hdd]; exact fun z => by cases z)
      rw [fm_succ, e]
      show LcInv K V0 H0 D (acc0 ++ (fm f i ++ [])) H4
      rw [List.append_nil]
      exact ⟨V', xs, x0.trans x2, hv', x2.hh _ _ hdd, dp.to x2.vv⟩
  · have e : i = n := by omega
    subst e
    exact .inl ⟨wk.stops H (hG H sH), hd H p⟩
theorem fm_some {α : Type} (f : Nat → α) (n : Nat) : fm (fun i => some (f i)) n = (List.range n).map f := by
  induction n with
  | zero => rfl
  | succ n ih => rw [fm_succ, ih, List.range_succ, List.map_append]; rfl
theorem fl_take' {α : Type} {β : Type} (f : α → List β) : ∀ (xs : List α) (i : Nat) (x : α), xs[i]? = some x → (xs.take (i + 1)).flatMap f = (xs.take i).flatMap f ++ f x := by
  intro xs i x h
  obtain ⟨hi, e⟩ := List.getElem?_eq_some_iff.mp h
  rw [List.take_succ_eq_append_getElem hi, List.flatMap_append, e]
  show _ ++ (f x ++ []) = _
  rw [List.append_nil]
theorem fl_le' {α : Type} {β : Type} (f : α → List β) (xs : List α) (i : Nat) : ((xs.take i).flatMap f).length ≤ (xs.flatMap f).length := by
  have : xs.flatMap f = (xs.take i).flatMap f ++ (xs.drop i).flatMap f := by rw [← List.flatMap_append, List.take_append_drop]
  rw [this, List.length_append]; omega
/-! ### lists of ints, texts -/
theorem tyL {K : PySem.W.Frag} {H : Hp} {a : Addr} {xs : List V} (h : SqL K H a xs) : TyX K H (.ref a) (.type "list") := by
  rcases h with (h | ⟨o, h⟩) | ⟨o, its, n, h, c, _⟩
  · exact .base (.lst h)
  · exact .base (.frz h)
  · exact .kList h c
theorem tyT {K : PySem.W.Frag} {H : Hp} {a : Addr} {xs : List V} (h : SqT K H a xs) : TyX K H (.ref a) (.type "tuple") := by
  rcases h with (h | ⟨o, h⟩) | ⟨o, its, n, h, c, _⟩
  · exact .base (.tup h)
  · exact .fTuple h
  · exact .kTuple h c
theorem dp_intsV {K : PySem.W.Frag} {H : Hp} : ∀ {xs : List V} {is : List Int}, DpAll K H xs (is.map PyData.int) → xs = is.map V.int
  | _, [], r => by cases r; rfl
  | _, i :: is, r => by
    cases r with
    | cons r1 r2 => cases r1; rw [dp_intsV r2]; rfl
theorem dp_intsL {K : PySem.W.Frag} {H : Hp} {a : Addr} {is : List Int} (h : Dp K H (.ref a) (.list (is.map PyData.int))) : SqL K H a (is.map V.int) := by
  obtain ⟨a', xs, e, q, r⟩ := dp_list h
  cases e
  rw [← dp_intsV r]; exact q
theorem dp_strsV {K : PySem.W.Frag} {H : Hp} : ∀ {xs : List V} {is : List Str}, DpAll K H xs (is.map PyData.str) → xs = is.map V.str
  | _, [], r => by cases r; rfl
  | _, i :: is, r => by
    cases r with
    | cons r1 r2 => cases r1; rw [dp_strsV r2]; rfl
theorem dp_boolsV {K : PySem.W.Frag} {H : Hp} : ∀ {xs : List V} {is : List Bool}, DpAll K H xs (is.map PyData.bool) → xs = is.map V.bl
  | _, [], r => by cases r; rfl
  | _, i :: is, r => by
    cases r with
    | cons r1 r2 => cases r1; rw [dp_boolsV r2]; rfl
theorem dp_boolsL {K : PySem.W.Frag} {H : Hp} {a : Addr} {is : List Bool} (h : Dp K H (.ref a) (.list (is.map PyData.bool))) : SqL K H a (is.map V.bl) := by
  obtain ⟨a', xs, e, q, r⟩ := dp_list h
  cases e
  rw [← dp_boolsV r]; exact q
theorem size_eq (z : Str) : z.cps.size = z.cps.toList.length := by simp
theorem cps_at (z : Str) (i : Nat) : z.cps[i]? = z.cps.toList[i]? := by simp
theorem fm_list {α β : Type} (f : α → β) (xs : List α) (n : Nat) (h : n = xs.length) (g : Nat → Option β) (hg : ∀ i x, xs[i]? = some x → g i = some (f x)) : fm g n = xs.map f := by
  subst h
  rw [← fm_map f xs]
  unfold fm
  have : ∀ l : List Nat, (∀ i ∈ l, i < xs.length) → l.filterMap g = l.filterMap fun i => (xs[i]?).map f := by
    intro l
    induction l with
    | nil => intro _; rfl
    | cons i l ih =>
      intro hl
      have hi' := hl i List.mem_cons_self
      rw [List.filterMap_cons, List.filterMap_cons, hg i _ (List.getElem?_eq_getElem hi'), List.getElem?_eq_getElem hi', ih fun j hj => hl j (List.mem_cons_of_mem _ hj)]
      rfl
  exact this _ fun i hi => List.mem_range.mp hi
theorem rep_flat {α : Type} (v : α) : ∀ n : Nat, (List.replicate n [v]).flatten = List.replicate n v
  | 0 => rfl
  | n + 1 => by rw [List.replicate_succ, List.replicate_succ, List.flatten_cons, rep_flat v n]; rfl
/-- a list's object that is tracked, at p, new -/
structure NewL (H H' : Hp) (p : Addr) (xs : List V) : Prop where
  new : H p = none
  same : Same H H'
  at_ : H' p = some (.lst xs)
theorem NewL.ext {U H H' : Hp} {p : Addr} {xs : List V} (n : NewL H H' p xs) (s : Same U H) : Ext U H (upd U p (.lst xs)) H' :=
  ⟨same_upd (s.free n.new), fun b u e => by
    by_cases hb : b = p
    · subst hb; rw [upd_same] at e; rw [n.at_]; exact e
    · rw [upd_ne hb] at e; exact n.same _ _ (s b u e), n.same, fun a e => by
    by_cases ha : a = p
    · subst ha; exact Or.inr n.new
    · rw [upd_ne ha] at e; exact Or.inl e⟩
theorem str_app (x y : Str) : (x ++ y).cps.toList = x.cps.toList ++ y.cps.toList := Array.toList_append
theorem str_len_app (x y : Str) : (x ++ y).length = x.length + y.length := by
  show (x ++ y).cps.size = x.cps.size + y.cps.size
  rw [size_eq, str_app, List.length_append, ← size_eq, ← size_eq]
/-! ### _law_cell, _law_row -/
def lawCell (ns : List Int) (k : Nat) : Int :=
  let c := if 0 < ns.length then ns.getD (k % ns.length) 0 else 0
  if c < 0 then 1 - 2 * c else c
theorem lawCell_nn (ns : List Int) (k : Nat) : 0 ≤ lawCell ns k := by
  unfold lawCell
  simp only
  split <;> omega
def lawOne (c : Int) (k : Nat) : Int := (c * 48271 + (k : Int) * 69621 + 12345) % 2147483647
def lawTwo (o : Int) (k : Nat) : Int := (o * o + 16807 * (k : Int) + 7) % 2147483629
def lawRow (ns : List Int) (k : Nat) : Int :=
  if k < ns.length ∧ 1000000000 ≤ lawCell ns k then lawCell ns k
  else (lawTwo (lawOne (lawCell ns k) k) k * lawTwo (lawOne (lawCell ns k) k) k + lawOne (lawCell ns k) k) % 4294967291 + 4294967296 * (lawOne (lawCell ns k) k + 1)
theorem lawOne_b (c : Int) (k : Nat) : 0 ≤ lawOne c k ∧ lawOne c k < 2147483647 := by unfold lawOne; omega
theorem lawTwo_b (c : Int) (k : Nat) : 0 ≤ lawTwo c k ∧ lawTwo c k < 2147483629 := by
  unfold lawTwo
  generalize c * c + 16807 * (k : Int) + 7 = x
  omega
theorem lawRow_nn (ns : List Int) (k : Nat) : 0 ≤ lawRow ns k := by
  unfold lawRow
  have h1 := lawOne_b (lawCell ns k) k
  split
  · exact lawCell_nn ns k
  · generalize lawTwo (lawOne (lawCell ns k) k) k * lawTwo (lawOne (lawCell ns k) k) k + lawOne (lawCell ns k) k = x
    omega
def sp__law_cell (K : PySem.W.Frag) : Sp := fun vs H Q _ => ∃ (a : Addr) (ns : List Int) (k : Nat), vs = [.ref a, .int (k : Int)] ∧ SqL K H a (ns.map V.int) ∧ Q (.int (lawCell ns k)) H
theorem sc__law_cell : FnScope ["script", "k", "cell"] ["script", "k"] (defScope s__law_cell) := ⟨rfl, rfl, rfl, by decide +kernel, rfl, by decide +kernel, by decide +kernel⟩
theorem ok__law_cell (T : Txt0 P K mg A) : FnOk P w K mg base CX0 1 A.f_law_cell A.d_law_cell ["script", "k"] (sp__law_cell K) := by
  refine T.F_law_cell.ok sc__law_cell (fun vs H Q E h => ?_) (fun cdv Ar outer s H vs Q E hr h => ?_)
  · obtain ⟨a, ns, k, rfl, _⟩ := h
    rfl
  · obtain ⟨a, ns, k, rfl, hS, q⟩ := h
    refine ⟨_, (pss_cons (ps_set (i := 2) sc__law_cell.nd rfl (Or.inl rfl) pe_int)
      (pss_cons (ps_if (pt_cmpR op_gt (pe_callB call_len_seq (by rfl) T.len PySem.boot_len (pa_cons (pv 0) pa_nil)) pe_int (nomark _))
      (pss_one (ps_set (i := 2) sc__law_cell.nd rfl (Or.inl rfl) (pe_ix ix_list (pv 0) (pe_op op_mod (pe_callTy call_int1 (by rfl) T.int (by decide +kernel) (pa_cons (pv 1) pa_nil)) (pe_callB call_len_seq (by rfl) T.len PySem.boot_len (pa_cons (pv 0) pa_nil))) (fun _ _ => rfl))))
      pss_nil)
      (pss_cons (ps_if (pt_cmpR op_lt (pv 2) pe_int (nomark _))
      (pss_one (ps_set (i := 2) sc__law_cell.nd rfl (Or.inl rfl) (pe_op op_sub pe_int (pe_op op_mul pe_int (pv 2)))))
      pss_nil)
      (pss_one (ps_ret (pv 2)))))), ?_⟩
    have two : ∀ (c : Int), (if c < 0 then 1 - 2 * c else c) = lawCell ns k → tSeq (tIfS (tTest (tOp (rI0 fun i j => .bl (decide (i < j))) (tVar 2) (tC (.int 0)))) (tAsg (tOp (rI0 fun i j => .int (i - j)) (tC (.int 1)) (tOp (rI CMul fun i j => .int (i * j)) (tC (.int 2)) (tVar 2))) (gName 2)) tNext) (tRet (tVar 2))
        { nx := fun _ H' => Q .non H', rt := Q } [some (.ref a), some (.int (k : Int)), some (.int c)] H := by
      intro c hc
      walk_at "rd"
      refine iteP (fun h => ?_) (fun h => ?_)
      · rw [if_pos h] at hc
        walk_at "rd"
        rw [← hc] at q; exact q
      · rw [if_neg h] at hc
        walk_at "rd"
        rw [← hc] at q; exact q
    refine ⟨.ref a, rfl, a, _, rfl, .inl hS, _, _, rfl, rfl, _, rfl, iteP (fun h => ?_) (fun h => ?_)⟩
    · have h0 : 0 < ns.length := by rw [List.length_map] at h; omega
      refine ⟨_, rfl, _, rfl, Or.inl ⟨_, rfl, ?_⟩⟩
      refine ⟨_, rfl, a, _, rfl, .inl hS, _, _, rfl, rfl, by show (0 : Int) < _; omega, a, _, _, .int (ns.getD (k % ns.length) 0), rfl, rfl, hS, ?_, ?_⟩
      · refine at_of (j := k % ns.length) ?_ ?_
        · rw [List.length_map]; exact (Int.natCast_emod _ _).symm
        · rw [List.getElem?_map, List.getElem?_eq_getElem (Nat.mod_lt _ h0), List.getD_eq_getElem?_getD, List.getElem?_eq_getElem (Nat.mod_lt _ h0)]; rfl
      · refine two _ ?_
        unfold lawCell; rw [if_pos h0]
    · have h0 : ¬ 0 < ns.length := by rw [List.length_map] at h; omega
      refine two _ ?_
      unfold lawCell; rw [if_neg h0]
def sp__law_row (K : PySem.W.Frag) : Sp := fun vs H Q _ => ∃ (a : Addr) (ns : List Int) (k : Nat), vs = [.ref a, .int (k : Int)] ∧ SqL K H a (ns.map V.int) ∧ Q (.int (lawRow ns k)) H
theorem sc__law_row : FnScope ["script", "k", "cell", "one", "two"] ["script", "k"] (defScope s__law_row) := ⟨rfl, rfl, rfl, by decide +kernel, rfl, by decide +kernel, by decide +kernel⟩
theorem ok__law_row (T : Txt0 P K mg A) : FnOk P w K mg base CX0 2 A.f_law_row A.d_law_row ["script", "k"] (sp__law_row K) := by
  refine T.F_law_row.ok sc__law_row (fun vs H Q E h => ?_) (fun cdv Ar outer s H vs Q E hr h => ?_)
  · obtain ⟨a, ns, k, rfl, _⟩ := h
    rfl
  · obtain ⟨a, ns, k, rfl, hS, q⟩ := h
    refine ⟨_, (pss_cons (ps_set (i := 2) sc__law_row.nd rfl (Or.inl rfl) (pe_call (ok__law_cell T) (hr.mono (by decide)) rfl T.g_law_cell T.k_law_cell T.b_law_cell .nil pass0 (pa_cons (pv 0) (pa_cons (pv 1) pa_nil))))
      (pss_cons (ps_if (PW.pt (pw_and (pt_cmpR op_lt (pv 1) (pe_callB call_len_seq (by rfl) T.len PySem.boot_len (pa_cons (pv 0) pa_nil)) (nomark _)) (pw_and1 (pt_cmpR op_ge (pv 2) pe_int (nomark _)))))
      (pss_one (ps_ret (pv 2)))
      pss_nil)
      (pss_cons (ps_set (i := 3) sc__law_row.nd rfl (Or.inl rfl) (pe_op op_mod (pe_callTy call_int1 (by rfl) T.int (by decide +kernel) (pa_cons (pe_op op_add (pe_op op_add (pe_op op_mul (pv 2) pe_int) (pe_op op_mul (pv 1) pe_int)) pe_int) pa_nil)) pe_int))
      (pss_cons (ps_set (i := 4) sc__law_row.nd rfl (Or.inl rfl) (pe_op op_mod (pe_callTy call_int1 (by rfl) T.int (by decide +kernel) (pa_cons (pe_op op_add (pe_op op_add (pe_op op_mul (pv 3) (pv 3)) (pe_op op_mul pe_int (pv 1))) pe_int) pa_nil)) pe_int))
      (pss_one (ps_ret (pe_op op_add (pe_op op_mod (pe_callTy call_int1 (by rfl) T.int (by decide +kernel) (pa_cons (pe_op op_add (pe_op op_mul (pv 4) (pv 4)) (pv 3)) pa_nil)) pe_int) (pe_op op_mul pe_int (pe_op op_add (pv 3) pe_int))))))))), ?_⟩
    have b1 := lawOne_b (lawCell ns k) k
    have b2 := lawTwo_b (lawOne (lawCell ns k) k) k
    have m1 : CMul (lawOne (lawCell ns k) k) (lawOne (lawCell ns k) k) := Or.inl ⟨by omega, by omega⟩
    have m2 : CMul (lawTwo (lawOne (lawCell ns k) k) k) (lawTwo (lawOne (lawCell ns k) k) k) := Or.inl ⟨by omega, by omega⟩
    refine ⟨_, rfl, _, rfl, a, ns, k, rfl, hS, ?_⟩
    refine ⟨_, rfl, _, rfl, a, _, rfl, .inl hS, _, _, rfl, rfl, _, rfl, ?_⟩
    refine iteP (fun h => ?_) (fun h => ?_)
    · refine ⟨_, rfl, _, _, rfl, rfl, _, rfl, iteP (fun h2 => ?_) (fun h2 => ?_)⟩
      · have e : lawRow ns k = lawCell ns k := by unfold lawRow; rw [if_pos ⟨by rw [List.length_map] at h; omega, h2⟩]
        rw [e] at q
        exact ⟨_, rfl, q⟩
      · unfold lawRow at q
        rw [if_neg fun z => h2 z.2] at q
        walk_at "rd"
        refine ⟨m1, ?_⟩
        walk_at "rd"
        refine ⟨m2, ?_⟩
        walk_at "rd"
        exact q
    · unfold lawRow at q
      rw [if_neg fun z => h (by rw [List.length_map]; omega)] at q
      walk_at "rd"
      refine ⟨m1, ?_⟩
      walk_at "rd"
      refine ⟨m2, ?_⟩
      walk_at "rd"
      exact q
/-! ### a word that goes on by itself -/
theorem iteVP {p A B : Prop} [Decidable p] (h1 : p → A) (h2 : ¬ p → B) : if p then A else B := by
  by_cases h : p
  · rw [if_pos h]; exact h1 h
  · rw [if_neg h]; exact h2 h
/-- a new tuple is handed back -/
def RetT (H : Hp) (Q : VK) (xs : List V) : Prop := ∀ p H', Same H H' → H' p = some (.tup xs) → Q (.ref p) H'
theorem RetT.go {H : Hp} {Q : VK} {xs : List V} (h : ∀ p H', Same H H' → H' p = some (.tup xs) → Q (.ref p) H') : RetT H Q xs := h
theorem ne_self {d e : PyData} {A B : Prop} (hs : SeqAt.shaped d = true) (h : d = e) (hB : B) : if (!PyData.eqv d e) = true then A else B := by
  subst h
  have h2 : (d.canLay0 && decide (d.depth ≤ 64)) = true := hs
  have : PyData.eqv d d = true := SeqAt.eqv_refl d (by rw [Bool.and_eq_true] at h2; exact h2.1)
  rw [this]
  exact iteF hB
theorem eq_self {d e : PyData} {A B : Prop} (hs : SeqAt.shaped d = true) (h : d = e) (hA : A) : if PyData.eqv d e = true then A else B := by
  subst h
  have h2 : (d.canLay0 && decide (d.depth ≤ 64)) = true := hs
  have : PyData.eqv d d = true := SeqAt.eqv_refl d (by rw [Bool.and_eq_true] at h2; exact h2.1)
  rw [this]
  exact iteT hA
theorem t_ne {K : PySem.W.Frag} {x y : V} {H : Hp} {Q : VK} {d e : PyData} (h1 : Dp K H x d) (h2 : Dp K H y e) (s1 : SeqAt.shaped d = true) (s2 : SeqAt.shaped e = true) (q : Q (.bl (!PyData.eqv d e)) H) : rNeD K x y H Q := ⟨d, e, h1, h2, s1, s2, q⟩
theorem t_eq {K : PySem.W.Frag} {x y : V} {H : Hp} {Q : VK} {d e : PyData} (h1 : Dp K H x d) (h2 : Dp K H y e) (s1 : SeqAt.shaped d = true) (s2 : SeqAt.shaped e = true) (q : Q (.bl (PyData.eqv d e)) H) : rEqD K x y H Q := ⟨d, e, h1, h2, s1, s2, q⟩
/-! words that go on by themselves -/
local macro_rules | `(tactic| walk_at "sq") => `(tactic| first
  | exact SqT.of upd_same
  | exact SqL.of upd_same
  | assumption
  | exact SqT.of (by assumption)
  | exact SqL.of (by assumption)
  | (apply Same.sqt (same_upd (by assumption)); walk_at "sq")
  | (apply Same.seq (same_upd (by assumption)); walk_at "sq")
  | (apply Same.sqt (by assumption); walk_at "sq")
  | (apply Same.seq (by assumption); walk_at "sq"))
local macro_rules | `(tactic| walk_at "sm") => `(tactic| first
  | exact Same.refl _
  | assumption
  | (apply Same.trans _ (same_upd (by assumption)); walk_at "sm")
  | (apply Same.trans _ (by assumption); walk_at "sm"))
local macro_rules | `(tactic| walk_at "at") => `(tactic| first
  | exact atI_nat (j := 0) rfl
  | exact atI_nat (j := 1) rfl
  | exact atI_nat (j := 2) rfl
  | exact atI_nat (j := 3) rfl
  | exact atI_nat (j := 4) rfl
  | exact atI_nat (j := 5) rfl)
local macro_rules | `(tactic| walk_at "go1") => `(tactic| first
  | refine ⟨_, rfl, ?_⟩
  | refine ⟨_, _, rfl, rfl, ?_⟩
  | refine ⟨rfl, ?_⟩
  | refine Or.inl ⟨_, rfl, ?_⟩
  | refine ⟨(by show (0 : Int) < _; decide), ?_⟩
  | refine ⟨(⟨by decide, by decide⟩ : CDiv _ _), ?_⟩
  | refine ⟨(Or.inl ⟨by decide, by decide⟩ : CMul _ _), ?_⟩
  | refine ⟨(Or.inr ⟨by decide, by decide⟩ : CMul _ _), ?_⟩
  | refine ⟨_, _, rfl, ?_⟩
  | refine ⟨_, _, _, rfl, ?_⟩
  | refine ⟨_, _, _, _, rfl, ?_⟩
  | (refine And.intro (a := (0 : Int) ≤ _) ?_ ?_; focus omega)
  | (refine And.intro (a := _ ≤ sizeLine) ?_ (fun p hp => ?_); (focus (exact len_line (Nat.le_of_ble_eq_true rfl))))
  | refine RetT.go (fun p H' s e => ?_)
  | refine if_t rfl ?_
  | refine if_f rfl ?_
  | refine ⟨_, _, rfl, (by walk_at "sq"), rfl, ?_⟩
  | refine ⟨_, _, rfl, Or.inl (by walk_at "sq"), ?_⟩
  | refine ⟨_, _, rfl, Or.inr (by walk_at "sq"), ?_⟩
  | refine ⟨_, _, _, _, rfl, rfl, (by walk_at "sq"), (by walk_at "at"), ?_⟩
  | refine ⟨_, _, rfl, (by walk_at "sq"), (by show ¬(HT.sIx 4 0 (some 2) = 0 ∧ HT.sIx 4 4 none = 4); decide), fun p hp => ?_⟩
  | refine ⟨_, _, _, _, rfl, rfl, (by walk_at "sq"), (by walk_at "sq"), (by intro h; cases h), len_line (Nat.le_of_ble_eq_true rfl), (fun h => by cases h), fun _ p hp => ?_⟩)
local macro_rules | `(tactic| walk_at "go") => `(tactic| repeat walk_at "go1")
local macro_rules | `(tactic| walk_at "dps") => `(tactic| first
  | exact DpAll.nil
  | (apply DpAll.cons; (focus (walk_at "dp")); (focus (walk_at "dps"))))
local macro_rules | `(tactic| walk_at "dp") => `(tactic| first
  | exact Dp.int _
  | exact Dp.bl _
  | exact Dp.str _
  | exact Dp.non
  | (apply Dp.tup; (focus (walk_at "sq")); (focus (walk_at "dps")))
  | (apply Dp.lst; (focus (walk_at "sq")); (focus (walk_at "dps"))))
local macro_rules | `(tactic| walk_at "sh") => `(tactic| (show (PyData.canLay0 _ && decide (PyData.depth _ ≤ 64)) = true; simp [PyData.canLay0, PyData.canLayAll0, PyData.depth, PyData.depthAll]))
/-- a deep comparison: what is left is the if -/
local macro_rules | `(tactic| walk_at "ne") => `(tactic| (apply t_ne; (focus (walk_at "dp")); (focus (walk_at "dp")); (focus (walk_at "sh")); (focus (walk_at "sh")); refine ⟨_, rfl, ?_⟩))
local macro_rules | `(tactic| walk_at "neS") => `(tactic| (walk_at "ne"; refine ne_self ?_ ?_ ?_; (focus (walk_at "sh"))))
/-! ### more words -/
local macro_rules | `(tactic| walk_at "go2") => `(tactic| first
  | walk_at "go1"
  | refine ⟨(⟨by omega, by omega⟩ : CDiv _ _), ?_⟩
  | refine ⟨(Or.inl ⟨by omega, by omega⟩ : CMul _ _), ?_⟩
  | refine ⟨(Or.inr ⟨by omega, by omega⟩ : CMul _ _), ?_⟩
  | refine ⟨(by show (0 : Int) < _; omega), ?_⟩)
local macro_rules | `(tactic| walk_at "gx") => `(tactic| repeat walk_at "go2")
/-! ### is_integer, number_octets -/
def sp_is_integer (K : PySem.W.Frag) : Sp := fun vs H Q _ => ∃ (i lo hi : Int), vs = [.int i, .int lo, .int hi] ∧ Q (.bl (decide (lo ≤ i ∧ i ≤ hi))) H
theorem sc_is_integer : FnScope ["value", "least", "greatest"] ["value", "least", "greatest"] (defScope s_is_integer) := ⟨rfl, rfl, rfl, by decide +kernel, rfl, by decide +kernel, by decide +kernel⟩
theorem ok_is_integer (T : Txt0 P K mg A) : FnOk P w K mg base CX0 1 A.fis_integer A.dis_integer ["value", "least", "greatest"] (sp_is_integer K) := by
  refine T.Fis_integer.ok sc_is_integer (fun vs H Q E h => ?_) (fun cdv Ar outer s H vs Q E hr h => ?_)
  · obtain ⟨i, lo, hi, rfl, _⟩ := h
    rfl
  · obtain ⟨i, lo, hi, rfl, q⟩ := h
    refine ⟨_, (pss_one (ps_ret (pe_and (pe_callB call_isi (by rfl) T.isinstance (by decide +kernel) (pa_cons (pv 0) (pa_cons (pe_bltn (v := .ty "int") (by rfl) T.int (by decide +kernel) rfl) pa_nil))) (pe_and (pe_not (pe_callB call_isi (by rfl) T.isinstance (by decide +kernel) (pa_cons (pv 0) (pa_cons (pe_bltn (v := .ty "bool") (by rfl) T.bool (by decide +kernel) rfl) pa_nil)))) (pe_one (pe_chain op_le op_le (pv 1) (pv 0) (pv 2))))))), ?_⟩
    refine ⟨_, rfl, .int i, .ty "int", .type "int", .type "int", true, rfl, .ty _, .base (.int _), kit_ty (by decide +kernel), _, rfl, iteT ?_⟩
    refine ⟨_, rfl, .int i, .ty "bool", .type "int", .type "bool", false, rfl, .ty _, .base (.int _), kit_ty (by decide +kernel), _, rfl, _, rfl, iteT ?_⟩
    refine ⟨_, rfl, _, rfl, _, _, rfl, rfl, _, rfl, iteP (fun h => ?_) (fun h => ?_)⟩
    · refine ⟨_, rfl, _, _, rfl, rfl, ?_⟩
      have e : decide (lo ≤ i ∧ i ≤ hi) = decide (i ≤ hi) := by
        by_cases c : i ≤ hi
        · rw [decide_eq_true c, decide_eq_true ⟨h, c⟩]
        · rw [decide_eq_false c, decide_eq_false fun z => c z.2]
      rw [e] at q
      exact q
    · rw [decide_eq_false fun z => h z.1] at q
      exact q
def octs (n : Int) (c : Nat) : List Int := (List.range c).map fun k => n / 2 ^ (8 * k) % 256
theorem octs_len (n : Int) (c : Nat) : (octs n c).length = c := by unfold octs; rw [List.length_map, List.length_range]
theorem octs_succ (n : Int) (c : Nat) : octs n (c + 1) = octs n c ++ [n / 2 ^ (8 * c) % 256] := by
  unfold octs; rw [List.range_succ, List.map_append]; rfl
theorem and255 {x : Int} (h : 0 ≤ x) : Builtin.bitAnd x 255 = x % 256 := Bits.bitAnd_mask 8 h
/-- number_octets(n, c), n not negative, c small: a new list -/
def sp_number_octets (K : PySem.W.Frag) : Sp := fun vs H Q _ => ∃ (n : Int) (c : Nat), vs = [.int n, .int (c : Int)] ∧ 0 ≤ n ∧ c ≤ 1000 ∧
  ∀ p H', H p = none → Same H H' → H' p = some (.lst ((octs n c).map V.int)) → Q (.ref p) H'
theorem sc_number_octets : FnScope ["number", "count", "place"] ["number", "count"] (defScope s_number_octets) := ⟨rfl, rfl, rfl, by decide +kernel, rfl, by decide +kernel, by decide +kernel⟩
theorem ok_number_octets (T : Txt0 P K mg A) : FnOk P w K mg base CX0 1 A.fnumber_octets A.dnumber_octets ["number", "count"] (sp_number_octets K) := by
  refine T.Fnumber_octets.ok sc_number_octets (fun vs H Q E h => ?_) (fun cdv Ar outer s H vs Q E hr h => ?_)
  · obtain ⟨n, c, rfl, _⟩ := h
    rfl
  · obtain ⟨n, c, rfl, hn, hc, q⟩ := h
    refine ⟨_, (pss_one (ps_ret (pe_lc (own := [("place", 2)]) (g := gName 2) (tt := tYes) rfl sc_number_octets.nd (pi_range1 (by rfl) T.range (pa_cons (pv 1) pa_nil)) (blkOk_by (own := [("place", 2)]) (N := ["number", "count", "place"]) (sc := defScope s_number_octets) (by decide +kernel)) (fun _ _ _ _ _ => (pg_name (i := 2) sc_number_octets.nd rfl (Or.inl rfl))) (fun _ _ _ _ _ => pts_nil) (fun _ _ _ _ _ => (pe_op op_and (pe_op op_shr (pv 0) (pe_op op_mul pe_int (pv 2))) pe_int))))), ?_⟩
    refine ⟨_, rfl, (c : Int), rfl, by omega, by omega, fun D hD => ?_⟩
    refine lc_range (lo := 0) (n := ((c : Int)).toNat) (fun i H' => Same H H' ∧ H' D = some (.lst ((octs n i).map V.int))) ⟨same_upd hD, upd_same⟩ ?_ ?_
    · rintro i H1 hi ⟨hs, he⟩
      refine ⟨rfl, _, rfl, _, rfl, _, _, rfl, rfl, Or.inl ⟨by decide, by decide⟩, _, _, rfl, rfl, by show (0 : Int) ≤ _; omega, _, _, rfl, rfl, _, he, ?_, ?_, ?_⟩
      · rw [List.length_map, octs_len]; exact lt_line (by omega)
      · intro b o e
        rw [upd_ne (fun z => by rw [z, hD] at e; cases e)]
        exact hs b o e
      · rw [upd_same, octs_succ, List.map_append]
        have e1 : (8 * (0 + (i : Int))).toNat = 8 * i := by omega
        have e2 : Builtin.bitAnd (n / 2 ^ (8 * (0 + (i : Int))).toNat) 255 = n / 2 ^ (8 * i) % 256 := by
          rw [e1, and255 (Int.ediv_nonneg hn (Int.le_of_lt (Int.pow_pos (by decide))))]
        dsimp only
        rw [e2]
        rfl
    · rintro H1 ⟨hs, he⟩
      rw [show ((c : Int)).toNat = c by omega] at he
      exact q D H1 hD hs he
/-! ### is_text, _padded, _text_octets -/
def codeOk (c : Int) : Bool := decide (32 ≤ c ∧ c ≤ 126 ∧ c ≠ 37)
def isText (s : Str) : Bool := decide ((s.length : Int) ≤ 1000) && s.cps.toList.all (fun c : Nat => codeOk (c : Int))
def codesOf (s : Str) : List Int := s.cps.toList.map fun c : Nat => (c : Int)
def padN (n : Nat) : Nat := (-(n : Int) % 4).toNat
def pad (xs : List Int) : List Int := xs ++ List.replicate (padN xs.length) 0
theorem padN_lt (n : Nat) : padN n < 4 := by unfold padN; omega
theorem pad_len (xs : List Int) : (pad xs).length = xs.length + padN xs.length := by unfold pad; rw [List.length_append, List.length_replicate]
def textOcts (s : Str) : List Int := pad (octs (s.length + 1 : Int) 4 ++ codesOf s ++ [0])
theorem codesOf_len (z : Str) : (codesOf z).length = z.length := by unfold codesOf; rw [List.length_map]; exact (size_eq z).symm
theorem textOcts_len (z : Str) : (textOcts z).length ≤ z.length + 8 := by
  unfold textOcts
  rw [pad_len, List.length_append, List.length_append, octs_len, codesOf_len]
  have := padN_lt (4 + z.length + [(0 : Int)].length)
  show 4 + z.length + 1 + padN (4 + z.length + 1) ≤ _
  have h : padN (4 + z.length + 1) < 4 := padN_lt _
  omega
def sp__is_code (K : PySem.W.Frag) : Sp := fun vs H Q _ => ∃ (c : Int), vs = [.int c] ∧ Q (.bl (codeOk c)) H
theorem sc__is_code : FnScope ["code"] ["code"] (defScope s__is_code) := ⟨rfl, rfl, rfl, by decide +kernel, rfl, by decide +kernel, by decide +kernel⟩
theorem ok__is_code (T : Txt0 P K mg A) : FnOk P w K mg base CX0 1 A.f_is_code A.d_is_code ["code"] (sp__is_code K) := by
  refine T.F_is_code.ok sc__is_code (fun vs H Q E h => ?_) (fun cdv Ar outer s H vs Q E hr h => ?_)
  · obtain ⟨c, rfl, _⟩ := h
    rfl
  · obtain ⟨c, rfl, q⟩ := h
    refine ⟨_, (pss_one (ps_ret (pe_and (pe_chain op_le op_le (pe_glob (v := .int (32)) rfl T.g_FIRST_CODE ⟨_, rfl⟩) (pv 0) (pe_glob (v := .int (126)) rfl T.g_LAST_CODE ⟨_, rfl⟩)) (pe_one (pe_cmpR op_ne (pv 0) (pe_glob (v := .int (37)) rfl T.g_PERCENT_CODE ⟨_, rfl⟩) (nomark _)))))), ?_⟩
    unfold codeOk at q
    refine ⟨_, rfl, _, _, rfl, rfl, _, rfl, iteP (fun h1 => ?_) (fun h1 => ?_)⟩
    · refine ⟨_, _, rfl, rfl, ?_⟩
      by_cases h2 : c ≤ 126
      · refine ⟨_, rfl, if_t (decide_eq_true h2) ⟨_, rfl, rfl, ?_⟩⟩
        by_cases h3 : c = 37
        · rw [decide_eq_false fun z => z.2.2 h3] at q
          rw [decide_eq_true (by rw [h3])]; exact q
        · rw [decide_eq_true ⟨h1, h2, h3⟩] at q
          rw [decide_eq_false fun z => h3 (V.int.inj z)]; exact q
      · refine ⟨_, rfl, if_f (decide_eq_false h2) ?_⟩
        rw [decide_eq_false fun z => h2 z.2.1] at q
        exact q
    · refine ⟨_, rfl, if_f rfl ?_⟩
      rw [decide_eq_false fun z => h1 z.1] at q; exact q
def sp_is_text (K : PySem.W.Frag) : Sp := fun vs H Q _ => ∃ (s : Str), vs = [.str s] ∧ s.length < 100000 ∧ ∀ H', Same H H' → Q (.bl (isText s)) H'
theorem sc_is_text : FnScope ["value", "character"] ["value"] (defScope s_is_text) := ⟨rfl, rfl, rfl, by decide +kernel, rfl, by decide +kernel, by decide +kernel⟩
theorem ok_is_text (T : Txt0 P K mg A) : FnOk P w K mg base CX0 2 A.fis_text A.dis_text ["value"] (sp_is_text K) := by
  refine T.Fis_text.ok sc_is_text (fun vs H Q E h => ?_) (fun cdv Ar outer s H vs Q E hr h => ?_)
  · obtain ⟨c, rfl, _⟩ := h
    rfl
  · obtain ⟨z, rfl, hl, q⟩ := h
    refine ⟨_, (pss_one (ps_ret (pe_and (pe_cmpR op_le (pe_callB call_len_str (by rfl) T.len PySem.boot_len (pa_cons (pv 0) pa_nil)) (pe_glob (v := .int (1000)) rfl T.gLONGEST_TEXT_fields ⟨_, rfl⟩) (nomark _)) (pe_one (pe_callB (cr_all rfl) (by rfl) T.all (by decide +kernel) (pa_cons (pe_lc (own := [("character", 1)]) (g := (gName 1)) (tt := tYes) rfl sc_is_text.nd (pi_str (pv 0)) (blkOk_by (own := [("character", 1)]) (N := ["value", "character"]) (sc := defScope s_is_text) (by decide +kernel)) (fun _ _ _ _ _ => (pg_name (i := 1) sc_is_text.nd rfl (Or.inl rfl))) (fun _ _ _ _ _ => pts_nil) (fun _ _ _ _ _ => by exact (pe_call (ok__is_code T) (hr.mono (by decide)) rfl T.g_is_code T.k_is_code T.b_is_code .nil pass0 (pa_cons (pe_callB call_ord (by rfl) T.ord (by decide +kernel) (pa_cons (pv 1) pa_nil)) pa_nil)))) pa_nil)))))), ?_⟩
    refine ⟨_, rfl, z, rfl, len_line (Nat.le_of_lt hl), _, _, rfl, rfl, _, rfl, iteP (fun h1 => ?_) (fun h1 => ?_)⟩
    · refine ⟨_, rfl, z, rfl, fun D hD => ?_⟩
      refine lc_dp (walk_str (z := z)) (K := K) (V0 := H) (H0 := H) (fun i => (z.cps[i]?).map fun c : Nat => PyData.bool (codeOk (c : Int))) [some (.str z), none] rfl (Same.refl _) hD (by show z.length < 100000; exact hl) (fun _ _ => trivial) (fun i x H H' y => y.1) ?_ ?_
      · rintro i x U H1 hi xx ⟨_, c, hc, rfl⟩ Qy Qn hy _
        refine ⟨rfl, _, rfl, _, rfl, rfl, _, rfl, ?_⟩
        exact hy _ _ _ _ (by rw [hc]; rfl) (Ext.refl xx.vh) (.bl _)
      · rintro U H1 _ xx _ _ dl
        rw [size_eq, show fm (fun i => (z.cps[i]?).map fun c : Nat => PyData.bool (codeOk (c : Int))) z.cps.toList.length = (z.cps.toList.map fun c : Nat => codeOk (c : Int)).map PyData.bool from by
          rw [List.map_map]; exact fm_list _ _ _ rfl _ fun i x hx => by rw [cps_at, hx]; rfl] at dl
        refine ⟨D, _, rfl, xx.vh.seq (dp_boolsL dl), ?_⟩
        have := q _ xx.hh
        unfold isText at this
        rw [decide_eq_true h1, Bool.true_and] at this
        rw [List.all_map]; exact this
    · have := q H (Same.refl H)
      unfold isText at this
      rw [decide_eq_false h1] at this
      exact this
/-- _padded(a list): a new list -/
def sp__padded (K : PySem.W.Frag) : Sp := fun vs H Q _ => ∃ (a : Addr) (xs : List Int), vs = [.ref a] ∧ H a = some (.lst (xs.map V.int)) ∧ xs.length < 90000 ∧ ∀ p H', NewL H H' p ((pad xs).map V.int) → Q (.ref p) H'
theorem sc__padded : FnScope ["octets"] ["octets"] (defScope s__padded) := ⟨rfl, rfl, rfl, by decide +kernel, rfl, by decide +kernel, by decide +kernel⟩
theorem ok__padded (T : Txt0 P K mg A) : FnOk P w K mg base CX0 1 A.f_padded A.d_padded ["octets"] (sp__padded K) := by
  refine T.F_padded.ok sc__padded (fun vs H Q E h => ?_) (fun cdv Ar outer s H vs Q E hr h => ?_)
  · obtain ⟨a, xs, rfl, _⟩ := h
    rfl
  · obtain ⟨a, xs, rfl, ha, hl, q⟩ := h
    refine ⟨_, (pss_one (ps_ret (pe_op op_cat (pv 0) (pe_op op_rep (pe_lst (pa_cons pe_int pa_nil)) (pe_op op_mod (pe_un un_neg (pe_callB call_len_seq (by rfl) T.len PySem.boot_len (pa_cons (pv 0) pa_nil))) pe_int))))), ?_⟩
    refine ⟨_, rfl, by decide, fun p1 n1 => ?_⟩
    have ha1 : (upd H p1 (.lst [.int 0])) a = some (.lst (xs.map V.int)) := by rw [upd_ne (ne_of_none ha n1)]; exact ha
    have e1 : -((xs.map V.int).length : Int) % 4 = (padN xs.length : Int) := by rw [List.length_map]; unfold padN; omega
    have pl := padN_lt xs.length
    refine ⟨_, rfl, a, _, rfl, .inl (SqL.of ha1), _, rfl, _, _, rfl, rfl, by show (0 : Int) < 4; decide, p1, _, _, rfl, rfl, upd_same, ?_, ?_, ?_, fun p2 n2 => ?_⟩
    · omega
    · omega
    · exact len_line (by show 1 * _ ≤ _; omega)
    refine ⟨a, p2, _, _, rfl, rfl, by rw [upd_ne (ne_of_none ha1 n2)]; exact ha1, upd_same, ?_, fun p3 n3 => ?_⟩
    · rw [e1]
      exact len_line (by rw [rep_flat, List.length_map, List.length_replicate]; omega)
    refine q p3 _ ⟨?_, ?_, ?_⟩
    · exact (same_upd n1).free ((same_upd n2).free n3)
    · exact ((same_upd n1).trans (same_upd n2)).trans (same_upd n3)
    · rw [upd_same, e1]
      unfold pad
      rw [List.map_append, show ((padN xs.length : Nat) : Int).toNat = padN xs.length by omega]
      rw [rep_flat, List.map_replicate]
def sp__text_octets (K : PySem.W.Frag) : Sp := fun vs H Q _ => ∃ (s : Str), vs = [.str s] ∧ s.length < 80000 ∧ ∀ p H', NewL H H' p ((textOcts s).map V.int) → Q (.ref p) H'
theorem sc__text_octets : FnScope ["text", "codes", "character"] ["text"] (defScope s__text_octets) := ⟨rfl, rfl, rfl, by decide +kernel, rfl, by decide +kernel, by decide +kernel⟩
theorem ok__text_octets (T : Txt0 P K mg A) : FnOk P w K mg base CX0 2 A.f_text_octets A.d_text_octets ["text"] (sp__text_octets K) := by
  refine T.F_text_octets.ok sc__text_octets (fun vs H Q E h => ?_) (fun cdv Ar outer s H vs Q E hr h => ?_)
  · obtain ⟨z, rfl, _⟩ := h
    rfl
  · obtain ⟨z, rfl, hl, q⟩ := h
    refine ⟨_, (pss_cons (ps_setLc (i := 1) (own := [("character", 2)]) (g := (gName 2)) (tt := tYes) rfl sc__text_octets.nd rfl rfl (sw_true rfl rfl rfl (by decide +kernel)) (pi_str (pv 0)) (blkOk_by (own := [("character", 2)]) (N := ["text", "codes", "character"]) (sc := defScope s__text_octets) (by decide +kernel)) (fun _ _ _ _ _ => (pg_name (i := 2) sc__text_octets.nd rfl (Or.inl rfl))) (fun _ _ _ _ _ => pts_nil) (fun _ _ _ _ _ => by exact (pe_callB call_ord (by rfl) T.ord (by decide +kernel) (pa_cons (pv 2) pa_nil))))
      (pss_one (ps_ret (pe_call (ok__padded T) (hr.mono (by decide)) rfl T.g_padded T.k_padded T.b_padded .nil pass0 (pa_cons (pe_op op_cat (pe_op op_cat (pe_call (ok_number_octets T) (hr.mono (by decide)) rfl T.gnumber_octets T.knumber_octets T.bnumber_octets .nil pass0 (pa_cons (pe_op op_add (pe_callB call_len_seq (by rfl) T.len PySem.boot_len (pa_cons (pv 1) pa_nil)) pe_int) (pa_cons pe_int pa_nil))) (pv 1)) (pe_lst (pa_cons pe_int pa_nil))) pa_nil))))), ?_⟩
    refine ⟨_, rfl, z, rfl, fun D hD => ?_⟩
    refine lc_dp (walk_str (z := z)) (K := K) (V0 := H) (H0 := H) (fun i => (z.cps[i]?).map fun c : Nat => PyData.int (c : Int)) [some (.str z), none, none] rfl (Same.refl _) hD (by show z.length < 100000; omega) (fun _ _ => trivial) (fun i x H H' y => y.1) ?_ ?_
    · rintro i x U H1 hi xx ⟨_, c, hc, rfl⟩ Qy Qn hy _
      refine ⟨rfl, _, rfl, _, rfl, rfl, ?_⟩
      exact hy _ _ _ _ (by rw [hc]; rfl) (Ext.refl xx.vh) (.int _)
    · rintro U H1 xs xx hDU dl _
      rw [size_eq, show fm (fun i => (z.cps[i]?).map fun c : Nat => PyData.int (c : Int)) z.cps.toList.length = (codesOf z).map PyData.int from by
          unfold codesOf; rw [List.map_map]; exact fm_list _ _ _ rfl _ fun i x hx => by rw [cps_at, hx]; rfl] at dl
      have hlc : (codesOf z).length = z.length := by unfold codesOf; rw [List.length_map]; exact (size_eq z).symm
      have exs := dp_intsV dl
      subst exs
      have h1D := xx.vh _ _ hDU
      have ev : ∀ (l : Int), l = z.length → (z.length : Int) + 1 = l + 1 := fun l e => by omega
      refine ⟨_, rfl, D, _, rfl, .inl (SqL.of h1D), _, _, rfl, rfl, _, 4, rfl, ?_, by decide, fun p H2 hp hs he => ?_⟩
      · omega
      have h2D := hs _ _ h1D
      rw [List.length_map, hlc] at he
      refine ⟨_, rfl, p, D, _, _, rfl, rfl, he, h2D, ?_, fun p3 n3 => ?_⟩
      · rw [List.length_map, List.length_map, octs_len, hlc]; exact len_line (by omega)
      refine ⟨by decide, fun p4 n4 => ?_⟩
      refine ⟨p3, p4, _, _, rfl, rfl, by rw [upd_ne (ne_of_none upd_same n4)]; exact upd_same, upd_same, ?_, fun p5 n5 => ?_⟩
      · rw [List.length_append, List.length_map, List.length_map, octs_len, hlc]; exact len_line (by show 4 + z.length + 1 ≤ _; omega)
      refine ⟨p5, octs (z.length + 1 : Int) 4 ++ codesOf z ++ [0], rfl, ?_, ?_, fun p6 H6 n6 => q p6 H6 ?_⟩
      · rw [upd_same, List.map_append, List.map_append]; rfl
      · rw [List.length_append, List.length_append, octs_len, hlc]; show 4 + z.length + 1 < 90000; omega
      · exact ⟨xx.hh.free (hs.free ((same_upd n3).free ((same_upd n4).free ((same_upd n5).free n6.new)))), xx.hh.trans (hs.trans ((same_upd n3).trans ((same_upd n4).trans ((same_upd n5).trans n6.same)))), n6.at_⟩
/-! ### the kinds -/
inductive NumKind : Str → Int → Int → Prop
  | uint : NumKind "uint" 0 4294967295
  | maybe : NumKind "maybe" 0 4294967295
  | int : NumKind "int" (-2147483648) 2147483647
  | object : NumKind "object" 1 4294967295
  | new : NumKind "new" 1 4294967295
inductive AV
  | num (i : Int)
  | txt (s : Str)
  | oct (xs : List Int)
  | bnd (s : Str) (n : Int)
def ArgAt (K : PySem.W.Frag) (H : Hp) (v : V) : AV → Prop
  | .num i => v = .int i
  | .txt s => v = .str s ∧ s.length < 80000
  | .oct xs => ∃ a, v = .ref a ∧ H a = some (.lst (xs.map V.int)) ∧ xs.length < 80000
  | .bnd s n => ∃ a, v = .ref a ∧ SqT K H a [.str s, .int n] ∧ s.length < 80000
theorem ArgAt.to {K : PySem.W.Frag} {H H' : Hp} {v : V} {x : AV} (h : ArgAt K H v x) (s : Same H H') : ArgAt K H' v x := by
  cases x with
  | num i => exact h
  | txt z => exact h
  | oct xs => obtain ⟨a, e, q, l⟩ := h; exact ⟨a, e, s _ _ q, l⟩
  | bnd z n => obtain ⟨a, e, q, l⟩ := h; exact ⟨a, e, s.sqt q, l⟩
def octsOk (xs : List Int) : Bool := decide (xs.length ≤ 16384) && xs.all fun x => decide (0 ≤ x ∧ x ≤ 255)
inductive ArgSpec : Str → AV → Bool → List Int → Prop
  | num {k : Str} {lo hi i : Int} (h : NumKind k lo hi) : ArgSpec k (.num i) (decide (lo ≤ i ∧ i ≤ hi)) (octs (i % 4294967296) 4)
  | txt {s : Str} : ArgSpec "text" (.txt s) (isText s) (textOcts s)
  | oct {xs : List Int} : ArgSpec "octets" (.oct xs) (octsOk xs) (pad (octs xs.length 4 ++ xs))
  | bnd {s : Str} {n : Int} : ArgSpec "bound" (.bnd s n) (isText s && decide (1 ≤ n ∧ n ≤ 4294967295)) (textOcts s ++ octs n 4)
def sp__are_octets (K : PySem.W.Frag) : Sp := fun vs H Q _ => ∃ (a : Addr) (xs : List Int), vs = [.ref a] ∧ H a = some (.lst (xs.map V.int)) ∧ xs.length < 80000 ∧ ∀ H', Same H H' → Q (.bl (octsOk xs)) H'
theorem sc__are_octets : FnScope ["value", "octet"] ["value"] (defScope s__are_octets) := ⟨rfl, rfl, rfl, by decide +kernel, rfl, by decide +kernel, by decide +kernel⟩
theorem ok__are_octets (T : Txt0 P K mg A) : FnOk P w K mg base CX0 2 A.f_are_octets A.d_are_octets ["value"] (sp__are_octets K) := by
  refine T.F_are_octets.ok sc__are_octets (fun vs H Q E h => ?_) (fun cdv Ar outer s H vs Q E hr h => ?_)
  · obtain ⟨a, xs, rfl, _⟩ := h
    rfl
  · obtain ⟨a, xs, rfl, ha, hl, q⟩ := h
    refine ⟨_, (pss_cons (ps_if (PW.pt (pw_or (pt_not (pt_val (pe_callB call_isi (by rfl) T.isinstance (by decide +kernel) (pa_cons (pv 0) (pa_cons (pe_bltn (v := .ty "list") (by rfl) T.list (by decide +kernel) rfl) pa_nil))))) (pw_or1 (pt_cmpR op_gt (pe_callB call_len_seq (by rfl) T.len PySem.boot_len (pa_cons (pv 0) pa_nil)) (pe_glob (v := .int (16384)) rfl T.gMOST_OCTETS_fields ⟨_, rfl⟩) (nomark _)))))
      (pss_one (ps_ret pe_bl))
      pss_nil)
      (pss_one (ps_ret (pe_callB (cr_all rfl) (by rfl) T.all (by decide +kernel) (pa_cons (pe_lc (own := [("octet", 1)]) (g := (gName 1)) (tt := tYes) rfl sc__are_octets.nd (pi_list (pv 0)) (blkOk_by (own := [("octet", 1)]) (N := ["value", "octet"]) (sc := defScope s__are_octets) (by decide +kernel)) (fun _ _ _ _ _ => (pg_name (i := 1) sc__are_octets.nd rfl (Or.inl rfl))) (fun _ _ _ _ _ => pts_nil) (fun _ _ _ _ _ => by exact (pe_call (ok_is_integer T) (hr.mono (by decide)) rfl T.gis_integer T.kis_integer T.bis_integer .nil pass0 (pa_cons (pv 1) (pa_cons pe_int (pa_cons pe_int pa_nil)))))) pa_nil))))), ?_⟩
    refine ⟨_, rfl, .ref a, .ty "list", .type "list", .type "list", true, rfl, .ty _, tyL (K := K) (SqL.of ha), kit_ty (by decide +kernel), _, rfl, if_f rfl ?_⟩
    refine ⟨_, rfl, a, _, rfl, .inl (SqL.of ha), _, _, rfl, rfl, _, rfl, iteP (fun h => ?_) (fun h => ?_)⟩
    · have := q H (Same.refl H)
      unfold octsOk at this
      rw [List.length_map] at h
      rw [decide_eq_false (show ¬ xs.length ≤ 16384 by omega)] at this
      exact this
    · rw [List.length_map] at h
      refine ⟨_, rfl, a, rfl, ⟨_, SqL.of ha⟩, fun D hD => ?_⟩
      refine lc_dp (walk_list (K := K) (a := a) (xs := xs.map V.int)) (K := K) (V0 := H) (H0 := H) (fun i => (xs[i]?).map fun x => PyData.bool (decide (0 ≤ x ∧ x ≤ 255))) [some (.ref a), none] rfl (Same.refl _) hD (by rw [List.length_map]; omega) (fun H' s => s.seq (SqL.of ha)) (fun i x H H' y => y.1) ?_ ?_
      · rintro i x U H1 hi xx ⟨_, hx⟩ Qy Qn hy _
        rw [List.getElem?_map] at hx
        obtain ⟨z, hz, rfl⟩ := Option.map_eq_some_iff.mp hx
        exact ⟨rfl, _, rfl, z, 0, 255, rfl, hy _ _ _ _ (by rw [hz]; rfl) (Ext.refl xx.vh) (.bl _)⟩
      · rintro U H1 _ xx _ _ dl
        rw [List.length_map, show fm (fun i => (xs[i]?).map fun x => PyData.bool (decide (0 ≤ x ∧ x ≤ 255))) xs.length = (xs.map fun x => decide (0 ≤ x ∧ x ≤ 255)).map PyData.bool from by
          rw [List.map_map]; exact fm_list _ _ _ rfl _ fun i x hx => by rw [hx]; rfl] at dl
        refine ⟨D, _, rfl, xx.vh.seq (dp_boolsL dl), ?_⟩
        have := q _ xx.hh
        unfold octsOk at this
        rw [decide_eq_true (show xs.length ≤ 16384 by omega), Bool.true_and] at this
        rw [List.all_map]; exact this
theorem sc__is_of : FnScope ["kind", "value"] ["kind", "value"] (defScope s__is_of) := ⟨rfl, rfl, rfl, by decide +kernel, rfl, by decide +kernel, by decide +kernel⟩
/-- the kinds but bound -/
def sp_is_of0 (K : PySem.W.Frag) : Sp := fun vs H Q _ => ∃ (kind : Str) (v : V) (x : AV) (ok : Bool) (os : List Int), vs = [.str kind, v] ∧ ArgSpec kind x ok os ∧ kind ≠ "bound" ∧ ArgAt K H v x ∧ ∀ H', Same H H' → Q (.bl ok) H'
theorem ok_is_of0 (T : Txt0 P K mg A) : FnOk P w K mg base CX0 3 A.f_is_of A.d_is_of ["kind", "value"] (sp_is_of0 K) := by
  refine T.F_is_of.ok sc__is_of (fun vs H Q E h => ?_) (fun cdv Ar outer s H vs Q E hr h => ?_)
  · obtain ⟨kind, v, x, ok, os, rfl, _⟩ := h
    rfl
  · obtain ⟨kind, v, x, ok, os, rfl, hk, nb, ha, q⟩ := h
    refine ⟨_, (pss_cons (ps_if (PW.pt (pw_or (pt_cmpR op_eq (pv 0) pe_str (nomark _)) (pw_or1 (pt_cmpR op_eq (pv 0) pe_str (nomark _)))))
      (pss_one (ps_ret (pe_call (ok_is_integer T) (hr.mono (by decide)) rfl T.gis_integer T.kis_integer T.bis_integer .nil pass0 (pa_cons (pv 1) (pa_cons pe_int (pa_cons (pe_glob (v := .int (4294967295)) rfl T.gGREATEST_NUMBER ⟨_, rfl⟩) pa_nil))))))
      pss_nil)
      (pss_cons (ps_if (pt_cmpR op_eq (pv 0) pe_str (nomark _))
      (pss_one (ps_ret (pe_call (ok_is_integer T) (hr.mono (by decide)) rfl T.gis_integer T.kis_integer T.bis_integer .nil pass0 (pa_cons (pv 1) (pa_cons (pe_glob (v := .int (-2147483648)) rfl T.gLEAST_INT ⟨_, rfl⟩) (pa_cons (pe_glob (v := .int (2147483647)) rfl T.gGREATEST_INT ⟨_, rfl⟩) pa_nil))))))
      pss_nil)
      (pss_cons (ps_if (PW.pt (pw_or (pt_cmpR op_eq (pv 0) pe_str (nomark _)) (pw_or1 (pt_cmpR op_eq (pv 0) pe_str (nomark _)))))
      (pss_one (ps_ret (pe_call (ok_is_integer T) (hr.mono (by decide)) rfl T.gis_integer T.kis_integer T.bis_integer .nil pass0 (pa_cons (pv 1) (pa_cons pe_int (pa_cons (pe_glob (v := .int (4294967295)) rfl T.gGREATEST_NUMBER ⟨_, rfl⟩) pa_nil))))))
      pss_nil)
      (pss_cons (ps_if (pt_cmpR op_eq (pv 0) pe_str (nomark _))
      (pss_one (ps_ret (pe_and (pe_callB call_isi (by rfl) T.isinstance (by decide +kernel) (pa_cons (pv 1) (pa_cons (pe_bltn (v := .ty "str") (by rfl) T.str (by decide +kernel) rfl) pa_nil))) (pe_one (pe_call (ok_is_text T) (hr.mono (by decide)) rfl T.gis_text T.kis_text T.bis_text .nil pass0 (pa_cons (pv 1) pa_nil))))))
      pss_nil)
      (pss_cons (ps_if (pt_cmpR op_eq (pv 0) pe_str (nomark _))
      (pss_one (ps_ret (pe_call (ok__are_octets T) (hr.mono (by decide)) rfl T.g_are_octets T.k_are_octets T.b_are_octets .nil pass0 (pa_cons (pv 1) pa_nil))))
      pss_nil)
      (pss_one ps_never)))))), ?_⟩
    have q0 := q H (Same.refl H)
    cases hk with
    | num h =>
      rename_i lo hi i
      obtain rfl : v = .int i := ha
      cases h with
      | uint => exact ⟨_, rfl, rfl, _, rfl, if_t (by decide +kernel) (if_t rfl ⟨_, rfl, _, _, _, rfl, q0⟩)⟩
      | maybe => exact ⟨_, rfl, rfl, _, rfl, if_f (by decide +kernel) ⟨_, rfl, rfl, _, rfl, if_t (by decide +kernel) ⟨_, rfl, _, _, _, rfl, q0⟩⟩⟩
      | int =>
        refine ⟨_, rfl, rfl, _, rfl, if_f (by decide +kernel) ⟨_, rfl, rfl, _, rfl, if_f (by decide +kernel) ?_⟩⟩
        exact ⟨_, rfl, rfl, _, rfl, if_t (by decide +kernel) ⟨_, rfl, _, _, _, rfl, q0⟩⟩
      | object =>
        refine ⟨_, rfl, rfl, _, rfl, if_f (by decide +kernel) ⟨_, rfl, rfl, _, rfl, if_f (by decide +kernel) ?_⟩⟩
        refine ⟨_, rfl, rfl, _, rfl, if_f (by decide +kernel) ⟨_, rfl, rfl, _, rfl, if_t (by decide +kernel) (if_t rfl ⟨_, rfl, _, _, _, rfl, q0⟩)⟩⟩
      | new =>
        refine ⟨_, rfl, rfl, _, rfl, if_f (by decide +kernel) ⟨_, rfl, rfl, _, rfl, if_f (by decide +kernel) ?_⟩⟩
        refine ⟨_, rfl, rfl, _, rfl, if_f (by decide +kernel) ⟨_, rfl, rfl, _, rfl, if_f (by decide +kernel) ⟨_, rfl, rfl, _, rfl, if_t (by decide +kernel) ⟨_, rfl, _, _, _, rfl, q0⟩⟩⟩⟩
    | txt =>
      rename_i s
      obtain ⟨rfl, hl⟩ := ha
      refine ⟨_, rfl, rfl, _, rfl, if_f (by decide +kernel) ⟨_, rfl, rfl, _, rfl, if_f (by decide +kernel) ?_⟩⟩
      refine ⟨_, rfl, rfl, _, rfl, if_f (by decide +kernel) ⟨_, rfl, rfl, _, rfl, if_f (by decide +kernel) ⟨_, rfl, rfl, _, rfl, if_f (by decide +kernel) ?_⟩⟩⟩
      refine ⟨_, rfl, rfl, _, rfl, if_t (by decide +kernel) ?_⟩
      exact ⟨_, rfl, .str s, .ty "str", .type "str", .type "str", true, rfl, .ty _, .base (.str _), kit_ty (by decide +kernel), _, rfl, if_t rfl ⟨_, rfl, s, rfl, by omega, q⟩⟩
    | oct =>
      rename_i xs
      obtain ⟨a, rfl, ha, hl⟩ := ha
      refine ⟨_, rfl, rfl, _, rfl, if_f (by decide +kernel) ⟨_, rfl, rfl, _, rfl, if_f (by decide +kernel) ?_⟩⟩
      refine ⟨_, rfl, rfl, _, rfl, if_f (by decide +kernel) ⟨_, rfl, rfl, _, rfl, if_f (by decide +kernel) ⟨_, rfl, rfl, _, rfl, if_f (by decide +kernel) ?_⟩⟩⟩
      refine ⟨_, rfl, rfl, _, rfl, if_f (by decide +kernel) ?_⟩
      exact ⟨_, rfl, rfl, _, rfl, if_t (by decide +kernel) ⟨_, rfl, a, xs, rfl, ha, hl, q⟩⟩
    | bnd => exact absurd rfl nb
def sp__is_bound (K : PySem.W.Frag) : Sp := fun vs H Q _ => ∃ (a : Addr) (s : Str) (n : Int), vs = [.ref a] ∧ SqT K H a [.str s, .int n] ∧ s.length < 80000 ∧ ∀ H', Same H H' → Q (.bl (isText s && decide (1 ≤ n ∧ n ≤ 4294967295))) H'
theorem sc__is_bound : FnScope ["value"] ["value"] (defScope s__is_bound) := ⟨rfl, rfl, rfl, by decide +kernel, rfl, by decide +kernel, by decide +kernel⟩
theorem ok__is_bound (T : Txt0 P K mg A) : FnOk P w K mg base CX0 4 A.f_is_bound A.d_is_bound ["value"] (sp__is_bound K) := by
  refine T.F_is_bound.ok sc__is_bound (fun vs H Q E h => ?_) (fun cdv Ar outer s H vs Q E hr h => ?_)
  · obtain ⟨a, s, n, rfl, _⟩ := h
    rfl
  · obtain ⟨a, z, n, rfl, ha, hl, q⟩ := h
    have ok__is_of : ∀ {A' : Adr} (T : Txt0 P K mg A'), FnOk P w K mg base CX0 3 A'.f_is_of A'.d_is_of ["kind", "value"] (sp_is_of0 K) := fun T => ok_is_of0 T
    refine ⟨_, (pss_cons (ps_if (PW.pt (pw_or (pt_not (pt_val (pe_callB call_isi (by rfl) T.isinstance (by decide +kernel) (pa_cons (pv 0) (pa_cons (pe_bltn (v := .ty "tuple") (by rfl) T.tuple (by decide +kernel) rfl) pa_nil))))) (pw_or1 (pt_cmpR op_ne (pe_callB call_len_seq (by rfl) T.len PySem.boot_len (pa_cons (pv 0) pa_nil)) pe_int (nomark _)))))
      (pss_one (ps_ret pe_bl))
      pss_nil)
      (pss_one (ps_ret (pe_and (pe_call (ok__is_of T) (hr.mono (by decide)) rfl T.g_is_of T.k_is_of T.b_is_of .nil pass0 (pa_cons pe_str (pa_cons (pe_ix (r := rIxT K) ix_tup (pv 0) pe_int (fun _ _ => rfl)) pa_nil))) (pe_one (pe_call (ok__is_of T) (hr.mono (by decide)) rfl T.g_is_of T.k_is_of T.b_is_of .nil pass0 (pa_cons pe_str (pa_cons (pe_ix (r := rIxT K) ix_tup (pv 0) pe_int (fun _ _ => rfl)) pa_nil)))))))), ?_⟩
    refine ⟨_, rfl, .ref a, .ty "tuple", .type "tuple", .type "tuple", true, rfl, .ty _, tyT ha, kit_ty (by decide +kernel), _, rfl, if_f rfl ?_⟩
    refine ⟨_, rfl, a, _, rfl, .inr ha, rfl, _, rfl, if_f rfl ?_⟩
    refine ⟨_, rfl, a, _, 0, .str z, rfl, rfl, ha, atI_nat (j := 0) rfl, "text", .str z, .txt z, isText z, _, rfl, .txt, by decide +kernel, ⟨rfl, hl⟩, fun H' s => ⟨_, rfl, if_b (fun c => ?_) (fun c => ?_)⟩⟩
    · refine ⟨_, rfl, a, _, 1, .int n, rfl, rfl, s.sqt ha, atI_nat (j := 1) rfl, "new", .int n, .num n, _, _, rfl, .num .new, by decide +kernel, rfl, fun H2 s2 => ?_⟩
      have := q H2 (s.trans s2)
      rw [c, Bool.true_and] at this
      exact this
    · have := q H' s
      rw [c, Bool.false_and] at this
      exact this
def sp__is_of (K : PySem.W.Frag) : Sp := fun vs H Q _ => ∃ (kind : Str) (v : V) (x : AV) (ok : Bool) (os : List Int), vs = [.str kind, v] ∧ ArgSpec kind x ok os ∧ ArgAt K H v x ∧ ∀ H', Same H H' → Q (.bl ok) H'
theorem ok__is_of (T : Txt0 P K mg A) : FnOk P w K mg base CX0 5 A.f_is_of A.d_is_of ["kind", "value"] (sp__is_of K) := by
  refine T.F_is_of.ok sc__is_of (fun vs H Q E h => ?_) (fun cdv Ar outer s H vs Q E hr h => ?_)
  · obtain ⟨kind, v, x, ok, os, rfl, _⟩ := h
    rfl
  · obtain ⟨kind, v, x, ok, os, rfl, hk, ha, q⟩ := h
    refine ⟨_, (pss_cons (ps_if (PW.pt (pw_or (pt_cmpR op_eq (pv 0) pe_str (nomark _)) (pw_or1 (pt_cmpR op_eq (pv 0) pe_str (nomark _)))))
      (pss_one (ps_ret (pe_call (ok_is_integer T) (hr.mono (by decide)) rfl T.gis_integer T.kis_integer T.bis_integer .nil pass0 (pa_cons (pv 1) (pa_cons pe_int (pa_cons (pe_glob (v := .int (4294967295)) rfl T.gGREATEST_NUMBER ⟨_, rfl⟩) pa_nil))))))
      pss_nil)
      (pss_cons (ps_if (pt_cmpR op_eq (pv 0) pe_str (nomark _))
      (pss_one (ps_ret (pe_call (ok_is_integer T) (hr.mono (by decide)) rfl T.gis_integer T.kis_integer T.bis_integer .nil pass0 (pa_cons (pv 1) (pa_cons (pe_glob (v := .int (-2147483648)) rfl T.gLEAST_INT ⟨_, rfl⟩) (pa_cons (pe_glob (v := .int (2147483647)) rfl T.gGREATEST_INT ⟨_, rfl⟩) pa_nil))))))
      pss_nil)
      (pss_cons (ps_if (PW.pt (pw_or (pt_cmpR op_eq (pv 0) pe_str (nomark _)) (pw_or1 (pt_cmpR op_eq (pv 0) pe_str (nomark _)))))
      (pss_one (ps_ret (pe_call (ok_is_integer T) (hr.mono (by decide)) rfl T.gis_integer T.kis_integer T.bis_integer .nil pass0 (pa_cons (pv 1) (pa_cons pe_int (pa_cons (pe_glob (v := .int (4294967295)) rfl T.gGREATEST_NUMBER ⟨_, rfl⟩) pa_nil))))))
      pss_nil)
      (pss_cons (ps_if (pt_cmpR op_eq (pv 0) pe_str (nomark _))
      (pss_one (ps_ret (pe_and (pe_callB call_isi (by rfl) T.isinstance (by decide +kernel) (pa_cons (pv 1) (pa_cons (pe_bltn (v := .ty "str") (by rfl) T.str (by decide +kernel) rfl) pa_nil))) (pe_one (pe_call (ok_is_text T) (hr.mono (by decide)) rfl T.gis_text T.kis_text T.bis_text .nil pass0 (pa_cons (pv 1) pa_nil))))))
      pss_nil)
      (pss_cons (ps_if (pt_cmpR op_eq (pv 0) pe_str (nomark _))
      (pss_one (ps_ret (pe_call (ok__are_octets T) (hr.mono (by decide)) rfl T.g_are_octets T.k_are_octets T.b_are_octets .nil pass0 (pa_cons (pv 1) pa_nil))))
      pss_nil)
      (pss_one (ps_ret (pe_and (pe_cmpR op_eq (pv 0) pe_str (nomark _)) (pe_one (pe_call (ok__is_bound T) (hr.mono (by decide)) rfl T.g_is_bound T.k_is_bound T.b_is_bound .nil pass0 (pa_cons (pv 1) pa_nil))))))))))), ?_⟩
    have q0 := q H (Same.refl H)
    cases hk with
    | num h =>
      rename_i lo hi i
      obtain rfl : v = .int i := ha
      cases h with
      | uint => exact ⟨_, rfl, rfl, _, rfl, if_t (by decide +kernel) (if_t rfl ⟨_, rfl, _, _, _, rfl, q0⟩)⟩
      | maybe => exact ⟨_, rfl, rfl, _, rfl, if_f (by decide +kernel) ⟨_, rfl, rfl, _, rfl, if_t (by decide +kernel) ⟨_, rfl, _, _, _, rfl, q0⟩⟩⟩
      | int =>
        refine ⟨_, rfl, rfl, _, rfl, if_f (by decide +kernel) ⟨_, rfl, rfl, _, rfl, if_f (by decide +kernel) ?_⟩⟩
        exact ⟨_, rfl, rfl, _, rfl, if_t (by decide +kernel) ⟨_, rfl, _, _, _, rfl, q0⟩⟩
      | object =>
        refine ⟨_, rfl, rfl, _, rfl, if_f (by decide +kernel) ⟨_, rfl, rfl, _, rfl, if_f (by decide +kernel) ?_⟩⟩
        refine ⟨_, rfl, rfl, _, rfl, if_f (by decide +kernel) ⟨_, rfl, rfl, _, rfl, if_t (by decide +kernel) (if_t rfl ⟨_, rfl, _, _, _, rfl, q0⟩)⟩⟩
      | new =>
        refine ⟨_, rfl, rfl, _, rfl, if_f (by decide +kernel) ⟨_, rfl, rfl, _, rfl, if_f (by decide +kernel) ?_⟩⟩
        refine ⟨_, rfl, rfl, _, rfl, if_f (by decide +kernel) ⟨_, rfl, rfl, _, rfl, if_f (by decide +kernel) ⟨_, rfl, rfl, _, rfl, if_t (by decide +kernel) ⟨_, rfl, _, _, _, rfl, q0⟩⟩⟩⟩
    | txt =>
      rename_i s
      obtain ⟨rfl, hl⟩ := ha
      refine ⟨_, rfl, rfl, _, rfl, if_f (by decide +kernel) ⟨_, rfl, rfl, _, rfl, if_f (by decide +kernel) ?_⟩⟩
      refine ⟨_, rfl, rfl, _, rfl, if_f (by decide +kernel) ⟨_, rfl, rfl, _, rfl, if_f (by decide +kernel) ⟨_, rfl, rfl, _, rfl, if_f (by decide +kernel) ?_⟩⟩⟩
      refine ⟨_, rfl, rfl, _, rfl, if_t (by decide +kernel) ?_⟩
      exact ⟨_, rfl, .str s, .ty "str", .type "str", .type "str", true, rfl, .ty _, .base (.str _), kit_ty (by decide +kernel), _, rfl, if_t rfl ⟨_, rfl, s, rfl, by omega, q⟩⟩
    | oct =>
      rename_i xs
      obtain ⟨a, rfl, ha, hl⟩ := ha
      refine ⟨_, rfl, rfl, _, rfl, if_f (by decide +kernel) ⟨_, rfl, rfl, _, rfl, if_f (by decide +kernel) ?_⟩⟩
      refine ⟨_, rfl, rfl, _, rfl, if_f (by decide +kernel) ⟨_, rfl, rfl, _, rfl, if_f (by decide +kernel) ⟨_, rfl, rfl, _, rfl, if_f (by decide +kernel) ?_⟩⟩⟩
      refine ⟨_, rfl, rfl, _, rfl, if_f (by decide +kernel) ?_⟩
      exact ⟨_, rfl, rfl, _, rfl, if_t (by decide +kernel) ⟨_, rfl, a, xs, rfl, ha, hl, q⟩⟩
    | bnd =>
      rename_i z n
      obtain ⟨a, rfl, ha, hl⟩ := ha
      refine ⟨_, rfl, rfl, _, rfl, if_f (by decide +kernel) ⟨_, rfl, rfl, _, rfl, if_f (by decide +kernel) ?_⟩⟩
      refine ⟨_, rfl, rfl, _, rfl, if_f (by decide +kernel) ⟨_, rfl, rfl, _, rfl, if_f (by decide +kernel) ⟨_, rfl, rfl, _, rfl, if_f (by decide +kernel) ?_⟩⟩⟩
      refine ⟨_, rfl, rfl, _, rfl, if_f (by decide +kernel) ?_⟩
      refine ⟨_, rfl, rfl, _, rfl, if_f (by decide +kernel) ?_⟩
      exact ⟨_, rfl, rfl, _, rfl, if_t (by decide +kernel) ⟨_, rfl, a, z, n, rfl, ha, hl, q⟩⟩
/-- field_octets: a new list, or BadMessage -/
def sp_field_octets (K : PySem.W.Frag) (C : Addr) : Sp := fun vs H Q E => ∃ (kind : Str) (v : V) (x : AV) (ok : Bool) (os : List Int), vs = [.str kind, v] ∧ ArgSpec kind x ok os ∧ ArgAt K H v x ∧
  (ok = true → ∀ p H', NewL H H' p (os.map V.int) → Q (.ref p) H') ∧ (ok = false → ∀ H', Same H H' → E (.ref C) none H')
theorem sc_field_octets : FnScope ["kind", "value", "text", "number"] ["kind", "value"] (defScope s_field_octets) := ⟨rfl, rfl, rfl, by decide +kernel, rfl, by decide +kernel, by decide +kernel⟩
theorem ok_field_octets (T : Txt0 P K mg A) : FnOk P w K mg base (L2.CX P w) 6 A.ffield_octets A.dfield_octets ["kind", "value"] (sp_field_octets K A.CBadMessage) := by
  refine T.Ffield_octets.okX sc_field_octets (fun vs H Q E h => ?_) (fun cdv Ar outer s H vs Q E hr h => ?_)
  · obtain ⟨kind, v, x, ok, os, rfl, _⟩ := h
    rfl
  · obtain ⟨kind, v, x, ok, os, rfl, hk, ha, q, e⟩ := h
    refine ⟨_, (pss_cons (ps_if (pt_not (pt_val (pe_call (ok__is_of T) (hr.mono (by decide)) rfl T.g_is_of T.k_is_of T.b_is_of .nil pass0 (pa_cons (pv 0) (pa_cons (pv 1) pa_nil)))))
      (pss_one (ps_raise rfl (takes_of rfl rfl rfl rfl) (pmk_own PySem.F.excBase_ValueError T.xBadMessage T.gBadMessage T.kBadMessage (raises_own T.bxBadMessage T.txBadMessage) rfl)))
      pss_nil)
      (pss_cons (ps_if (pt_cmpR op_eq (pv 0) pe_str (nomark _))
      (pss_one (ps_ret (pe_call (ok__text_octets T) (hr.mono (by decide)) rfl T.g_text_octets T.k_text_octets T.b_text_octets .nil pass0 (pa_cons (pv 1) pa_nil))))
      pss_nil)
      (pss_cons (ps_if (pt_cmpR op_eq (pv 0) pe_str (nomark _))
      (pss_one (ps_ret (pe_call (ok__padded T) (hr.mono (by decide)) rfl T.g_padded T.k_padded T.b_padded .nil pass0 (pa_cons (pe_op op_cat (pe_call (ok_number_octets T) (hr.mono (by decide)) rfl T.gnumber_octets T.knumber_octets T.bnumber_octets .nil pass0 (pa_cons (pe_callB call_len_seq (by rfl) T.len PySem.boot_len (pa_cons (pv 1) pa_nil)) (pa_cons pe_int pa_nil))) (pv 1)) pa_nil))))
      pss_nil)
      (pss_cons (ps_if (pt_cmpR op_eq (pv 0) pe_str (nomark _))
      (pss_cons (ps_asg (pv 1) (pg_tup rfl (pgs_cons (pg_name (i := 2) sc_field_octets.nd rfl (Or.inl rfl)) (pgs_cons (pg_name (i := 3) sc_field_octets.nd rfl (Or.inl rfl)) pgs_nil))))
      (pss_one (ps_ret (pe_op op_cat (pe_call (ok__text_octets T) (hr.mono (by decide)) rfl T.g_text_octets T.k_text_octets T.b_text_octets .nil pass0 (pa_cons (pv 2) pa_nil)) (pe_call (ok_number_octets T) (hr.mono (by decide)) rfl T.gnumber_octets T.knumber_octets T.bnumber_octets .nil pass0 (pa_cons (pv 3) (pa_cons pe_int pa_nil)))))))
      pss_nil)
      (pss_one (ps_ret (pe_call (ok_number_octets T) (hr.mono (by decide)) rfl T.gnumber_octets T.knumber_octets T.bnumber_octets .nil pass0 (pa_cons (pe_op op_mod (pv 1) (pe_op op_pow pe_int pe_int)) (pa_cons pe_int pa_nil))))))))), ?_⟩
    refine ⟨_, rfl, _, rfl, kind, v, x, ok, os, rfl, hk, ha, fun H1 s1 => ⟨_, rfl, if_b (fun c => ?_) (fun c => ?_)⟩⟩
    · refine e ?_ H1 s1
      cases ok
      · rfl
      · cases c
    have hok : ok = true := by cases ok; · cases c
                               · rfl
    replace q : ∀ p H', NewL H H' p (os.map V.int) → Q (.ref p) H' := q hok
    replace ha := ha.to s1
    clear e c
    cases hk with
    | num h =>
      rename_i lo hi i
      obtain rfl : v = .int i := ha
      have hne : kind ≠ "text" ∧ kind ≠ "octets" ∧ kind ≠ "bound" := by cases h <;> exact ⟨by decide +kernel, by decide +kernel, by decide +kernel⟩
      refine ⟨_, rfl, rfl, _, rfl, if_f (decide_eq_false fun z => hne.1 (V.str.inj z)) ?_⟩
      refine ⟨_, rfl, rfl, _, rfl, if_f (decide_eq_false fun z => hne.2.1 (V.str.inj z)) ?_⟩
      refine ⟨_, rfl, rfl, _, rfl, if_f (decide_eq_false fun z => hne.2.2 (V.str.inj z)) ?_⟩
      refine ⟨_, rfl, _, _, rfl, rfl, ⟨by decide, by decide, by decide⟩, _, _, rfl, rfl, by show (0 : Int) < 2 ^ (32 : Int).toNat; decide +kernel, ?_⟩
      have e2 : i % 2 ^ (32 : Int).toNat = i % 4294967296 := by rw [show (2 : Int) ^ (32 : Int).toNat = 4294967296 by decide +kernel]
      refine ⟨_, 4, rfl, ?_, by decide, ?_⟩
      · rw [e2]; omega
      · rw [e2]; exact fun p H' hp hs he => q p H' ⟨s1.free hp, s1.trans hs, he⟩
    | txt =>
      rename_i z
      obtain ⟨rfl, hl⟩ := ha
      refine ⟨_, rfl, rfl, _, rfl, if_t (by decide +kernel) ⟨_, rfl, z, rfl, hl, fun p H' n => q p H' ⟨s1.free n.new, s1.trans n.same, n.at_⟩⟩⟩
    | oct =>
      rename_i xs
      obtain ⟨a, rfl, ha, hl⟩ := ha
      refine ⟨_, rfl, rfl, _, rfl, if_f (by decide +kernel) ⟨_, rfl, rfl, _, rfl, if_t (by decide +kernel) ?_⟩⟩
      refine ⟨_, rfl, a, _, rfl, .inl (SqL.of ha), _, 4, rfl, by omega, by decide, fun p H2 hp hs he => ?_⟩
      rw [List.length_map] at he
      refine ⟨_, rfl, p, a, _, _, rfl, rfl, he, hs _ _ ha, ?_, fun p3 n3 => ?_⟩
      · rw [List.length_map, List.length_map, octs_len]; exact len_line (by omega)
      refine ⟨p3, octs xs.length 4 ++ xs, rfl, by rw [upd_same, List.map_append], by rw [List.length_append, octs_len]; omega, fun p4 H4 n4 => q p4 H4 ?_⟩
      exact ⟨s1.free (hs.free ((same_upd n3).free n4.new)), s1.trans (hs.trans ((same_upd n3).trans n4.same)), n4.at_⟩
    | bnd =>
      rename_i z n
      obtain ⟨a, rfl, ha, hl⟩ := ha
      refine ⟨_, rfl, rfl, _, rfl, if_f (by decide +kernel) ⟨_, rfl, rfl, _, rfl, if_f (by decide +kernel) ⟨_, rfl, rfl, _, rfl, if_t (by decide +kernel) ?_⟩⟩⟩
      refine ⟨_, rfl, a, _, rfl, ha, rfl, _, _, rfl, _, _, rfl, rfl, ?_⟩
      refine ⟨_, rfl, z, rfl, hl, fun p2 H2 n2 => ?_⟩
      refine ⟨_, rfl, n, 4, rfl, ?_, by decide, fun p3 H3 n3 s3 e3 => ?_⟩
      · have h2 := (Bool.and_eq_true_iff.mp hok).2
        have h3 := of_decide_eq_true h2
        omega
      refine ⟨p2, p3, _, _, rfl, rfl, s3 _ _ n2.at_, e3, ?_, fun p4 n4 => q p4 _ ⟨?_, ?_, ?_⟩⟩
      · rw [List.length_map, List.length_map, octs_len]; have := textOcts_len z; exact len_line (by omega)
      · exact s1.free (n2.same.free (s3.free n4))
      · exact s1.trans (n2.same.trans (s3.trans (same_upd n4)))
      · rw [upd_same, List.map_append]
/-! ### arguments: kind, value, octets -/
structure Arg where
  kind : Str
  val : AV
  os : List Int
def bodyOf (args : List Arg) : List Int := args.flatMap Arg.os
theorem body_take {args : List Arg} {i : Nat} {g : Arg} (h : args[i]? = some g) : bodyOf (args.take (i + 1)) = bodyOf (args.take i) ++ g.os := fl_take' Arg.os args i g h
theorem body_le (args : List Arg) (i : Nat) : (bodyOf (args.take i)).length ≤ (bodyOf args).length := fl_le' Arg.os args i
theorem body_len_le {args : List Arg} {c : Nat} (h : ∀ g ∈ args, g.os.length ≤ c) : (bodyOf args).length ≤ c * args.length := by
  induction args with
  | nil => exact Nat.zero_le _
  | cons g r ih =>
    show (g.os ++ bodyOf r).length ≤ c * (r.length + 1)
    rw [List.length_append, Nat.mul_succ]
    have := ih fun x hx => h x (List.mem_cons_of_mem _ hx)
    have := h g List.mem_cons_self
    omega
/-! ### encode_message -/
/-- the list of the arguments, all of them of their kinds -/
structure ArgsAt (K : PySem.W.Frag) (H : Hp) (a : Addr) (args : List Arg) : Prop where
  ex : ∃ xs : List V, SqL K H a xs ∧ xs.length = args.length ∧ ∀ (i : Nat) (x : V), xs[i]? = some x → ∃ (g : Arg) (t : Addr) (v : V), args[i]? = some g ∧ x = .ref t ∧ SqT K H t [.str g.kind, v] ∧ ArgAt K H v g.val
  ok : ∀ g ∈ args, ArgSpec g.kind g.val true g.os
theorem ArgsAt.to {K : PySem.W.Frag} {H H' : Hp} {a : Addr} {args : List Arg} (h : ArgsAt K H a args) (s : Same H H') : ArgsAt K H' a args := by
  obtain ⟨xs, h1, h2, h3⟩ := h.ex
  refine ⟨⟨xs, s.seq h1, h2, fun i x hx => ?_⟩, h.ok⟩
  obtain ⟨g, t, v, e1, e2, e3, e4⟩ := h3 i x hx
  exact ⟨g, t, v, e1, e2, s.sqt e3, e4.to s⟩
def msgOcts (n o : Int) (body : List Int) : List Int := octs n 4 ++ octs o 2 ++ octs ((8 + body.length : Nat) : Int) 2 ++ body
def encBad (n o : Int) (args : List Arg) : Prop := ¬ (1 ≤ n ∧ n ≤ 4294967295) ∨ ¬ (0 ≤ o ∧ o ≤ 65535) ∨ 20 < args.length
def encLong (args : List Arg) : Prop := 20480 < 8 + (bodyOf args).length
def sp_encode_message (K : PySem.W.Frag) (B L : Addr) : Sp := fun vs H Q E => ∃ (n o : Int) (a : Addr) (args : List Arg), vs = [.int n, .int o, .ref a] ∧ ArgsAt K H a args ∧ (bodyOf args).length < 60000 ∧ args.length < 60000 ∧
  (encBad n o args → ∀ H', Same H H' → E (.ref B) none H') ∧ (¬ encBad n o args → encLong args → ∀ H', Same H H' → E (.ref L) none H') ∧
  (¬ encBad n o args → ¬ encLong args → ∀ p H', NewL H H' p ((msgOcts n o (bodyOf args)).map V.int) → Q (.ref p) H')
theorem sc_encode_message : FnScope ["number", "opcode", "arguments", "body", "kind", "value", "size"] ["number", "opcode", "arguments"] (defScope s_encode_message) := ⟨rfl, rfl, rfl, by decide +kernel, rfl, by decide +kernel, by decide +kernel⟩
theorem ok_encode_message (T : Txt0 P K mg A) : FnOk P w K mg base (L2.CX P w) 7 A.fencode_message A.dencode_message ["number", "opcode", "arguments"] (sp_encode_message K A.CBadMessage A.CMessageTooLong) := by
  refine T.Fencode_message.okX sc_encode_message (fun vs H Q E h => ?_) (fun cdv Ar outer s H vs Q E hr h => ?_)
  · obtain ⟨n, o, a, args, rfl, _⟩ := h
    rfl
  · obtain ⟨n, o, a, args, rfl, hA, hb, hl, qb, ql, q⟩ := h
    obtain ⟨xs, hS, hxl, hx⟩ := hA.ex
    refine ⟨_, (pss_cons (ps_if (pt_not (pt_val (pe_call (ok_is_integer T) (hr.mono (by decide)) rfl T.gis_integer T.kis_integer T.bis_integer .nil pass0 (pa_cons (pv 0) (pa_cons pe_int (pa_cons (pe_glob (v := .int (4294967295)) rfl T.gGREATEST_NUMBER ⟨_, rfl⟩) pa_nil))))))
      (pss_one (ps_raise rfl (takes_of rfl rfl rfl rfl) (pmk_own PySem.F.excBase_ValueError T.xBadMessage T.gBadMessage T.kBadMessage (raises_own T.bxBadMessage T.txBadMessage) rfl)))
      pss_nil)
      (pss_cons (ps_if (pt_not (pt_val (pe_call (ok_is_integer T) (hr.mono (by decide)) rfl T.gis_integer T.kis_integer T.bis_integer .nil pass0 (pa_cons (pv 1) (pa_cons pe_int (pa_cons (pe_glob (v := .int (65535)) rfl T.gGREATEST_OPCODE ⟨_, rfl⟩) pa_nil))))))
      (pss_one (ps_raise rfl (takes_of rfl rfl rfl rfl) (pmk_own PySem.F.excBase_ValueError T.xBadMessage T.gBadMessage T.kBadMessage (raises_own T.bxBadMessage T.txBadMessage) rfl)))
      pss_nil)
      (pss_cons (ps_if (pt_cmpR op_gt (pe_callB call_len_seq (by rfl) T.len PySem.boot_len (pa_cons (pv 2) pa_nil)) (pe_glob (v := .int (20)) rfl T.gMOST_ARGUMENTS ⟨_, rfl⟩) (nomark _))
      (pss_one (ps_raise rfl (takes_of rfl rfl rfl rfl) (pmk_own PySem.F.excBase_ValueError T.xBadMessage T.gBadMessage T.kBadMessage (raises_own T.bxBadMessage T.txBadMessage) rfl)))
      pss_nil)
      (pss_cons (ps_set (i := 3) sc_encode_message.nd rfl (Or.inl rfl) (pe_lst pa_nil))
      (pss_cons (ps_for (passes_of rfl) rfl (pi_list (pv 2)) (pg_tup rfl (pgs_cons (pg_name (i := 4) sc_encode_message.nd rfl (Or.inl rfl)) (pgs_cons (pg_name (i := 5) sc_encode_message.nd rfl (Or.inl rfl)) pgs_nil)))
      (pss_one (ps_expr (pe_bm PySem.F.plainAttrs_list PySem.F.slot_list_extend PySem.F.type_list_extend mt_extend (pv 3) (pa_cons (pe_call (ok_field_octets T) (hr.mono (by decide)) rfl T.gfield_octets T.kfield_octets T.bfield_octets .nil (passes_call (takes_of rfl rfl rfl rfl) (fun _ _ _ _ h => h)) (pa_cons (pv 4) (pa_cons (pv 5) pa_nil))) pa_nil)))))
      (pss_cons (ps_set (i := 6) sc_encode_message.nd rfl (Or.inl rfl) (pe_op op_add (pe_glob (v := .int (8)) rfl T.gHEADER_SIZE ⟨_, rfl⟩) (pe_callB call_len_seq (by rfl) T.len PySem.boot_len (pa_cons (pv 3) pa_nil))))
      (pss_cons (ps_if (pt_cmpR op_gt (pv 6) (pe_glob (v := .int (20480)) rfl T.gGREATEST_SIZE ⟨_, rfl⟩) (nomark _))
      (pss_one (ps_raise rfl (takes_of rfl rfl rfl rfl) (pmk_own PySem.F.excBase_ValueError T.xMessageTooLong T.gMessageTooLong T.kMessageTooLong (raises_own T.bxMessageTooLong T.txMessageTooLong) rfl)))
      pss_nil)
      (pss_one (ps_ret (pe_op op_cat (pe_op op_cat (pe_op op_cat (pe_call (ok_number_octets T) (hr.mono (by decide)) rfl T.gnumber_octets T.knumber_octets T.bnumber_octets .nil pass0 (pa_cons (pv 0) (pa_cons pe_int pa_nil))) (pe_call (ok_number_octets T) (hr.mono (by decide)) rfl T.gnumber_octets T.knumber_octets T.bnumber_octets .nil pass0 (pa_cons (pv 1) (pa_cons pe_int pa_nil)))) (pe_call (ok_number_octets T) (hr.mono (by decide)) rfl T.gnumber_octets T.knumber_octets T.bnumber_octets .nil pass0 (pa_cons (pv 6) (pa_cons pe_int pa_nil)))) (pv 3))))))))))), ?_⟩
    refine ⟨_, rfl, n, 1, 4294967295, rfl, _, rfl, iteN (fun c => qb (Or.inl c) H (Same.refl H)) (fun c1 => ?_)⟩
    refine ⟨_, rfl, o, 0, 65535, rfl, _, rfl, iteN (fun c => qb (Or.inr (Or.inl c)) H (Same.refl H)) (fun c2 => ?_)⟩
    refine ⟨_, rfl, a, _, rfl, .inl hS, _, _, rfl, rfl, _, rfl, iteP (fun c => qb (Or.inr (Or.inr (by omega))) H (Same.refl H)) (fun c3 => ?_)⟩
    have nb : ¬ encBad n o args := fun z => by
      rcases z with z | z | z
      · exact z c1
      · exact z c2
      · omega
    refine ⟨by decide, fun p hp => ?_⟩
    refine ⟨_, rfl, a, rfl, ⟨_, (same_upd hp).seq hS⟩, for_list (K := K) (a := a) (xs := xs) (fun i σ H' => ∃ v4 v5 : Option V, σ = [some (.int n), some (.int o), some (.ref a), some (.ref p), v4, v5, none] ∧ Same H H' ∧ H' p = some (.lst ((bodyOf (args.take i)).map V.int)))
      ⟨_, _, rfl, same_upd hp, upd_same⟩ (fun i σ H' _ ⟨_, _, _, s, _⟩ => s.seq hS) ?_ ?_⟩
    · rintro i x σ H1 hi ⟨v4, v5, rfl, s1, e1⟩
      obtain ⟨g, t, v, hg, rfl, ht, hv⟩ := hx i x hi
      refine ⟨t, _, rfl, s1.sqt ht, rfl, _, _, rfl, _, _, rfl, rfl, ?_⟩
      refine ⟨_, rfl, .inl ⟨rfl, _, SqL.of e1⟩, ?_⟩
      refine ⟨_, rfl, _, rfl, g.kind, v, g.val, true, g.os, rfl, hA.ok g (List.mem_of_getElem? hg), hv.to s1, fun _ p2 H2 n2 => ?_, fun z => nomatch z⟩
      have e2 := n2.same _ _ e1
      have hbt := body_take hg
      have hbl := body_le args (i + 1)
      rw [hbt, List.length_append] at hbl
      refine ⟨p, p2, _, _, rfl, rfl, e2, n2.at_, ?_, ?_⟩
      · rw [List.length_map, List.length_map]; exact len_line (by omega)
      refine ⟨_, _, rfl, fun b u e => ?_, ?_⟩
      · rw [upd_ne (ne_of_none e hp)]; exact n2.same _ _ (s1 b u e)
      · rw [upd_same, hbt, List.map_append]
    · rintro σ H1 ⟨v4, v5, rfl, s1, e1⟩
      rw [hxl, List.take_length] at e1
      refine ⟨_, rfl, p, _, rfl, .inl (SqL.of e1), _, _, rfl, rfl, ?_⟩
      rw [List.length_map]
      have ec : (8 : Int) + ((bodyOf args).length : Int) = ((8 + (bodyOf args).length : Nat) : Int) := by omega
      refine ⟨_, rfl, _, _, rfl, rfl, _, rfl, iteP (fun c => ?_) (fun c => ?_)⟩
      · exact ql nb (by show 20480 < _; have : (20480 : Int) < 8 + ((bodyOf args).length : Int) := c; omega) H1 s1
      have nl : ¬ encLong args := fun z => c (by show (20480 : Int) < 8 + ((bodyOf args).length : Int); have : 20480 < 8 + (bodyOf args).length := z; omega)
      refine ⟨_, rfl, n, 4, rfl, by omega, by decide, fun p2 H2 h2 s2 e2 => ?_⟩
      refine ⟨_, rfl, o, 2, rfl, by omega, by decide, fun p3 H3 h3 s3 e3 => ?_⟩
      refine ⟨p2, p3, _, _, rfl, rfl, s3 _ _ e2, e3, ?_, fun p4 h4 => ?_⟩
      · rw [List.length_map, List.length_map, octs_len, octs_len]; exact len_line (by decide)
      refine ⟨_, rfl, ((8 + (bodyOf args).length : Nat) : Int), 2, ?_, by omega, by decide, fun p5 H5 h5 s5 e5 => ?_⟩
      · exact congrArg (fun z => [V.int z, V.int 2]) ec
      refine ⟨p4, p5, _, _, rfl, rfl, s5 _ _ upd_same, e5, ?_, fun p6 h6 => ?_⟩
      · rw [List.length_append, List.length_map, List.length_map, List.length_map, octs_len, octs_len, octs_len]; exact len_line (by decide)
      have e1' := same_upd (o := .lst ((octs n 4).map V.int ++ (octs o 2).map V.int ++ (octs ((8 + (bodyOf args).length : Nat) : Int) 2).map V.int)) h6 _ _ (s5 _ _ (same_upd (o := .lst ((octs n 4).map V.int ++ (octs o 2).map V.int)) h4 _ _ (s3 _ _ (s2 _ _ e1))))
      refine ⟨_, rfl, p6, p, _, _, rfl, rfl, upd_same, e1', ?_, fun p7 h7 => q nb nl p7 _ ⟨?_, ?_, ?_⟩⟩
      · rw [List.length_append, List.length_append, List.length_map, List.length_map, List.length_map, List.length_map, octs_len, octs_len, octs_len]; exact len_line (by omega)
      · exact s1.free (s2.free (s3.free ((same_upd h4).free (s5.free ((same_upd h6).free h7)))))
      · exact s1.trans (s2.trans (s3.trans ((same_upd h4).trans (s5.trans ((same_upd h6).trans (same_upd h7))))))
      · rw [upd_same]
        unfold msgOcts
        rw [List.map_append, List.map_append, List.map_append]
/-! ### a rule: a walk of zip of a tuple and a list -/
section
open PySem.Spec PyProof.Rows
def ItzM (K : PySem.W.Frag) (a b : Addr) : It :=
  ⟨fun i H => ∃ (xs ys : List V) (x y : V), SqT K H a xs ∧ SqL K H b ys ∧ xs[i]? = some x ∧ ys[i]? = some y,
    fun i H v H' => ∃ T x y, v = .ref T ∧ H T = none ∧ H' = upd H T (.tup [x, y]) ∧ (∀ xs, SqT K H a xs → xs[i]? = some x) ∧ ∀ ys, SqL K H b ys → ys[i]? = some y,
    fun i H => ∃ xs ys : List V, SqT K H a xs ∧ SqL K H b ys ∧ i ≤ xs.length ∧ i ≤ ys.length ∧ (i = xs.length ∨ i = ys.length)⟩
theorem sepM {z TI TO i1 i2 a b : Addr} (D : ZipApart z TI TO i1 i2 a b) : ZipSep2 z TI TO i1 i2 [i1, a] [i2, b] where
  TIz := D.TIz
  TOz := D.TOz
  TITO := D.TITO
  TIi1 := D.TIi1
  mem1 := by simp
  zf1 := by simp only [List.mem_cons, List.not_mem_nil, or_false]; exact fun h => h.elim D.i1z.symm D.l1z.symm
  Tf1 := by simp only [List.mem_cons, List.not_mem_nil, or_false]; exact fun h => h.elim D.TOi1 D.l1TO.symm
  TIi2 := D.TIi2
  mem2 := by simp
  zf2 := by simp only [List.mem_cons, List.not_mem_nil, or_false]; exact fun h => h.elim D.i2z.symm D.l2z.symm
  Tf2 := by simp only [List.mem_cons, List.not_mem_nil, or_false]; exact fun h => h.elim D.TOi2 D.l2TO.symm
  sep1_2 := by simp only [List.mem_cons, List.not_mem_nil, or_false]; exact fun h => h.elim D.i12 D.l2i1.symm
  sep2_1 := by simp only [List.mem_cons, List.not_mem_nil, or_false]; exact fun h => h.elim D.i12.symm D.l1i2.symm
theorem turn_zipM {P : Program} {w : World} {K : PySem.W.Frag} {elts : List Expr} {kk : Nat} {tpos : Pos} {a b z TI TO i1 i2 : Addr} (D : ZipApart z TI TO i1 i2 a b) :
    Turn P w K (.Tuple elts kk tpos) (ItzM K a b) [z, TI, TO, i1, i2] z (fun i h => IsZip h z TI TO .none ∧ IsTupOf2 h TI (.ref i1) (.ref i2) ∧ (∃ x y, IsTupOf2 h TO x y) ∧ h.IsTupleIter i1 a i ∧ h.IsListIter i2 b i) where
  mem := by simp
  obj := fun i h st c hc => by
    obtain ⟨hz, hTI, ⟨x, y, hTO⟩, ⟨o1, e1, _, d1⟩, ⟨o2, e2, _, d2⟩⟩ := st
    simp only [List.mem_cons, List.not_mem_nil, or_false] at hc
    rcases hc with rfl | rfl | rfl | rfl | rfl
    · exact ⟨_, hz, fun v q => nomatch q⟩
    · exact ⟨_, hTI, fun v q => nomatch q⟩
    · exact ⟨_, hTO, fun v q => nomatch q⟩
    · exact ⟨o1, e1, fun v q => by rw [d1] at q; cases q⟩
    · exact ⟨o2, e2, fun v q => by rw [d2] at q; cases q⟩
  keep := fun i h h' st k => by
    obtain ⟨hz, hTI, ⟨x, y, hTO⟩, h1, h2⟩ := st
    exact ⟨k z (by simp) _ hz, k TI (by simp) _ hTI, ⟨x, y, k TO (by simp) _ hTO⟩, h1.at fun o q => k i1 (by simp) o q, h2.at fun o q => k i2 (by simp) o q⟩
  item := by
    intro X hP hw hK hc i pins s σ H E I hf st hg
    subst hP hw hK
    obtain ⟨hz, hTI, ⟨x0, y0, hTO⟩, h1, h2⟩ := st
    obtain ⟨xs, ys, x, y, hqx, hqy, hx, hy⟩ := hg
    obtain ⟨its, rv, p, _⟩ := I.tuple hqx
    obtain ⟨its2, rv2, p2, _⟩ := I.list hqy
    obtain ⟨u, hu, ru⟩ := rv.get hx
    obtain ⟨u2, hu2, ru2⟩ := rv2.get hy
    have hzl : z < s.heap.objs.size := Heap.lt_size hz
    have hh : X.A.handled = none := I.ok.hd hc
    have g1 : its.toArray[i]? = some u := by simpa using hu
    have g2 : its2.toArray[i]? = some u2 := by simpa using hu2
    refine wpAny_pyNext_zipD2_item (sepM D) (Draws.tuple (A := X.A.in1) hh i1 a D.l1i1 its.toArray) (Draws.list (A := X.A.in1) hh i2 b D.l2i2 its2.toArray) hz hTI hTO ⟨h1, p⟩ ⟨h2, p2.isList⟩
      (Array.getElem?_eq_some_iff.mp g1).1 (Array.getElem?_eq_some_iff.mp g2).1 fun x1 x2 h' tk e1 e2 z' TO' h1' h2' hT hsz hk => ?_
    obtain rfl : u = x1 := Option.some.inj (g1.symm.trans e1)
    obtain rfl : u2 = x2 := Option.some.inj (g2.symm.trans e2)
    refine ⟨_, rfl, wpAny_letOwnedTupleGo_zip (s := { s with heap := h', toks := tk }) z' fun h'' z'' sb => ?_⟩
    have hT2 : h''.get? s.heap.objs.size = some { cls := .type "tuple", data := .seq #[u, u2] } := (sb.2 _ (Nat.ne_of_gt hzl)).trans hT
    have new : ObjOk X.prog X.w (upd H s.heap.objs.size (.tup [x, y])) h'' s.heap.objs.size (.tup [x, y]) :=
      ⟨by show 2 ≤ sizeLine; decide, [u, u2], .cons ru (.cons ru2 .nil), ⟨_, hT2, rfl, _, rfl⟩⟩
    have I1 : Inv X pins σ (upd H s.heap.objs.size (.tup [x, y])) { s with heap := h'', toks := tk } :=
      I.turnedNew (t' := tk) (ch := [z, TI, TO, i1, i2]) (fun c o hb q => by
        simp only [List.mem_cons, List.not_mem_nil, or_false, not_or] at hb
        exact (sb.2 c hb.1).trans (hk c o hb.1 hb.2.2.1 hb.2.2.2.1 hb.2.2.2.2 q)) hf (Nat.le_refl _) new
    refine ⟨.ref s.heap.objs.size, _, I1, rfl, ⟨_, x, y, rfl, I.hok.fresh (Nat.le_refl _), rfl, fun l hl => by rw [I.tuple_inj hl hqx]; exact hx, fun l hl => by rw [I.list_inj hl hqy]; exact hy⟩, ⟨z'', ?_, ⟨u, u2, ?_⟩, ?_, ?_⟩, fun c hcm => ?_⟩
    · exact (sb.2 _ D.TIz).trans (hk _ _ D.TIz D.TITO D.TIi1 D.TIi2 hTI)
    · exact (sb.2 _ D.TOz).trans TO'
    · exact h1'.1.at fun o q => (sb.2 _ D.i1z).trans q
    · exact h2'.1.at fun o q => (sb.2 _ D.i2z).trans q
    · have hlt : c < s.heap.objs.size := by
        simp only [List.mem_cons, List.not_mem_nil, or_false] at hcm
        obtain ⟨_, e1, _⟩ := h1
        obtain ⟨_, e2, _⟩ := h2
        rcases hcm with rfl | rfl | rfl | rfl | rfl
        · exact hzl
        · exact Heap.lt_size hTI
        · exact Heap.lt_size hTO
        · exact Heap.lt_size e1
        · exact Heap.lt_size e2
      rw [upd_ne (Nat.ne_of_lt hlt)]
      exact (hf c hcm).1
  done := by
    intro X hP hw hK hc i pins s σ H E I hf st hg
    subst hP hw hK
    obtain ⟨hz, hTI, ⟨x0, y0, hTO⟩, h1, h2⟩ := st
    obtain ⟨xs, ys, hqx, hqy, l1, l2, hend⟩ := hg
    obtain ⟨its, rv, p, _⟩ := I.tuple hqx
    obtain ⟨its2, rv2, p2, _⟩ := I.list hqy
    have n1 : its.toArray.size = xs.length := by rw [List.size_toArray]; exact rv.length.symm
    have n2 : its2.toArray.size = ys.length := by rw [List.size_toArray]; exact rv2.length.symm
    have hh : X.A.handled = none := I.ok.hd hc
    exact wpAny_pyNext_zipD2_end (sepM D) (Draws.tuple (A := X.A.in1) hh i1 a D.l1i1 its.toArray) (Draws.list (A := X.A.in1) hh i2 b D.l2i2 its2.toArray) hz hTI hTO ⟨h1, p⟩ ⟨h2, p2.isList⟩ (by omega) (by omega) (by omega) fun h' tk hk =>
      ⟨rfl, I.turnedL (t' := tk) (ch := [z, TI, TO, i1, i2]) (fun c o hb q => by
        simp only [List.mem_cons, List.not_mem_nil, or_false, not_or] at hb
        exact hk c o hb.1 hb.2.2.1 hb.2.2.2.1 hb.2.2.2.2 q) hf⟩
  self := fun A i s Q E st h => wpAny_pyIter_zip st.1 h
def iZipM (K : PySem.W.Frag) (ta : TA) : TI := fun σ H R => ta σ H fun vs H1 => ∃ a b xs ys, vs = [.ref a, .ref b] ∧ SqT K H1 a xs ∧ SqL K H1 b ys ∧ R (ItzM K a b) H1
theorem pi_zipM {X : Cx} {e e2 : Expr} {ta : TA} {p pos tpos : Pos} {elts : List Expr} {kk : Nat} (hg : Gl X "zip") (hm : X.mg "zip" = none) (ha : PA X [e, e2] ta)
    (hs : starEach [e, e2] X.env = (false, eval e X.env) :: starEach [e2] X.env := by rfl) (hpl : (backTo pos (starEach [e2] X.env)).any (·.1) = false := by rfl) :
    PI X (.Tuple elts kk tpos) (.Call (.Name "zip" p) [e, e2] [] pos) (iZipM X.K ta) := by
  refine ⟨fun pins s σ H R I h => ?_⟩
  refine Call_ (ld_blt I hg hm PyProof.Rows.boot_zip (PyProof.Rows.callWith_type1 (thn (ha.run pos pins s σ H _ I h) fun us s1 ⟨vs, H1, I1, r1, q1⟩ => ?_) hs hpl))
  obtain ⟨a, b, xs, ys, ex, hqx, hqy, q⟩ := q1
  subst ex
  obtain ⟨u, u2, rfl, r, r2⟩ : ∃ u u2, us = [u, u2] ∧ RelV (.ref a) u ∧ RelV (.ref b) u2 := by
    cases r1 with
    | cons r rr => cases rr with
      | cons r' rr => cases rr; exact ⟨_, _, rfl, r, r'⟩
  obtain rfl : u = Value.ref a := r
  obtain rfl : u2 = Value.ref b := r2
  obtain ⟨its, rv, p1, _⟩ := I1.tuple hqx
  obtain ⟨its2, rv2, p2, _⟩ := I1.list hqy
  obtain ⟨o1, ho1, _⟩ := id p1
  refine zip_begins2 (begins_tuple a its.toArray) (begins_list b its2.toArray) p1 p2.isList fun h' hz hTI hTO h1 h2 hsz hk => wpAny_pyIter_zip hz ?_
  have I2 : Inv X pins σ H1 { s1 with heap := h' } := I1.kept (t' := s1.toks) hk
  refine ⟨s1.heap.objs.size + 4, [s1.heap.objs.size + 4, s1.heap.objs.size + 2, s1.heap.objs.size + 3, s1.heap.objs.size, s1.heap.objs.size + 1], _, _, H1, rfl, I2, turn_zipM (PySem.W.ktu_apart s1.heap.objs.size a b (Heap.lt_size ho1) p2.lt), ⟨hz, hTI, ⟨_, _, hTO⟩, ⟨_, h1, rfl, rfl⟩, ⟨_, h2, rfl, rfl⟩⟩, fun c hcm => ?_, q⟩
  have hle : s1.heap.objs.size ≤ c := by
    simp only [List.mem_cons, List.not_mem_nil, or_false] at hcm
    rcases hcm with rfl | rfl | rfl | rfl | rfl
    · exact Nat.le_add_right _ _
    · exact Nat.le_add_right _ _
    · exact Nat.le_add_right _ _
    · exact Nat.le_refl _
    · exact Nat.le_add_right _ _
  exact I1.fpOk hle (I1.hok.fresh hle)
end
/-! ### a rule: list(zip(a, b)) of any two iterators: the pairs are kept -/
section
open PySem.Spec PyProof.Rows
section
variable {prog : Program} {w : World} {A : Around} {E : Value → Shared → Prop} {s : Shared} {z TI TO i1 i2 T : Addr} {fp1 fp2 : List Addr} {n1 n2 i : Nat} {P1 P2 : Nat → Value → Prop} {St1 St2 : Nat → Heap → Prop} {f : Bool} {oT : Obj}
theorem heldD_item {Q : Value → Shared → Prop} (S : ZipSep2 z TI TO i1 i2 fp1 fp2) (D1 : Draws prog w A i1 fp1 n1 P1 St1) (D2 : Draws prog w A i2 fp2 n2 P2 St2)
    (hz : IsZipHeld s.heap z TI TO T f) (hT : s.heap.get? T = some oT) (hTI : IsTupOf2 s.heap TI (.ref i1) (.ref i2)) (st1 : St1 i s.heap) (st2 : St2 i s.heap) (hlt1 : i < n1) (hlt2 : i < n2)
    (hQ : ∀ x1 x2 h' tk, P1 i x1 → P2 i x2 → IsZipHeld h' z TI TO T true → St1 (i + 1) h' → St2 (i + 1) h' → IsTupOf2 h' s.heap.objs.size x1 x2 →
      (∀ c o, c ≠ z → c ≠ i1 → c ≠ i2 → s.heap.get? c = some o → h'.get? c = some o) → Q (.ref s.heap.objs.size) { s with heap := h', toks := tk }) :
    wpAny (model prog w) A (Builtin.«zip.__next__» ⟨[.ref z], []⟩) (fun fin s' => ∃ v, fin = .done (.ret v) ∧ Q v s') E s := by
  obtain ⟨hp, g, d, tk0, os⟩ := s
  show wpAny _ _ (field (.ref z) 2 >>= _) _ _ _
  refine wpAny_bind (wpAny_field hz rfl (x := .bool false) rfl ?_)
  show wpAny _ _ (field (.ref z) 3 >>= _) _ _ _
  refine wpAny_bind (wpAny_field hz rfl (x := .ref TI) rfl ?_)
  refine wpAny_bind (wpAny_seqItems hTI rfl ?_)
  show wpAny _ _ (Builtin.SmallTypes.ownedTupleIsFree (.ref z) >>= _) _ _ _
  refine wpAny_bind (wpAny_tupleHeld_zip hz hT fun g0 hz0 hs0 => ?_)
  replace hs0 : Heap.SameBut z hp g0 := hs0
  simp only [Bool.false_eq_true, if_false]
  refine wpAny_bind ?_
  rw [← Array.forIn_toList]
  simp only [List.forIn_cons, List.forIn_nil]
  refine wpAny_bind (wpAny_bind (wpAny_holding ?_))
  show wpAny _ _ (Builtin.SmallTypes.nextOf (.ref i1) >>= _) _ _ ⟨g0, g, d, tk0, os⟩
  refine wpAny_bind (D1.item i _ _ _ hlt1 (D1.over st1 hs0 S.zf1) fun x1 p1 tk1 hx1 sn1 hp1 => wpAny_pure ?_)
  replace hp1 : Heap.SameBut i1 g0 p1 := hp1
  refine wpAny_pure ?_
  refine wpAny_bind (wpAny_bind (wpAny_holding ?_))
  show wpAny _ _ (Builtin.SmallTypes.nextOf (.ref i2) >>= _) _ _ ⟨p1, g, d, tk1, os⟩
  refine wpAny_bind (D2.item i _ _ _ hlt2 (D2.over (D2.over st2 hs0 S.zf2) hp1 S.sep1_2) fun x2 p2 tk2 hx2 sn2 hp2 => wpAny_pure ?_)
  replace hp2 : Heap.SameBut i2 p1 p2 := hp2
  refine wpAny_pure (wpAny_pure ?_)
  show wpAny _ _ (newTuple [x1, x2] >>= _) _ _ _
  refine wpAny_bind (wpAny_newTuple ?_)
  have hsz : p2.objs.size = hp.objs.size := by rw [hp2.1, hp1.1, hs0.1]
  have hz2 : IsZipHeld p2 z TI TO T true := hp2.extBut _ _ S.zi2 (hp1.extBut _ _ S.zi1 hz0)
  have hk : ∀ c o, c ≠ z → c ≠ i1 → c ≠ i2 → hp.get? c = some o → p2.get? c = some o := fun c o c0 c1 c2 e => hp2.extBut _ _ c2 (hp1.extBut _ _ c1 (hs0.extBut _ _ c0 e))
  have hj1 : St1 (i + 1) p2 := D1.over sn1 hp2 S.sep2_1
  have up : ∀ c o, p2.get? c = some o → (p2.push { cls := .type "tuple", data := .seq #[x1, x2] }).get? c = some o := fun c o e => Heap.get?_push_of_some _ e
  have hN : IsTupOf2 (p2.push { cls := .type "tuple", data := .seq #[x1, x2] }) p2.objs.size x1 x2 := Heap.get?_push_size _ rfl
  refine wpAny_pure ⟨_, rfl, ?_⟩
  show Q (.ref p2.objs.size) _
  rw [hsz] at hN ⊢
  exact hQ x1 x2 _ tk2 hx1 hx2 (up _ _ hz2) (D1.frame _ _ _ hj1 fun b _ o e => up b o e) (D2.frame _ _ _ sn2 fun b _ o e => up b o e) hN fun c o c0 c1 c2 e => up c o (hk c o c0 c1 c2 e)
theorem heldD_end {Q : Fin → Shared → Prop} (S : ZipSep2 z TI TO i1 i2 fp1 fp2) (D1 : Draws prog w A i1 fp1 n1 P1 St1) (D2 : Draws prog w A i2 fp2 n2 P2 St2)
    (hz : IsZipHeld s.heap z TI TO T f) (hT : s.heap.get? T = some oT) (hTI : IsTupOf2 s.heap TI (.ref i1) (.ref i2)) (st1 : St1 i s.heap) (st2 : St2 i s.heap) (hi : i = n1)
    (hE : ∀ h' e, (∀ c o, c ≠ z → c ≠ i1 → s.heap.get? c = some o → h'.get? c = some o) → (∃ o, h'.get? e = some o ∧ o.cls = .type "StopIteration") → E (.ref e) { s with heap := h' }) :
    wpAny (model prog w) A (Builtin.«zip.__next__» ⟨[.ref z], []⟩) Q E s := by
  subst hi
  show wpAny _ _ (field (.ref z) 2 >>= _) _ _ _
  refine wpAny_bind (wpAny_field hz rfl (x := .bool false) rfl ?_)
  show wpAny _ _ (field (.ref z) 3 >>= _) _ _ _
  refine wpAny_bind (wpAny_field hz rfl (x := .ref TI) rfl ?_)
  refine wpAny_bind (wpAny_seqItems hTI rfl ?_)
  show wpAny _ _ (Builtin.SmallTypes.ownedTupleIsFree (.ref z) >>= _) _ _ _
  refine wpAny_bind (wpAny_tupleHeld_zip hz hT fun g0 hz0 hs0 => ?_)
  simp only [Bool.false_eq_true, if_false]
  refine wpAny_bind ?_
  rw [← Array.forIn_toList]
  simp only [List.forIn_cons, List.forIn_nil]
  refine wpAny_bind (wpAny_bind (wpAny_holding ?_))
  show wpAny _ _ (Builtin.SmallTypes.nextOf (.ref i1) >>= _) _ _ _
  refine wpAny_bind (D1.done _ _ _ (D1.over st1 hs0 S.zf1) fun h2 e hs2 he => ?_)
  exact hE h2 e (fun c o c0 c1 x => hs2 _ _ c1 (hs0.extBut _ _ c0 x)) he
theorem heldD_next {Q : Option Value → Shared → Prop} (S : ZipSep2 z TI TO i1 i2 fp1 fp2) (D1 : Draws prog w A.in1 i1 fp1 n1 P1 St1) (D2 : Draws prog w A.in1 i2 fp2 n2 P2 St2)
    (hz : IsZipHeld s.heap z TI TO T f) (hT : s.heap.get? T = some oT) (hTI : IsTupOf2 s.heap TI (.ref i1) (.ref i2)) (st1 : St1 i s.heap) (st2 : St2 i s.heap) (hlt1 : i < n1) (hlt2 : i < n2)
    (hQ : ∀ x1 x2 h' tk, P1 i x1 → P2 i x2 → IsZipHeld h' z TI TO T true → St1 (i + 1) h' → St2 (i + 1) h' → IsTupOf2 h' s.heap.objs.size x1 x2 →
      (∀ c o, c ≠ z → c ≠ i1 → c ≠ i2 → s.heap.get? c = some o → h'.get? c = some o) → Q (some (.ref s.heap.objs.size)) { s with heap := h', toks := tk }) :
    wpAny (model prog w) A (pyNext (.ref z)) Q E s := by
  have hTy : s.TypeIs (.ref z) "zip" := ⟨_, hz, rfl⟩
  unfold pyNext
  exact wpAny_bind (wpAny_attempt (wpAny_callSpecial?_slot (name := Str.ofString "__next__") hTy F.slot_zip_next
    (wpAny_call_entry F.slot_zip_next hTy F.entry_zip_next
      (heldD_item S D1 D2 hz hT hTI st1 st2 hlt1 hlt2 fun x1 x2 h' tk a1 a2 a3 a4 a5 a6 a7 => wpAny_pure (hQ x1 x2 h' tk a1 a2 a3 a4 a5 a6 a7)) (F.args_zip_next_1 _))))
theorem heldD_stop {Q : Option Value → Shared → Prop} (S : ZipSep2 z TI TO i1 i2 fp1 fp2) (D1 : Draws prog w A.in1 i1 fp1 n1 P1 St1) (D2 : Draws prog w A.in1 i2 fp2 n2 P2 St2)
    (hz : IsZipHeld s.heap z TI TO T f) (hT : s.heap.get? T = some oT) (hTI : IsTupOf2 s.heap TI (.ref i1) (.ref i2)) (st1 : St1 i s.heap) (st2 : St2 i s.heap) (hi : i = n1)
    (hQ : ∀ h', (∀ c o, c ≠ z → c ≠ i1 → s.heap.get? c = some o → h'.get? c = some o) → Q none { s with heap := h' }) :
    wpAny (model prog w) A (pyNext (.ref z)) Q E s := by
  have hTy : s.TypeIs (.ref z) "zip" := ⟨_, hz, rfl⟩
  unfold pyNext
  refine wpAny_bind (wpAny_attempt (wpAny_callSpecial?_slot (name := Str.ofString "__next__") hTy F.slot_zip_next
    (wpAny_call_entry F.slot_zip_next hTy F.entry_zip_next (heldD_end S D1 D2 hz hT hTI st1 st2 hi fun h' e hk he => ?_) (F.args_zip_next_1 _))))
  obtain ⟨o, ho, hc⟩ := he
  refine wpAny_bind (wpAny_isInstance (T := "StopIteration") (b := true) ⟨o, ho, hc⟩ isSubtype_stop ?_)
  exact wpAny_pure (hQ _ hk)
end
section
variable {X : Cx} {pins : List (Addr × Obj)} {σ : L2.St} {z TI TO i1 i2 a b S : Addr} {xs ys : List V} {H0 : Hp}
structure LpE (X : Cx) (pins : List (Addr × Obj)) (σ : L2.St) (S : Addr) (xs ys : List V) (H0 : Hp) (i : Nat) (Ts : List Addr) (H : Hp) (s : Shared) (c : Nat) : Prop where
  inv : Inv X pins σ H s
  same : Same H0 H
  len : Ts.length = i
  tup : ∀ (j : Nat) (t : Addr), Ts[j]? = some t → ∃ x y, xs[j]? = some x ∧ ys[j]? = some y ∧ H t = some (.tup [x, y]) ∧ H0 t = none
  lst : s.heap.get? S = some { cls := .type "list", dict := none, data := .seq (Ts.map Value.ref).toArray c, slots := #[] }
  fpS : FpOk X pins H S
structure LpI (X : Cx) (pins : List (Addr × Obj)) (σ : L2.St) (z TI TO i1 i2 a b S : Addr) (xs ys : List V) (H0 : Hp) (i : Nat) (Ts : List Addr) (H : Hp) (s : Shared) (c : Nat) : Prop where
  e : LpE X pins σ S xs ys H0 i Ts H s c
  fp : ∀ c ∈ [z, TI, TO, i1, i2], FpOk X pins H c
  lt : ∀ c ∈ [z, TI, TO, i1, i2], c < s.heap.objs.size
  tie : IsTupOf2 s.heap TI (.ref i1) (.ref i2)
  it1 : s.heap.IsTupleIter i1 a i
  it2 : s.heap.IsListIter i2 b i
  zs : (IsZip s.heap z TI TO .none ∧ ∃ u v, IsTupOf2 s.heap TO u v) ∨ ∃ T f x y, IsZipHeld s.heap z TI TO T f ∧ H T = some (.tup [x, y])
theorem fpOk_upd {H : Hp} {T c : Addr} {o : HO} (h : FpOk X pins H c) (n : c ≠ T) : FpOk X pins (upd H T o) c := ⟨by rw [upd_ne n]; exact h.1, h.2⟩
theorem lp_push {H : Hp} {Ts : List Addr} {s : Shared} {c i tk : Nat} {x y : V} {u u2 : Value} {h' : Heap} {T : Addr} {f : Bool} (D : ZipApart z TI TO i1 i2 a b) (hS : S ∉ [z, TI, TO, i1, i2]) (L : LpI X pins σ z TI TO i1 i2 a b S xs ys H0 i Ts H s c)
    (hx : xs[i]? = some x) (hy : ys[i]? = some y) (ru : RelV x u) (ru2 : RelV y u2)
    (z' : IsZipHeld h' z TI TO T f) (hTT : ∃ x1 y1, upd H s.heap.objs.size (.tup [x, y]) T = some (.tup [x1, y1])) (j1 : h'.IsTupleIter i1 a (i + 1)) (j2 : h'.IsListIter i2 b (i + 1)) (hT : IsTupOf2 h' s.heap.objs.size u u2)
    (hk : ∀ c o, c ≠ z → c ≠ TO → c ≠ i1 → c ≠ i2 → s.heap.get? c = some o → h'.get? c = some o) :
    ∃ c', LpI X pins σ z TI TO i1 i2 a b S xs ys H0 (i + 1) (Ts ++ [s.heap.objs.size]) (upd H s.heap.objs.size (.tup [x, y])) { s with heap := h'.update S (Obj.mapSeq (·.push (.ref s.heap.objs.size))), toks := tk } c' := by
  simp only [List.mem_cons, List.not_mem_nil, or_false, not_or] at hS
  obtain ⟨sz, sTI, sTO, s1, s2⟩ := hS
  have fr : H s.heap.objs.size = none := L.e.inv.hok.fresh (Nat.le_refl _)
  have hS' := hk S _ sz sTO s1 s2 L.e.lst
  have e2 := Heap.get?_update_self (Obj.mapSeq (·.push (Value.ref s.heap.objs.size))) hS' rfl
  have oth : ∀ c o, c ≠ S → h'.get? c = some o → (h'.update S (Obj.mapSeq (·.push (Value.ref s.heap.objs.size)))).get? c = some o := fun c o n e => (Heap.get?_update_other _ _ (Ne.symm n)).trans e
  have nS : S ≠ s.heap.objs.size := Nat.ne_of_lt (Heap.lt_size L.e.lst)
  have nt : ∀ c u, H c = some u → c ≠ s.heap.objs.size := fun c u e n => by rw [n, fr] at e; cases e
  have hsz : s.heap.objs.size < (h'.update S (Obj.mapSeq (·.push (Value.ref s.heap.objs.size)))).objs.size := Heap.lt_size (oth _ _ nS.symm hT)
  have new : ObjOk X.prog X.w (upd H s.heap.objs.size (.tup [x, y])) (h'.update S (Obj.mapSeq (·.push (Value.ref s.heap.objs.size)))) s.heap.objs.size (.tup [x, y]) :=
    ⟨by show 2 ≤ sizeLine; decide, [u, u2], .cons ru (.cons ru2 .nil), ⟨_, oth _ _ nS.symm hT, rfl, _, rfl⟩⟩
  have I1 : Inv X pins σ (upd H s.heap.objs.size (.tup [x, y])) { s with heap := h'.update S (Obj.mapSeq (·.push (Value.ref s.heap.objs.size))), toks := tk } :=
    L.e.inv.turnedNew (t' := tk) (ch := [S, z, TI, TO, i1, i2]) (fun c o hb q => by
      simp only [List.mem_cons, List.not_mem_nil, or_false, not_or] at hb
      exact oth c o hb.1 (hk c o hb.2.1 hb.2.2.2.1 hb.2.2.2.2.1 hb.2.2.2.2.2 q)) (fun c hc => by
      rcases List.mem_cons.mp hc with rfl | hc
      · exact L.e.fpS
      · exact L.fp c hc) (Nat.le_refl _) new
  have ea : (List.map Value.ref (Ts ++ [s.heap.objs.size])).toArray = (List.map Value.ref Ts).toArray.push (.ref s.heap.objs.size) := by simp
  obtain ⟨c', e3⟩ : ∃ c', (h'.update S (Obj.mapSeq (·.push (Value.ref s.heap.objs.size)))).get? S = some { cls := .type "list", dict := none, data := .seq (List.map Value.ref (Ts ++ [s.heap.objs.size])).toArray c', slots := #[] } := ⟨_, by rw [ea]; exact e2⟩
  refine ⟨c', ⟨I1, fun c u e => ?_, ?_, fun j t hj => ?_, e3, fpOk_upd L.e.fpS nS⟩, fun c hc => fpOk_upd (L.fp c hc) (Nat.ne_of_lt (L.lt c hc)), fun c hc => Nat.lt_trans (L.lt c hc) hsz, oth _ _ (Ne.symm sTI) (hk _ _ D.TIz D.TITO D.TIi1 D.TIi2 L.tie), j1.at fun o e => oth _ o (Ne.symm s1) e, j2.at fun o e => oth _ o (Ne.symm s2) e, .inr ?_⟩
  · rw [upd_ne (nt _ _ (L.e.same c u e))]; exact L.e.same c u e
  · rw [List.length_append, L.e.len]; rfl
  · by_cases hlt : j < Ts.length
    · rw [List.getElem?_append_left hlt] at hj
      obtain ⟨x1, y1, e1, e2, e3, e4⟩ := L.e.tup j t hj
      exact ⟨x1, y1, e1, e2, by rw [upd_ne (nt _ _ e3)]; exact e3, e4⟩
    · rw [List.getElem?_append_right (by omega)] at hj
      have hj0 : j - Ts.length = 0 := by
        cases hd : j - Ts.length with
        | zero => rfl
        | succ m => rw [hd] at hj; cases hj
      rw [hj0] at hj
      injection hj with hj
      have hji : j = i := by have := L.e.len; omega
      rw [← hj, hji]
      refine ⟨x, y, hx, hy, upd_same, ?_⟩
      cases q : H0 s.heap.objs.size with
      | none => rfl
      | some o => have := L.e.same _ _ q; rw [fr] at this; cases this
  · obtain ⟨x1, y1, e⟩ := hTT
    exact ⟨T, f, x1, y1, oth _ _ (Ne.symm sz) z', e⟩
theorem lp_end {H : Hp} {Ts : List Addr} {s : Shared} {c i tk : Nat} {h' : Heap} (hS : S ∉ [z, TI, TO, i1, i2]) (L : LpI X pins σ z TI TO i1 i2 a b S xs ys H0 i Ts H s c)
    (hk : ∀ c o, c ≠ z → c ≠ TO → c ≠ i1 → c ≠ i2 → s.heap.get? c = some o → h'.get? c = some o) : LpE X pins σ S xs ys H0 i Ts H { s with heap := h', toks := tk } c := by
  simp only [List.mem_cons, List.not_mem_nil, or_false, not_or] at hS
  obtain ⟨sz, sTI, sTO, s1, s2⟩ := hS
  refine ⟨L.e.inv.turnedL (t' := tk) (ch := [z, TI, TO, i1, i2]) (fun c o hb q => ?_) L.fp, L.e.same, L.e.len, L.e.tup, hk S _ sz sTO s1 s2 L.e.lst, L.e.fpS⟩
  simp only [List.mem_cons, List.not_mem_nil, or_false, not_or] at hb
  exact hk c o hb.1 hb.2.2.1 hb.2.2.2.1 hb.2.2.2.2 q
theorem lp_loop {A : Around} {R : Result → Shared → Prop} (hh : A.handled = none) (D : ZipApart z TI TO i1 i2 a b) (hS : S ∉ [z, TI, TO, i1, i2]) (qx : SqT X.K H0 a xs) (qy : SqL X.K H0 b ys) (hl : xs.length = ys.length) (hz : xs.length ≤ 1000000) (res : Value) :
    ∀ (k i : Nat) (s : Shared) (H : Hp) (Ts : List Addr) (c : Nat), xs.length - i = k → i ≤ xs.length → LpI X pins σ z TI TO i1 i2 a b S xs ys H0 i Ts H s c →
    (∀ s' H' Ts' c', LpE X pins σ S xs ys H0 xs.length Ts' H' s' c' → R (.ok (.ret res)) s') →
    codeAny (model X.prog X.w) A (.builtin "list.extend.loop" ⟨[.ref S, .ref z, res], []⟩) R s := by
  intro k
  induction k with
  | zero =>
    intro i s H Ts c hk hi L hR
    have hin : i = xs.length := by omega
    subst hin
    obtain ⟨its, rv, p, _⟩ := L.e.inv.tuple (L.e.same.sqt qx)
    obtain ⟨its2, rv2, p2, _⟩ := L.e.inv.list (L.e.same.seq qy)
    have n1 : its.toArray.size = xs.length := by rw [List.size_toArray]; exact rv.length.symm
    have n2 : its2.toArray.size = ys.length := by rw [List.size_toArray]; exact rv2.length.symm
    refine codeAny_builtin F.entry_extend_loop ?_
    rw [Around.under_plainId F.plain_extend_loop _]
    show wpAny _ A.in1 (pyNext (.ref z) >>= _) _ _ s
    rcases L.zs with ⟨hz0, u, v, hTO⟩ | ⟨T, f, x0, y0, hz0, hT0⟩
    · exact wpAny_bind (wpAny_pyNext_zipD2_end (sepM D) (Draws.tuple (A := A.in1.in1) hh i1 a D.l1i1 its.toArray) (Draws.list (A := A.in1.in1) hh i2 b D.l2i2 its2.toArray) hz0 L.tie hTO ⟨L.it1, p⟩ ⟨L.it2, p2.isList⟩ (by omega) (by omega) (by omega) fun h' tk hk =>
        wpAny_pure (hR _ _ _ _ (lp_end hS L hk)))
    · obtain ⟨_, _, ⟨oT, hoT, _⟩, _⟩ := L.e.inv.tuple (SqT.of hT0)
      exact wpAny_bind (heldD_stop (sepM D) (Draws.tuple (A := A.in1.in1) hh i1 a D.l1i1 its.toArray) (Draws.list (A := A.in1.in1) hh i2 b D.l2i2 its2.toArray) hz0 hoT L.tie ⟨L.it1, p⟩ ⟨L.it2, p2.isList⟩ n1.symm fun h' hk =>
        wpAny_pure (hR _ _ _ _ (lp_end (tk := s.toks) hS L fun c o h0 _ h1 _ e => hk c o h0 h1 e)))
  | succ k ih =>
    intro i s H Ts c hk hi L hR
    have hlt : i < xs.length := by omega
    have hlt2 : i < ys.length := by omega
    obtain ⟨its, rv, p, _⟩ := L.e.inv.tuple (L.e.same.sqt qx)
    obtain ⟨its2, rv2, p2, _⟩ := L.e.inv.list (L.e.same.seq qy)
    have hx : xs[i]? = some xs[i] := List.getElem?_eq_getElem hlt
    have hy : ys[i]? = some ys[i] := List.getElem?_eq_getElem hlt2
    obtain ⟨u, hu, ru⟩ := rv.get hx
    obtain ⟨u2, hu2, ru2⟩ := rv2.get hy
    have g1 : its.toArray[i]? = some u := by simpa using hu
    have g2 : its2.toArray[i]? = some u2 := by simpa using hu2
    have hS2 := hS
    simp only [List.mem_cons, List.not_mem_nil, or_false, not_or] at hS2
    have hts := L.e.len
    refine codeAny_builtin F.entry_extend_loop ?_
    rw [Around.under_plainId F.plain_extend_loop _]
    show wpAny _ A.in1 (pyNext (.ref z) >>= _) _ _ s
    rcases L.zs with ⟨hz0, u0, v0, hTO⟩ | ⟨T, f, x0, y0, hz0, hT0⟩
    · refine wpAny_bind (wpAny_pyNext_zipD2_item (sepM D) (Draws.tuple (A := A.in1.in1) hh i1 a D.l1i1 its.toArray) (Draws.list (A := A.in1.in1) hh i2 b D.l2i2 its2.toArray) hz0 L.tie hTO ⟨L.it1, p⟩ ⟨L.it2, p2.isList⟩
        (Array.getElem?_eq_some_iff.mp g1).1 (Array.getElem?_eq_some_iff.mp g2).1 fun x1 x2 h' tk e1 e2 z' TO' h1' h2' hT hsz hk => ?_)
      obtain rfl : u = x1 := Option.some.inj (g1.symm.trans e1)
      obtain rfl : u2 = x2 := Option.some.inj (g2.symm.trans e2)
      obtain ⟨c', L2⟩ := lp_push (tk := tk) (f := false) D hS L hx hy ru ru2 z' ⟨_, _, upd_same⟩ h1'.1 h2'.1 hT hk
      have hS' := hk S _ hS2.1 hS2.2.2.1 hS2.2.2.2.1 hS2.2.2.2.2 L.e.lst
      show wpAny _ A.in1 (updateSeq S (·.push (.ref s.heap.objs.size)) >>= _) _ _ _
      refine wpAny_bind ?_
      refine wpAny_updateSeq (s := { s with heap := h', toks := tk }) hS' rfl (wpAny_pure ⟨plainId_quiet F.plain_extend_loop _, ih (i + 1) _ _ _ _ (by omega) hlt L2 hR⟩) ?_ ?_
      · simp only [List.size_toArray, List.length_map]; rw [sizeLine_eq]; omega
      · simp only [Array.size_push, List.size_toArray, List.length_map]; rw [sizeLine_eq]; omega
    · obtain ⟨_, _, ⟨oT, hoT, _⟩, _⟩ := L.e.inv.tuple (SqT.of hT0)
      refine wpAny_bind (heldD_next (sepM D) (Draws.tuple (A := A.in1.in1) hh i1 a D.l1i1 its.toArray) (Draws.list (A := A.in1.in1) hh i2 b D.l2i2 its2.toArray) hz0 hoT L.tie ⟨L.it1, p⟩ ⟨L.it2, p2.isList⟩
        (Array.getElem?_eq_some_iff.mp g1).1 (Array.getElem?_eq_some_iff.mp g2).1 fun x1 x2 h' tk e1 e2 z' h1' h2' hT hk => ?_)
      obtain rfl : u = x1 := Option.some.inj (g1.symm.trans e1)
      obtain rfl : u2 = x2 := Option.some.inj (g2.symm.trans e2)
      have nT : T ≠ s.heap.objs.size := fun n => by rw [n, L.e.inv.hok.fresh (Nat.le_refl _)] at hT0; cases hT0
      obtain ⟨c', L2⟩ := lp_push (tk := tk) (f := true) D hS L hx hy ru ru2 z' ⟨x0, y0, by rw [upd_ne nT]; exact hT0⟩ h1'.1 h2'.1 hT (fun c o h0 _ h1 h2 e => hk c o h0 h1 h2 e)
      have hS' := hk S _ hS2.1 hS2.2.2.2.1 hS2.2.2.2.2 L.e.lst
      show wpAny _ A.in1 (updateSeq S (·.push (.ref s.heap.objs.size)) >>= _) _ _ _
      refine wpAny_bind ?_
      refine wpAny_updateSeq (s := { s with heap := h', toks := tk }) hS' rfl (wpAny_pure ⟨plainId_quiet F.plain_extend_loop _, ih (i + 1) _ _ _ _ (by omega) hlt L2 hR⟩) ?_ ?_
      · simp only [List.size_toArray, List.length_map]; rw [sizeLine_eq]; omega
      · simp only [Array.size_push, List.size_toArray, List.length_map]; rw [sizeLine_eq]; omega
theorem lp_touch {H : Hp} {Ts : List Addr} {s : Shared} {c c' i tk : Nat} {h' : Heap} (hS : S ∉ [z, TI, TO, i1, i2]) (L : LpI X pins σ z TI TO i1 i2 a b S xs ys H0 i Ts H s c)
    (hsz : s.heap.objs.size ≤ h'.objs.size) (hk : ∀ c o, c ≠ S → s.heap.get? c = some o → h'.get? c = some o) (e : h'.get? S = some { cls := .type "list", dict := none, data := .seq (Ts.map Value.ref).toArray c', slots := #[] }) :
    LpI X pins σ z TI TO i1 i2 a b S xs ys H0 i Ts H { s with heap := h', toks := tk } c' := by
  simp only [List.mem_cons, List.not_mem_nil, or_false, not_or] at hS
  obtain ⟨sz, sTI, sTO, s1, s2⟩ := hS
  refine ⟨⟨L.e.inv.turnedL (t' := tk) (ch := [S]) (fun c o hb q => hk c o (fun n => hb (by simp [n])) q) (fun c hc => by rw [List.mem_singleton.mp hc]; exact L.e.fpS), L.e.same, L.e.len, L.e.tup, e, L.e.fpS⟩, L.fp, fun c hc => Nat.lt_of_lt_of_le (L.lt c hc) hsz,
    hk _ _ (Ne.symm sTI) L.tie, L.it1.at fun o q => hk _ o (Ne.symm s1) q, L.it2.at fun o q => hk _ o (Ne.symm s2) q, ?_⟩
  rcases L.zs with ⟨hz, u, v, hTO⟩ | ⟨T, f, x, y, hz, hT⟩
  · exact .inl ⟨hk _ _ (Ne.symm sz) hz, u, v, hk _ _ (Ne.symm sTO) hTO⟩
  · exact .inr ⟨T, f, x, y, hk _ _ (Ne.symm sz) hz, hT⟩
theorem lp_take {H : Hp} {Ts : List Addr} {s : Shared} {c i : Nat} (L : LpE X pins σ S xs ys H0 i Ts H s c) (hi : i ≤ 1000000) : Inv X pins σ (upd H S (.lst (Ts.map V.ref))) s := by
  have vr : ∀ l : List Addr, Vals (l.map V.ref) (l.map Value.ref) := fun l => by
    induction l with
    | nil => exact .nil
    | cons t r ih => exact .cons rfl ih
  refine L.inv.take (t' := s.toks) (h' := s.heap) (fun _ _ _ e => e) L.fpS ⟨?_, Ts.map Value.ref, c, vr Ts, L.lst⟩
  rw [List.length_map, L.len, sizeLine_eq]; omega
theorem zip_no_len : typeLookup (.type "zip") "__len__" = pure none := am_miss_of_fast (by decide +kernel)
theorem zip_no_hint : typeLookup (.type "zip") "__length_hint__" = pure none := am_miss_of_fast (by decide +kernel)
theorem lp_extend {A : Around} {R : Result → Shared → Prop} (hh : A.handled = none) (D : ZipApart z TI TO i1 i2 a b) (hS : S ∉ [z, TI, TO, i1, i2]) (qx : SqT X.K H0 a xs) (qy : SqL X.K H0 b ys) (hl : xs.length = ys.length) (hz : xs.length ≤ 1000000) (res : Value)
    {s : Shared} {H : Hp} {c : Nat} (L : LpI X pins σ z TI TO i1 i2 a b S xs ys H0 0 [] H s c) (hz0 : IsZip s.heap z TI TO .none)
    (hR : ∀ s' H' Ts' c', LpE X pins σ S xs ys H0 xs.length Ts' H' s' c' → R (.ok (.ret res)) s') :
    wpAny (model X.prog X.w) A.in1 (Builtin.List.listExtendWith (.ref S) (.ref z) res)
      (fun fin s' => match fin with | .done f => R (.ok f) s' | .again c' => c'.quiet = true ∧ codeAny (model X.prog X.w) A c' R s') (fun e s' => R (.error e) s') s := by
  have hTy : s.TypeIs (.ref z) "zip" := ⟨_, hz0, rfl⟩
  have hS2 := hS
  simp only [List.mem_cons, List.not_mem_nil, or_false, not_or] at hS2
  have hL := L.e.lst
  unfold Builtin.List.listExtendWith
  refine wpAny_bind (wpAny_typeOf hTy ?_)
  have h1 : Builtin.List.listSameRef (.ref S) (.ref z) = false := by simp [Builtin.List.listSameRef, hS2.1]
  have h2 : (Value.type "zip" == Value.type "list") = false := by decide
  have h3 : (Value.type "zip" == Value.type "tuple") = false := by decide
  simp only [h1, h2, h3, Bool.or_false, Bool.false_eq_true, if_false]
  refine wpAny_bind (wpAny_pyIter_zip hz0 ?_)
  refine wpAny_bind (wpAny_holding ?_)
  unfold Builtin.List.listLengthHint
  refine wpAny_bind (wpAny_specialOf hTy zip_no_len ?_)
  show wpAny _ A.in1 (specialOf (Value.ref z) (Str.ofString "__length_hint__") >>= _) _ _ _
  refine wpAny_bind (wpAny_specialOf hTy zip_no_hint ?_)
  refine wpAny_pure ?_
  show wpAny _ A.in1 (rule "list.extend.makes-room" >>= fun _ => Builtin.List.listTouch (.ref S) >>= fun _ =>
    again (.builtin "list.extend.loop" ⟨[.ref S, .ref z, res], []⟩)) _ _ _
  refine wpAny_bind (wpAny_rule ?_)
  refine wpAny_bind ?_
  show wpAny _ A.in1 (updateSeq S (·.push .none) >>= fun _ => updateSeq S (·.pop)) _ _ _
  refine wpAny_bind (wpAny_updateSeq hL rfl ?_)
  have e2 := Heap.get?_update_self (Obj.mapSeq (·.push Value.none)) hL rfl
  refine wpAny_updateSeq (hz := by seq_fits) e2 rfl ?_
  have e3 := Heap.get?_update_self (Obj.mapSeq (·.pop)) e2 rfl
  have oth : ∀ b o, b ≠ S → s.heap.get? b = some o → ((s.heap.update S (Obj.mapSeq (·.push Value.none))).update S (Obj.mapSeq (·.pop))).get? b = some o :=
    fun b o hb e => (Heap.get?_update_other _ _ (Ne.symm hb)).trans ((Heap.get?_update_other _ _ (Ne.symm hb)).trans e)
  have L3 := lp_touch (s := s) (tk := s.toks) (h' := (s.heap.update S (Obj.mapSeq (·.push Value.none))).update S (Obj.mapSeq (·.pop))) hS L (by rw [(Heap.SameBut.update ..).1, (Heap.SameBut.update ..).1]; exact Nat.le_refl _) oth e3
  exact wpAny_pure ⟨plainId_quiet F.plain_extend_loop _, lp_loop hh D hS qx qy hl hz res xs.length 0 _ H [] _ (by omega) (Nat.zero_le _) L3 hR⟩
theorem lp_init {A : Around} {R : Result → Shared → Prop} (hh : A.handled = none) (D : ZipApart z TI TO i1 i2 a b) {s : Shared} (qx : SqT X.K H0 a xs) (qy : SqL X.K H0 b ys) (hl : xs.length = ys.length) (hz : xs.length ≤ 1000000)
    (I : Inv X pins σ H0 s) (fp : ∀ c ∈ [z, TI, TO, i1, i2], FpOk X pins H0 c) (lt : ∀ c ∈ [z, TI, TO, i1, i2], c < s.heap.objs.size) (tie : IsTupOf2 s.heap TI (.ref i1) (.ref i2)) (it1 : s.heap.IsTupleIter i1 a 0) (it2 : s.heap.IsListIter i2 b 0)
    (hz0 : IsZip s.heap z TI TO .none) {u v : Value} (hTO : IsTupOf2 s.heap TO u v)
    (hR : ∀ s' H' Ts' c', LpE X pins σ s.heap.objs.size xs ys H0 xs.length Ts' H' s' c' → R (.ok (.ret .none)) s') :
    wpAny (model X.prog X.w) A.in1 (Builtin.«list.__init__» ⟨[.ref s.heap.objs.size, .ref z], []⟩)
      (fun fin s' => match fin with | .done f => R (.ok f) s' | .again c' => c'.quiet = true ∧ codeAny (model X.prog X.w) A c' R s') (fun e s' => R (.error e) s') { s with heap := s.heap.push { cls := .type "list", data := .seq #[] } } := by
  have e0 : (s.heap.push { cls := .type "list", data := .seq #[] }).get? s.heap.objs.size = some { cls := .type "list", data := .seq #[] } := Heap.get?_push_size _ rfl
  show wpAny _ _ (do let old ← Builtin.List.listItems (.ref s.heap.objs.size); Builtin.List.listUpdate (.ref s.heap.objs.size) (fun _ => #[]); letGo old.toList.reverse; Builtin.List.listExtendWith (.ref s.heap.objs.size) (.ref z) .none) _ _ _
  refine wpAny_bind ?_
  unfold Builtin.List.listItems
  refine wpAny_bind (wpAny_seqItems e0 rfl (wpAny_pure ?_))
  show wpAny _ _ (updateSeq s.heap.objs.size (fun _ => #[]) >>= fun _ => letGo (#[] : Array Value).toList.reverse >>= fun _ => Builtin.List.listExtendWith (.ref s.heap.objs.size) (.ref z) .none) _ _ _
  refine wpAny_bind (wpAny_updateSeq e0 rfl ?_)
  have e2 := Heap.get?_update_self (Obj.mapSeq (fun _ => (#[] : Array Value))) e0 rfl
  have oth : ∀ c o, s.heap.get? c = some o → ((s.heap.push { cls := .type "list", data := .seq #[] }).update s.heap.objs.size (Obj.mapSeq (fun _ => (#[] : Array Value)))).get? c = some o := fun c o e =>
    (Heap.get?_update_other _ _ (Nat.ne_of_gt (Heap.lt_size e))).trans (Heap.get?_push_of_some _ e)
  refine wpAny_bind (wpAny_letGo ?_)
  have hS : s.heap.objs.size ∉ [z, TI, TO, i1, i2] := fun h => Nat.lt_irrefl _ (lt _ h)
  have sz : s.heap.objs.size ≤ ((s.heap.push { cls := .type "list", data := .seq #[] }).update s.heap.objs.size (Obj.mapSeq (fun _ => (#[] : Array Value)))).objs.size := by
    rw [(Heap.SameBut.update ..).1, Heap.size_push]; exact Nat.le_succ _
  have L : LpI X pins σ z TI TO i1 i2 a b s.heap.objs.size xs ys H0 0 [] H0 { s with heap := (s.heap.push { cls := .type "list", data := .seq #[] }).update s.heap.objs.size (Obj.mapSeq (fun _ => (#[] : Array Value))) } _ :=
    ⟨⟨I.kept (t' := s.toks) oth, Same.refl _, rfl, fun j t h => (by cases h), e2, I.fpOk (Nat.le_refl _) (I.hok.fresh (Nat.le_refl _))⟩, fp, fun c hc => Nat.lt_of_lt_of_le (lt c hc) sz, oth _ _ tie, it1.at fun o q => oth _ o q, it2.at fun o q => oth _ o q, .inl ⟨oth _ _ hz0, u, v, oth _ _ hTO⟩⟩
  exact lp_extend hh D hS qx qy hl hz .none L (oth _ _ hz0) hR
theorem lp_call {A : Around} {E : Value → Shared → Prop} {Q : Value → Shared → Prop} (hh : A.handled = none) (D : ZipApart z TI TO i1 i2 a b) {s : Shared} (qx : SqT X.K H0 a xs) (qy : SqL X.K H0 b ys) (hl : xs.length = ys.length) (hz : xs.length ≤ 1000000)
    (I : Inv X pins σ H0 s) (fp : ∀ c ∈ [z, TI, TO, i1, i2], FpOk X pins H0 c) (lt : ∀ c ∈ [z, TI, TO, i1, i2], c < s.heap.objs.size) (tie : IsTupOf2 s.heap TI (.ref i1) (.ref i2)) (it1 : s.heap.IsTupleIter i1 a 0) (it2 : s.heap.IsListIter i2 b 0)
    (hz0 : IsZip s.heap z TI TO .none) {u v : Value} (hTO : IsTupOf2 s.heap TO u v)
    (hQ : ∀ (s' : Shared) (H' : Hp) (Ts' : List Addr), Inv X pins σ (upd H' s.heap.objs.size (.lst (Ts'.map V.ref))) s' → Same H0 H' → Ts'.length = xs.length → (∀ (j : Nat) (t : Addr), Ts'[j]? = some t → ∃ x y, xs[j]? = some x ∧ ys[j]? = some y ∧ H' t = some (.tup [x, y]) ∧ H0 t = none) →
      H' s.heap.objs.size = none → Q (.ref s.heap.objs.size) s') :
    wpAny (model X.prog X.w) A (call (.type "list") [.ref z]) Q E s := by
  refine callType_codes (Q₁ := fun obj s₁ => obj = .ref s.heap.objs.size ∧ s₁ = { s with heap := s.heap.push { cls := .type "list", data := .seq #[] } }) F.called_list (F.typeCall_list_1 _) F.entry_list_init
    (code_list_new _ ⟨rfl, rfl⟩) fun obj s₁ h₁ => ?_
  obtain ⟨rfl, rfl⟩ := h₁
  refine ⟨⟨_, Heap.get?_push_size _ rfl, rfl⟩, F.args_list_init_2 _ _, lp_init (A := A.in1) hh D qx qy hl hz I fp lt tie it1 it2 hz0 hTO fun s' H' Ts' c' L => ?_⟩
  exact ⟨rfl, hQ s' H' Ts' (lp_take L hz) L.same L.len L.tup L.fpS.1⟩
end
def tListZip (K : PySem.W.Frag) (ta : TA) : TE := fun σ H Q => ta σ H fun vs H1 => ∃ (a b : Addr) (xs ys : List V), vs = [.ref a, .ref b] ∧ SqT K H1 a xs ∧ SqL K H1 b ys ∧ xs.length = ys.length ∧ xs.length ≤ 1000000 ∧
  ∀ (p : Addr) (Ts : List Addr) (H' : Hp), Same H1 H' → Ts.length = xs.length → (∀ (j : Nat) (t : Addr), Ts[j]? = some t → ∃ x y, xs[j]? = some x ∧ ys[j]? = some y ∧ H' t = some (.tup [x, y]) ∧ H1 t = none) → H' p = none → Q (.ref p) (upd H' p (.lst (Ts.map V.ref)))
theorem pe_listZip {X : Cx} {e e2 : Expr} {ta : TA} {p pos p2 pos2 : Pos} (hcalm : X.calm = true) (hgl : Gl X "list") (hml : X.mg "list" = none) (hg : Gl X "zip") (hm : X.mg "zip" = none) (ha : PA X [e, e2] ta)
    (hs : starEach [e, e2] X.env = (false, eval e X.env) :: starEach [e2] X.env := by rfl) (hpl : (backTo pos2 (starEach [e2] X.env)).any (·.1) = false := by rfl)
    (na : starEach [(.Call (.Name "zip" p2) [e, e2] [] pos2 : Expr)] X.env = (false, eval (.Call (.Name "zip" p2) [e, e2] [] pos2) X.env) :: starEach [] X.env := by rfl) :
    PE X (.Call (.Name "list" p) [.Call (.Name "zip" p2) [e, e2] [] pos2] [] pos) (tListZip X.K ta) := by
  refine ⟨fun pins s σ H Q I h => ?_⟩
  refine Call_ (ld_blt I hgl hml boot_list (PyProof.Rows.callWith_type1 (args_cons ?_ na) na))
  refine Call_ (ld_blt I hg hm PyProof.Rows.boot_zip (PyProof.Rows.callWith_type1 (thn (ha.run pos2 pins s σ H _ I h) fun us s1 ⟨vs, H1, I1, r1, q1⟩ => ?_) hs hpl))
  obtain ⟨a, b, xs, ys, ex, hqx, hqy, hl, hz, q⟩ := q1
  subst ex
  obtain ⟨u, u2, rfl, r, r2⟩ : ∃ u u2, us = [u, u2] ∧ RelV (.ref a) u ∧ RelV (.ref b) u2 := by
    cases r1 with
    | cons r rr => cases rr with
      | cons r' rr => cases rr; exact ⟨_, _, rfl, r, r'⟩
  obtain rfl : u = Value.ref a := r
  obtain rfl : u2 = Value.ref b := r2
  obtain ⟨its, rv, p1, _⟩ := I1.tuple hqx
  obtain ⟨its2, rv2, p2, _⟩ := I1.list hqy
  obtain ⟨o1, ho1, _⟩ := id p1
  refine zip_begins2 (begins_tuple a its.toArray) (begins_list b its2.toArray) p1 p2.isList fun h' hz0 hTI hTO h1 h2 hsz hk => args_nil ?_
  have I2 : Inv X pins σ H1 { s1 with heap := h' } := I1.kept (t' := s1.toks) hk
  have mem : ∀ c ∈ [s1.heap.objs.size + 4, s1.heap.objs.size + 2, s1.heap.objs.size + 3, s1.heap.objs.size, s1.heap.objs.size + 1], s1.heap.objs.size ≤ c ∧ c < h'.objs.size := fun c hcm => by
    simp only [List.mem_cons, List.not_mem_nil, or_false] at hcm
    rw [hsz]
    rcases hcm with rfl | rfl | rfl | rfl | rfl
    · exact ⟨Nat.le_add_right _ _, Nat.add_lt_add_left (by decide) _⟩
    · exact ⟨Nat.le_add_right _ _, Nat.add_lt_add_left (by decide) _⟩
    · exact ⟨Nat.le_add_right _ _, Nat.add_lt_add_left (by decide) _⟩
    · exact ⟨Nat.le_refl _, Nat.lt_add_of_pos_right (by decide)⟩
    · exact ⟨Nat.le_add_right _ _, Nat.add_lt_add_left (by decide) _⟩
  refine lp_call (I2.ok.hd hcalm) (PySem.W.ktu_apart s1.heap.objs.size a b (Heap.lt_size ho1) p2.lt) hqx hqy hl hz I2 (fun c hc => I1.fpOk (mem c hc).1 (I1.hok.fresh (mem c hc).1)) (fun c hc => (mem c hc).2) hTI ⟨_, h1, rfl, rfl⟩ ⟨_, h2, rfl, rfl⟩ hz0 hTO fun s' H' Ts' I3 sm ln tp hn => ?_
  exact ⟨.ref _, _, I3, rfl, q _ Ts' H' sm ln tp hn⟩
end
/-! ### the tables of events; event_octets -/
def evD (rows : List (Str × List Str)) : PyData := .tuple (rows.map fun r => .tuple [.str r.1, .tuple (r.2.map PyData.str)])
theorem dpall_strs {K : PySem.W.Frag} {H : Hp} : ∀ {vs : List V} {ss : List Str}, DpAll K H vs (ss.map PyData.str) → vs = ss.map V.str
  | _, [], h => by cases h; rfl
  | _, s :: r, h => by
    cases h with
    | cons h1 h2 => rw [dp_str h1, dpall_strs h2]; rfl
def sp__opcode_of (K : PySem.W.Frag) : Sp := fun vs H Q _ => ∃ (ar : Addr) (rows : List (Str × List Str)) (name : Str) (j : Nat) (row : Str × List Str), vs = [.ref ar, .str name] ∧ Dp K H (.ref ar) (evD rows) ∧ rows.length < 1000 ∧
  rows[j]? = some row ∧ row.1 = name ∧ (∀ (m : Nat) (row' : Str × List Str), m < j → rows[m]? = some row' → row'.1 ≠ name) ∧ ∀ H', Same H H' → Q (.int (j : Nat)) H'
theorem sc__opcode_of : FnScope ["rows", "name", "row"] ["rows", "name"] (defScope s__opcode_of) := ⟨rfl, rfl, rfl, by decide +kernel, rfl, by decide +kernel, by decide +kernel⟩
theorem ok__opcode_of (T : Txt0 P K mg A) : FnOk P w K mg base CX0 1 A.f_opcode_of A.d_opcode_of ["rows", "name"] (sp__opcode_of K) := by
  refine T.F_opcode_of.ok sc__opcode_of (fun vs H Q E h => ?_) (fun cdv Ar outer s H vs Q E hr h => ?_)
  · obtain ⟨_, _, _, _, _, rfl, _⟩ := h
    rfl
  · obtain ⟨ar, rows, name, j, row, rfl, dr, hl, hj, hn, hm, q⟩ := h
    obtain ⟨pr, zs, e0, qs, ds⟩ := dp_tuple dr
    cases e0
    have hzl : zs.length = rows.length := by rw [dpall_len ds, List.length_map]
    refine ⟨_, (pss_one (ps_ret (pe_bm PySem.F.plainAttrs_list PySem.F.slot_list_index PySem.F.type_list_index mt_index (pe_lc (own := [("row", 2)]) (g := (gName 2)) (tt := tYes) rfl sc__opcode_of.nd (pi_tup (pv 0)) (blkOk_by (own := [("row", 2)]) (N := ["rows", "name", "row"]) (sc := defScope s__opcode_of) (by decide +kernel)) (fun _ _ _ _ _ => (pg_name (i := 2) sc__opcode_of.nd rfl (Or.inl rfl))) (fun _ _ _ _ _ => pts_nil) (fun _ _ _ _ _ => by exact (pe_ix (r := rIxT K) ix_tup (pv 2) pe_int (fun _ _ => rfl)))) (pa_cons (pv 1) pa_nil)))), ?_⟩
    refine ⟨_, rfl, ar, rfl, ⟨_, qs⟩, fun D hD => ?_⟩
    refine lc_dp (walk_tup (K := K) (a := ar) (xs := zs)) (K := K) (V0 := H) (H0 := H) (fun i => (rows[i]?).map fun r => PyData.str r.1) _ rfl (Same.refl _) hD (by omega) (fun H' s => s.sqt qs) (fun i x H H' y => y.1) ?_ ?_
    · rintro n z U2 H4 hn' xx ⟨_, hz⟩ Qy Qn hy hno
      obtain ⟨d, hd, dv⟩ := dpall_get ds hz
      rw [List.getElem?_map] at hd
      obtain ⟨r, hr, rfl⟩ := Option.map_eq_some_iff.mp hd
      obtain ⟨pt, ws, rfl, qw, dw⟩ := dp_tuple dv
      cases dw with
      | cons d1 d2 =>
        obtain rfl := dp_str d1
        have qw' := xx.hh.sqt qw
        walk_at "go"
        exact hy (.str r.1) _ _ _ (by rw [hr]; rfl) (Ext.refl xx.vh) (.str _)
    · rintro U2 H4 ws xx uD dA _
      rw [hzl, fm_map] at dA
      have ew : ws = (rows.map fun r => r.1).map V.str := dpall_strs (by rw [List.map_map]; exact dA)
      subst ew
      have eD := xx.vh _ _ uD
      refine ⟨.inl ⟨rfl, _, SqL.of eD⟩, ?_⟩
      walk_at "go"
      have hj2 : ((rows.map fun r => r.1).map V.str)[j]? = some (.str row.1) := by rw [List.getElem?_map, List.getElem?_map, hj]; rfl
      refine ⟨D, _, .str name, j, .str row.1, rfl, rfl, SqL.of eD, rfl, ?_, hj2, ?_, fun m z' hlt hz' => ?_, ?_⟩
      · rw [List.map_map, List.all_map]; exact List.all_eq_true.mpr fun _ _ => rfl
      · show (row.1 == name) = true
        rw [hn]; exact beq_self_eq_true _
      · rw [List.getElem?_map, List.getElem?_map] at hz'
        obtain ⟨y, hy, rfl⟩ := Option.map_eq_some_iff.mp hz'
        obtain ⟨r', hr', rfl⟩ := Option.map_eq_some_iff.mp hy
        show (r'.1 == name) = false
        exact beq_eq_false_iff_ne.mpr (hm m r' hlt hr')
      · exact q _ xx.hh
def sp_event_octets (C : Addr) (w : World) (K : PySem.W.Frag) (B L : Addr) : Sp := fun vs H Q E => ∃ (n : Int) (intf name : Str) (va ar : Addr) (rows : List (Str × List Str)) (j : Nat) (row : Str × List Str) (xs : List V) (args : List Arg), vs = [.int n, .str intf, .str name, .ref va] ∧
  KDct K w C intf (.ref ar) ∧ (∀ H, Dp K H (.ref ar) (evD rows)) ∧ rows.length < 1000 ∧ rows[j]? = some row ∧ row.1 = name ∧ (∀ (m : Nat) (row' : Str × List Str), m < j → rows[m]? = some row' → row'.1 ≠ name) ∧
  SqL K H va xs ∧ xs.length = row.2.length ∧ args.length = row.2.length ∧ row.2.length ≤ 20 ∧ (∀ (i : Nat) (x : V), xs[i]? = some x → ∃ (g : Arg) (k : Str), args[i]? = some g ∧ row.2[i]? = some k ∧ g.kind = k ∧ ArgAt K H x g.val) ∧ (∀ g ∈ args, ArgSpec g.kind g.val true g.os) ∧ (bodyOf args).length < 60000 ∧
  (encBad n j args → ∀ H', Same H H' → E (.ref B) none H') ∧ (¬ encBad n j args → encLong args → ∀ H', Same H H' → E (.ref L) none H') ∧
  (¬ encBad n j args → ¬ encLong args → ∀ p H', NewL H H' p ((msgOcts n j (bodyOf args)).map V.int) → Q (.ref p) H')
theorem sc_event_octets : FnScope ["number", "interface", "name", "values", "rows", "opcode", "kinds"] ["number", "interface", "name", "values"] (defScope s_event_octets) := ⟨rfl, rfl, rfl, by decide +kernel, rfl, by decide +kernel, by decide +kernel⟩
theorem ok_event_octets (T : Txt0 P K mg A) : FnOk P w K mg base (L2.CX P w) 8 A.fevent_octets A.devent_octets ["number", "interface", "name", "values"] (sp_event_octets A.a_EVENTS w K A.CBadMessage A.CMessageTooLong) := by
  refine T.Fevent_octets.okX sc_event_octets (fun vs H Q E h => ?_) (fun cdv Ar outer s H vs Q E hr h => ?_)
  · obtain ⟨_, _, _, _, _, _, _, _, _, _, rfl, _⟩ := h
    rfl
  · obtain ⟨n, intf, name, va, ar, rows, j, row, xs, args, rfl, hd, dr, hl, hj, hn, hm, qx, hxl, hal, h20, hx, hok, hb, qb, ql, q⟩ := h
    obtain ⟨ar', zs, e0, qs, ds⟩ := dp_tuple (dr H)
    cases e0
    refine ⟨_, (pss_cons (ps_set (i := 4) sc_event_octets.nd rfl (Or.inl rfl) (pe_ix (r := rIxD K w) ix_kdict (pe_glob (v := .ref A.a_EVENTS) rfl T.g_EVENTS rfl) (pv 1) (fun _ _ => rfl)))
      (pss_cons (ps_set (i := 5) sc_event_octets.nd rfl (Or.inl rfl) (pe_call (ok__opcode_of T) (hr.mono (by decide)) rfl T.g_opcode_of T.k_opcode_of T.b_opcode_of .nil pass0 (pa_cons (pv 4) (pa_cons (pv 2) pa_nil))))
      (pss_cons (ps_set (i := 6) sc_event_octets.nd rfl (Or.inl rfl) (pe_ix (r := rIxT K) ix_tup (pe_ix (r := rIxT K) ix_tup (pv 4) (pv 5) (fun _ _ => rfl)) pe_int (fun _ _ => rfl)))
      (pss_one (ps_ret (pe_call (ok_encode_message T) (hr.mono (by decide)) rfl T.gencode_message T.kencode_message T.bencode_message .nil (passes_call (takes_of rfl rfl rfl rfl) (fun _ _ _ _ h => h)) (pa_cons (pv 0) (pa_cons (pv 5) (pa_cons (pe_listZip rfl (by rfl) T.list (by rfl) T.zip (pa_cons (pv 6) (pa_cons (pv 3) pa_nil))) pa_nil))))))))), ?_⟩
    have hjz : (rows.map fun r => PyData.tuple [.str r.1, .tuple (r.2.map PyData.str)])[j]? = some (.tuple [.str row.1, .tuple (row.2.map PyData.str)]) := by rw [List.getElem?_map, hj]; rfl
    obtain ⟨z, hz, dz⟩ := dpall_get' ds hjz
    obtain ⟨pt, ws, rfl, qw, dw⟩ := dp_tuple dz
    cases dw with
    | cons d1 d2 => cases d2 with
      | cons d2 d3 =>
        cases d3
        obtain rfl := dp_str d1
        obtain ⟨pk, ks, rfl, qk, dk⟩ := dp_tuple d2
        obtain rfl := dpall_strs dk
        walk_at "go"
        refine ⟨_, _, _, rfl, rfl, hd, ?_⟩
        walk_at "go"
        refine ⟨ar, rows, name, j, row, rfl, dr H, hl, hj, hn, hm, fun H1 s1 => ?_⟩
        have qw1 := s1.sqt qw
        walk_at "go"
        refine ⟨ar, _, _, .ref pt, rfl, rfl, s1.sqt qs, atI_nat hz, ?_⟩
        walk_at "go"
        refine ⟨pk, va, _, xs, rfl, s1.sqt qk, s1.seq qx, by rw [List.length_map]; exact hxl.symm, by rw [List.length_map]; omega, fun p Ts H2 sm ln tp hp => ?_⟩
        have s2 : Same H (upd H2 p (.lst (Ts.map V.ref))) := (s1.trans sm).trans (same_upd hp)
        walk_at "go"
        rw [List.length_map] at ln
        refine ⟨n, j, p, args, rfl, ⟨⟨_, SqL.of upd_same, by rw [List.length_map]; omega, fun i x hi => ?_⟩, hok⟩, hb, by omega, fun c H3 s3 => qb c H3 (s2.trans s3), fun c d H3 s3 => ql c d H3 (s2.trans s3), fun c d p3 H3 nl => q c d p3 H3 ⟨s2.free nl.new, s2.trans nl.same, nl.at_⟩⟩
        rw [List.getElem?_map] at hi
        obtain ⟨t, ht, rfl⟩ := Option.map_eq_some_iff.mp hi
        obtain ⟨x1, y1, e1, e2, e3, e4⟩ := tp i t ht
        rw [List.getElem?_map] at e1
        obtain ⟨k, hk, rfl⟩ := Option.map_eq_some_iff.mp e1
        obtain ⟨g, k', hg, hk', egk, ag⟩ := hx i y1 e2
        have ek : k = k' := Option.some.inj (hk.symm.trans hk')
        refine ⟨g, t, y1, hg, rfl, (same_upd hp).sqt (SqT.of (by rw [egk, ← ek]; exact e3)), ag.to s2⟩
/-! ### views that grow while objects outside of them change -/
structure Grow (U H U' H' : Hp) : Prop where
  vv : Same U U'
  vh : Same U' H'
  nw : ∀ a, U' a ≠ none → U a ≠ none ∨ H a = none
theorem Ext.grow {U H U' H' : Hp} (x : Ext U H U' H') : Grow U H U' H' := ⟨x.vv, x.vh, x.nw⟩
theorem Grow.refl {U H : Hp} (s : Same U H) : Grow U H U H := ⟨Same.refl U, s, fun _ h => Or.inl h⟩
theorem Grow.keepOut {U H U' H' : Hp} (x : Grow U H U' H') {D : Addr} (h : U D = none) (hd : H D ≠ none) : U' D = none := by
  cases e : U' D with
  | none => rfl
  | some o =>
    rcases x.nw D (by rw [e]; exact fun z => by cases z) with q | q
    · exact absurd h q
    · exact absurd q hd
/-- an object outside of the view changes -/
theorem Grow.poke {U H U' H' : Hp} (x : Grow U H U' H') {D : Addr} {o : HO} (h : U' D = none) : Grow U H U' (upd H' D o) :=
  ⟨x.vv, fun b u e => by
    have hb : b ≠ D := fun z => by rw [z, h] at e; cases e
    rw [upd_ne hb]; exact x.vh b u e, x.nw⟩
theorem same_poke {U H : Hp} (s : Same U H) {D : Addr} {o : HO} (h : U D = none) : Same U (upd H D o) := fun b u e => by
  have hb : b ≠ D := fun z => by rw [z, h] at e; cases e
  rw [upd_ne hb]; exact s b u e
/-- what was new behind a change of what the view has not is new ahead of it, if that was there -/
theorem Grow.from_ {U H H1 U' H' : Hp} (x : Grow U H1 U' H') (h : ∀ a, H1 a = none → H a = none) : Grow U H U' H' :=
  ⟨x.vv, x.vh, fun a e => (x.nw a e).imp id (h a)⟩
theorem Grow.trans {U H U1 H1 U2 H2 : Hp} (a : Grow U H U1 H1) (b : Grow U1 H1 U2 H2) (h : ∀ a, H1 a = none → H a = none) : Grow U H U2 H2 :=
  ⟨a.vv.trans b.vv, b.vh, fun x e => by
    rcases b.nw x e with q | q
    · exact a.nw x q
    · exact Or.inr (h x q)⟩
theorem none_poke {H : Hp} {D : Addr} {o : HO} (hd : H D ≠ none) : ∀ a, upd H D o a = none → H a = none := fun a e => by
  by_cases h : a = D
  · subst h; rw [upd_same] at e; cases e
  · rw [upd_ne h] at e; exact e
theorem none_same {H H' : Hp} (s : Same H H') : ∀ a, H' a = none → H a = none := fun a e => s.free e
/-! ### an event that is written, told shortly -/
def EvAt (C : Addr) (w : World) (K : PySem.W.Frag) (H : Hp) (n : Int) (intf name : Str) (va : Addr) (os : List Int) : Prop := ∃ (ar : Addr) (rows : List (Str × List Str)) (j : Nat) (row : Str × List Str) (xs : List V) (args : List Arg),
  KDct K w C intf (.ref ar) ∧ (∀ H, Dp K H (.ref ar) (evD rows)) ∧ rows.length < 1000 ∧ rows[j]? = some row ∧ row.1 = name ∧ (∀ (m : Nat) (row' : Str × List Str), m < j → rows[m]? = some row' → row'.1 ≠ name) ∧
  SqL K H va xs ∧ xs.length = row.2.length ∧ args.length = row.2.length ∧ row.2.length ≤ 20 ∧ (∀ (i : Nat) (x : V), xs[i]? = some x → ∃ (g : Arg) (k : Str), args[i]? = some g ∧ row.2[i]? = some k ∧ g.kind = k ∧ ArgAt K H x g.val) ∧ (∀ g ∈ args, ArgSpec g.kind g.val true g.os) ∧ (bodyOf args).length < 60000 ∧
  ¬ encBad n j args ∧ ¬ encLong args ∧ os = msgOcts n j (bodyOf args)
theorem EvAt.go {C : Addr} {w : World} {K : PySem.W.Frag} {H : Hp} {n : Int} {intf name : Str} {va : Addr} {os : List Int} {B L : Addr} {Q : VK} {E : XK} (h : EvAt C w K H n intf name va os) (q : ∀ p H', NewL H H' p (os.map V.int) → Q (.ref p) H') :
    sp_event_octets C w K B L [.int n, .str intf, .str name, .ref va] H Q E := by
  obtain ⟨ar, rows, j, row, xs, args, h1, h2, h3, h4, h5, h6, h7, h8, h9, h10, h11, h12, h13, h14, h15, rfl⟩ := h
  exact ⟨n, intf, name, va, ar, rows, j, row, xs, args, rfl, h1, h2, h3, h4, h5, h6, h7, h8, h9, h10, h11, h12, h13, fun z => absurd z h14, fun _ z => absurd z h15, fun _ _ => q⟩
theorem EvAt.to {C : Addr} {w : World} {K : PySem.W.Frag} {H H' : Hp} {n : Int} {intf name : Str} {va : Addr} {os : List Int} (h : EvAt C w K H n intf name va os) (s : Same H H') : EvAt C w K H' n intf name va os := by
  obtain ⟨ar, rows, j, row, xs, args, h1, h2, h3, h4, h5, h6, h7, h8, h9, h10, h11, h12, h13, h14, h15, rfl⟩ := h
  exact ⟨ar, rows, j, row, xs, args, h1, h2, h3, h4, h5, h6, s.seq h7, h8, h9, h10, fun i x hx => by obtain ⟨g, k, a1, a2, a3, a4⟩ := h11 i x hx; exact ⟨g, k, a1, a2, a3, a4.to s⟩, h12, h13, h14, h15, rfl⟩
theorem uintOk {i : Int} (h : 0 ≤ i ∧ i ≤ 4294967295) : ArgSpec "uint" (.num i) true (octs (i % 4294967296) 4) := by
  have := ArgSpec.num (i := i) .uint
  rw [decide_eq_true h] at this
  exact this
theorem objOk {i : Int} (h : 1 ≤ i ∧ i ≤ 4294967295) : ArgSpec "object" (.num i) true (octs (i % 4294967296) 4) := by
  have := ArgSpec.num (i := i) .object
  rw [decide_eq_true h] at this
  exact this
theorem intOk {i : Int} (h : -2147483648 ≤ i ∧ i ≤ 2147483647) : ArgSpec "int" (.num i) true (octs (i % 4294967296) 4) := by
  have := ArgSpec.num (i := i) .int
  rw [decide_eq_true h] at this
  exact this
theorem txtOk {s : Str} (h : isText s = true) : ArgSpec "text" (.txt s) true (textOcts s) := by
  have := @ArgSpec.txt s
  rw [h] at this
  exact this
/-- a row of the table of events -/
def EvRow (C : Addr) (w : World) (K : PySem.W.Frag) (intf name : Str) (j : Nat) (ks : List Str) : Prop := ∃ (ar : Addr) (rows : List (Str × List Str)),
  KDct K w C intf (.ref ar) ∧ (∀ H, Dp K H (.ref ar) (evD rows)) ∧ rows.length < 1000 ∧ rows[j]? = some (name, ks) ∧ (∀ (m : Nat) (row' : Str × List Str), m < j → rows[m]? = some row' → row'.1 ≠ name)
def AllAt (K : PySem.W.Frag) (H : Hp) : List V → List Arg → Prop
  | [], [] => True
  | x :: xs, g :: gs => ArgAt K H x g.val ∧ AllAt K H xs gs
  | _, _ => False
theorem AllAt.at {K : PySem.W.Frag} {H : Hp} : ∀ {xs : List V} {gs : List Arg}, AllAt K H xs gs → xs.length = gs.length ∧ ∀ (i : Nat) (x : V), xs[i]? = some x → ∃ g : Arg, gs[i]? = some g ∧ ArgAt K H x g.val
  | [], [], _ => ⟨rfl, fun i x h => by cases h⟩
  | x :: xs, g :: gs, h => by
    obtain ⟨h1, h2⟩ := h
    obtain ⟨e, q⟩ := AllAt.at h2
    refine ⟨congrArg (· + 1) e, fun i y hy => ?_⟩
    cases i with
    | zero => cases hy; exact ⟨g, rfl, h1⟩
    | succ i => exact q i y hy
  | [], _ :: _, h => h.elim
  | _ :: _, [], h => h.elim
theorem EvRow.ev {C : Addr} {w : World} {K : PySem.W.Frag} {intf name : Str} {j : Nat} {ks : List Str} (h : EvRow C w K intf name j ks) {H : Hp} {n : Int} {va : Addr} {xs : List V} (args : List Arg) (hn : 1 ≤ n ∧ n ≤ 4294967295) (hj : j ≤ 1000) (hk : args.map Arg.kind = ks) (h20 : args.length ≤ 20)
    (qx : SqL K H va xs) (hx : AllAt K H xs args) (ok : ∀ g ∈ args, ArgSpec g.kind g.val true g.os) (hb : (bodyOf args).length ≤ 20000) : EvAt C w K H n intf name va (msgOcts n j (bodyOf args)) := by
  obtain ⟨ar, rows, a1, a2, a3, a4, a5⟩ := h
  obtain ⟨e1, e2⟩ := hx.at
  subst hk
  refine ⟨ar, rows, j, _, xs, args, a1, a2, a3, a4, rfl, a5, qx, by rw [e1]; exact (List.length_map ..).symm, (List.length_map ..).symm, by rw [List.length_map]; exact h20, fun i x hi => ?_, ok, by omega, ?_, ?_, rfl⟩
  · obtain ⟨g, hg, ha⟩ := e2 i x hi
    exact ⟨g, g.kind, hg, by rw [List.getElem?_map, hg]; rfl, rfl, ha⟩
  · rintro (z | z | z)
    · exact z hn
    · exact z ⟨by omega, by omega⟩
    · omega
  · unfold encLong; omega
/-! ### fields of instances whose class is known; words that go on by themselves -/
section
open PySem PySem.Spec PyProof.Rows
def tFldC (C : Addr) (ta : TE) (f : Str) : TE := fun σ H Q => ta σ H fun x H1 => ∃ a dx fs v, x = .ref a ∧ H1 a = some (.ins C dx fs) ∧ fs.lookup f = some v ∧ Q v H1
theorem pe_fldC {X : Cx} {e : Expr} {f : Str} {pos : Pos} {ta : TE} {C : Addr} (c : Cls X.K C) (n : NoAttr X.K C f) (he : PE X e ta) (hb : attributeBase e f X.env (eval e X.env) = eval e X.env) : PE X (.Attribute e f pos) (tFldC C ta f) := by
  refine ⟨fun pins s σ H Q I h => ?_⟩
  refine attr_of hb (thn (he.run pins s σ H _ I h) fun u s1 ⟨x, H1, I1, rx, a, dx, fs, v, ex, ea, l, q⟩ => ?_)
  subst ex
  obtain rfl : u = Value.ref a := rx
  exact getattr_ok I1 ea c n l fun u' s2 I2 ru => ⟨v, H1, I2, ru, q⟩
/-- o.f = e: the heap behind it is told by what stands at o, and elsewhere -/
def sFldC (C : Addr) (ta tv : TE) (f : Str) : TS := fun D σ H => tv σ H fun y H1 => ta σ H1 fun x H2 => ∃ a dx fs fs', x = .ref a ∧ H2 a = some (.ins C dx fs) ∧ fs.length < 1000 ∧ putF f y fs = fs' ∧
  ∀ H3 : Hp, H3 a = some (.ins C dx fs') → (∀ b, b ≠ a → H3 b = H2 b) → D.nx σ H3
theorem ps_fldC {X : Cx} {o value : Expr} {f : Str} {pos pos' : Pos} {ta tv : TE} {C : Addr} (c : Cls X.K C) (n : NoAttr X.K C f) (ha : PE X o ta) (hv : PE X value tv) (hs : swapsWith value (some (.Attribute o f pos')) pos.line X.env = pure false) : PS X (.Assign [.Attribute o f pos'] value pos) (sFldC C ta tv f) := by
  refine ⟨fun pins s σ H D I h => ?_⟩
  refine plainObj_wpAny_Assign_Attribute (thn (hv.run pins s σ H _ I h) fun u s1 ⟨y, H1, I1, ry, q⟩ => thn (ha.run pins s1 σ H1 _ I1 q) fun ov s2 ⟨x, H2, I2, rx, a, dx, fs, fs', ex, ea, l, ep, q2⟩ => ?_) hs
  subst ex
  obtain rfl : ov = Value.ref a := rx
  exact setattr_ok I2 ea c n l ry fun s3 I3 => ⟨σ, _, I3, q2 _ (by rw [ep]; exact upd_same) fun b hb => upd_ne hb⟩
end
theorem lk_ne {k k' : Str} {v : V} {r : List (Str × V)} (h : (k == k') = false) : List.lookup k ((k', v) :: r) = List.lookup k r := by rw [List.lookup_cons, h]
theorem pf_nil {f : Str} {v : V} : putF f v [] = [(f, v)] := rfl
theorem pf_eq {f : Str} {v x : V} {r : List (Str × V)} : putF f v ((f, x) :: r) = (f, v) :: r := by
  show (if f = f then _ else _) = _
  rw [if_pos rfl]
theorem pf_ne {f g : Str} {v x : V} {r r' : List (Str × V)} (h : g ≠ f) (e : putF f v r = r') : putF f v ((g, x) :: r) = (g, x) :: r' := by
  show (if g = f then _ else _) = _
  rw [if_neg h, e]
theorem upd_facts {H H2 : Hp} {a : Addr} {o : HO} (h : upd H a o = H2) : H2 a = some o ∧ ∀ b, b ≠ a → H2 b = H b := by
  subst h
  exact ⟨upd_same, fun b hb => upd_ne hb⟩
theorem nn_of {H H' : Hp} (h : ∀ b u, H b = some u → H' b ≠ none) : ∀ b, H' b = none → H b = none := fun b e => by
  cases x : H b with
  | none => rfl
  | some u => exact absurd e (h b u x)
theorem ln_nil {k : Str} : List.lookup k ([] : List (Str × V)) = none := rfl
theorem same_iff {H H' : Hp} : Same H H' ↔ ∀ b, H b ≠ none → H' b = H b :=
  ⟨fun s b h => by
    cases e : H b with
    | none => exact absurd e h
    | some u => exact s b u e, fun s b u e => (s b (by rw [e]; exact fun z => by cases z)).trans e⟩
/-! words for fields and heaps -/
local macro_rules | `(tactic| walk_at "lk") => `(tactic| first
  | exact List.lookup_cons_self
  | (refine (lk_ne (by decide +kernel)).trans ?_; walk_at "lk"))
local macro_rules | `(tactic| walk_at "ln") => `(tactic| first
  | exact ln_nil
  | (refine (lk_ne (by decide +kernel)).trans ?_; walk_at "ln"))
local macro_rules | `(tactic| walk_at "pf") => `(tactic| first
  | exact pf_eq
  | exact pf_nil
  | (apply pf_ne; (focus decide +kernel); walk_at "pf"))
local macro_rules | `(tactic| walk_at "h") => `(tactic| ((try simp only [same_iff] at *); grind [L2.upd]))
local macro_rules | `(tactic| walk_at "gf1") => `(tactic| first
  | refine ⟨_, _, _, _, rfl, (by assumption), (by walk_at "lk"), ?_⟩
  | refine ⟨_, _, _, _, rfl, (by assumption), (by exact Nat.le_of_ble_eq_true rfl), (by walk_at "pf"), ?_⟩
  | refine ⟨_, _, _, rfl, (by assumption), (by walk_at "ln"), ?_⟩
  | refine .inl ⟨rfl, _, SqL.of (by assumption), ?_⟩
  | (refine And.intro (.inl ⟨rfl, _, SqL.of (by assumption)⟩) ?_)
  | walk_at "go2")
local macro_rules | `(tactic| walk_at "gf") => `(tactic| repeat walk_at "gf1")
local macro_rules | `(tactic| walk_at "nn") => `(tactic| walk_at "h")
local macro_rules | `(tactic| walk_at "nl") => `(tactic| ((try unfold L2.tNil); (try dsimp only)))
section
/-! ### o.m(e, ..) within a try, m of an own class, which may raise (our own rule, along the library's for a def) -/
open PySem PySem.Spec PyProof.Rows
def tMethAt (C : Addr) (m : Str) (sp : Sp) (E : L2.St → XK) (ta : TE) (t : TA) : TE := fun σ H Q => ta σ H fun x H1 => ∃ a dx fs, x = .ref a ∧ H1 a = some (.ins C dx fs) ∧ fs.lookup m = none ∧ t σ H1 fun vs H2 => sp (x :: vs) H2 Q (E σ)
theorem pe_methAt {X : Cx} {CX : CXT} {k : Nat} {f C : Addr} {fd : FuncData} {ps : List Str} {sp : Sp} {E : L2.St → XK} {m : Str} {pos apos : Pos} {e o : Expr} {es : List Expr} {ta : TE} {t : TA} {pl : Sem Bool} (he : PE X o ta) (c : Cls X.K C) (hm : Meth X.K C m f) (F : FnOk X.prog X.w X.K X.mg X.base CX k f fd ps sp) (hr : Room k X.A) (hb : Binds X.K fd ps []) (hx : ∀ σ, PassesAt CX X σ (E σ)) (ha : PA X (e :: es) t)
    (hst : starEach (e :: es) X.env = (false, eval e X.env) :: starEach es X.env := by rfl) (hpl : (backTo pos (starEach es X.env)).any (·.1) = false := by rfl)
    (ht : eval (.Call (.Attribute o m apos) (e :: es) [] pos) X.env = (do
      let ov ← eval o X.env
      standAt apos.atName
      let (f, first) ← holding [ov] (getMethod ov m pl)
      callWith pos f first (backTo pos (starEach (e :: es) X.env)) (backToKw pos (keywordEach [] X.env))) := by rfl) :
    PE X (.Call (.Attribute o m apos) (e :: es) [] pos) (tMethAt C m sp E ta t) := by
  refine ⟨fun pins s σ H Q I h => ?_⟩
  refine PySem.W.methodCall_KW (pl := pl) (thn (he.run pins s σ H _ I h) fun u s1 ⟨x, H1, I1, rx, a, dx, fs, ex, ea, l, q⟩ => ?_) ht
  subst ex
  obtain rfl : u = Value.ref a := rx
  refine getmeth_ok I1 ea c hm l ?_
  refine PySem.W.callWith_K (first := [.ref a]) (h₀ := X.base) I.ok.mod.kin hm.kp (thn (ha.run pos pins s1 σ H1 _ I1 q) fun us s2 ⟨vs, H2, I2, r, q2⟩ => ⟨I2.kIn, ?_⟩) hst hpl
  exact run_fnS (us := .ref a :: us) (vs := .ref a :: vs) F hr hb (hx σ) I2 (.cons rfl r) q2
end
section
/-! ### x in t, t a tuple of data (our own rule, along the library's for lists) -/
open PySem PySem.Spec PyProof.Rows
def rInDT (K : PySem.W.Frag) : R2 := fun x y H Q => ∃ d ds, Dp K H x d ∧ Dp K H y (.tuple ds) ∧ SeqAt.shaped d = true ∧ SeqAt.shaped (.tuple ds) = true ∧ Q (.bl (ds.any fun z => PyData.eqv z d)) H
theorem op_inDT {X : Cx} (hu : X.A.units + 65 < cLine) : OpR X (compareOp .In) (rInDT X.K) := by
  intro pins s σ H x y v u Q I rx ry h
  obtain ⟨d, ds, hd, he, sd, se, q⟩ := h
  obtain ⟨as, r1⟩ := Dp.reads I d x v hd rx
  obtain ⟨bs, r2⟩ := Dp.reads I (.tuple ds) y u he ry
  exact SeqAt.in_tuple_reads r2 r1 (SeqAt.canLay_of_shaped se) (SeqAt.canLay_of_shaped sd) (room_in_shaped sd hu) ⟨.bl _, H, I, rfl, q⟩
theorem room65 {k : Nat} {A : Around} (r : Room (k + 1) A) : A.units + 65 < cLine := by have := r.un; omega
end
section
/-! ### xs == [], xs != [] of a list of any items (our own rule, by the library's for lists of unlike lengths) -/
open PySem PySem.Spec PyProof.Rows
def rEqNil (K : PySem.W.Frag) (neg : Bool) : R2 := fun x y H Q => ∃ a b xs, x = .ref a ∧ y = .ref b ∧ SqL K H a xs ∧ SqL K H b [] ∧ Q (.bl (if neg then !xs.isEmpty else xs.isEmpty)) H
theorem op_eqNil {X : Cx} (hu : X.A.units + 64 < cLine) : OpR X (compareOp .Eq) (rEqNil X.K false) := by
  intro pins s σ H x y v u Q I rx ry h
  obtain ⟨a, b, xs, rfl, rfl, ha, hb, q⟩ := h
  cases (show v = Value.ref a from rx)
  cases (show u = Value.ref b from ry)
  obtain ⟨us, r1, p1, _⟩ := I.list ha
  obtain ⟨ws, r2, p2, _⟩ := I.list hb
  cases r2
  cases xs with
  | nil =>
    cases r1
    exact SeqAt.eq_listAt (e := fun _ => true) p1.isList p2.isList rfl (by omega) (fun j h1 h2 => absurd h1 (Nat.not_lt_zero j)) ⟨.bl true, H, I, rfl, q⟩
  | cons z zs =>
    cases r1
    exact SeqAt.eq_list_lengthsAt p1.isList p2.isList (by simp) (by omega) ⟨.bl false, H, I, rfl, q⟩
theorem op_neNil {X : Cx} (hu : X.A.units + 64 < cLine) : OpR X (compareOp .NotEq) (rEqNil X.K true) := by
  intro pins s σ H x y v u Q I rx ry h
  obtain ⟨a, b, xs, rfl, rfl, ha, hb, q⟩ := h
  cases (show v = Value.ref a from rx)
  cases (show u = Value.ref b from ry)
  obtain ⟨us, r1, p1, _⟩ := I.list ha
  obtain ⟨ws, r2, p2, _⟩ := I.list hb
  cases r2
  cases xs with
  | nil =>
    cases r1
    exact SeqAt.RcNeAt.lists (e := fun _ => true) p1.isList p2.isList rfl (by omega) (fun j h1 h2 => absurd h1 (Nat.not_lt_zero j)) _ _ _ _ ⟨.bl false, H, I, rfl, q⟩
  | cons z zs =>
    cases r1
    exact SeqAt.RcNeAt.lists_lengths p1.isList p2.isList (by simp) (by omega) _ _ _ _ ⟨.bl true, H, I, rfl, q⟩
end
/-! ### a heap without some places -/
def hide (H : Hp) (a : Addr) : Hp := fun b => if b = a then none else H b
def paneV : List Int → V
  | [] => .non
  | p :: _ => .int p
def ofF (tr kd : Addr) (on : Bool) : List (Str × V) := [("_transfers", .ref tr), ("_kept", .ref kd), ("_is_hovered", .bl on)]
/-- what is not to be looked at -/
structure Hid (p : Prop) : Prop where
  go : p
/-- where words that go on by themselves stop -/
structure Stop (p : Prop) : Prop where
  go : p
  tr : True
theorem stop {p : Prop} (h : p) : Stop p := ⟨h, trivial⟩
/-! ### small things -/
theorem inV_ints (n : Int) : ∀ ns : List Int, inV (.int n) (ns.map V.int) = decide (n ∈ ns)
  | [] => rfl
  | a :: r => by
    show ((a == n) || inV (.int n) (r.map V.int)) = _
    rw [inV_ints n r]
    by_cases h : a = n
    · subst h; simp
    · have : ¬ n = a := fun z => h z.symm
      simp [this, beq_eq_false_iff_ne.mpr h]
theorem useR {R B C G : Prop} (h : (¬ C → R) → (C → B) → G) (r : ¬ C → R) (b : C → B) : G := h r b
theorem fm_fmap' {α β : Type} (f : α → Option β) (xs : List α) (n : Nat) (h : n = xs.length) (g : Nat → Option β) (hg : ∀ i x, xs[i]? = some x → g i = f x) : fm g n = xs.filterMap f := by
  subst h
  have : ∀ (m : Nat), m ≤ xs.length → fm g m = (xs.take m).filterMap f := by
    intro m
    induction m with
    | zero => intro _; rfl
    | succ m ih =>
      intro hm
      rw [fm_succ, ih (by omega), hg m _ (List.getElem?_eq_getElem (by omega)), List.take_succ_eq_append_getElem (by omega), List.filterMap_append]
      congr 1
  rw [this _ (Nat.le_refl _), List.take_length]
theorem fm_ne (g : Int) (ps : List Int) : (ps.filterMap fun p => if p ≠ g then some (PyData.int p) else none) = (ps.filter fun p => decide (p ≠ g)).map PyData.int := by
  induction ps with
  | nil => rfl
  | cons r t ih =>
    by_cases c : r ≠ g
    · rw [List.filterMap_cons_some (by rw [if_pos c]), List.filter_cons_of_pos (by exact decide_eq_true c), List.map_cons, ih]
    · rw [List.filterMap_cons_none (by rw [if_neg c]), List.filter_cons_of_neg (by simpa using c), ih]
theorem evRow_of {C : Addr} {w : World} {K : PySem.W.Frag} {intf name : Str} {ar : Addr} {ks : List Str} (rows : List (Str × List Str)) (j : Nat) (d : KDct K w C intf (.ref ar)) (dp : ∀ H, Dp K H (.ref ar) (evD rows)) (hl : rows.length < 1000) (hj : rows[j]? = some (name, ks)) (hm : ((rows.take j).all fun r => decide (r.1 ≠ name)) = true) : EvRow C w K intf name j ks := by
  refine ⟨ar, rows, d, dp, hl, hj, fun m row' hlt hr => ?_⟩
  rw [List.all_eq_true] at hm
  have : row' ∈ rows.take j := List.mem_of_getElem? (i := m) (by rw [List.getElem?_take, if_pos hlt]; exact hr)
  exact of_decide_eq_true (hm row' this)
/-! ### what only adds to the view and the heap -/
structure Pu (U H U' H' : Hp) : Prop where
  vv : Same U U'
  vh : Same U' H'
  out : ∀ b, U b = none → H b ≠ none → U' b = none
  nn : ∀ b, H' b = none → H b = none
  kp : ∀ b, H b ≠ none → H' b = H b
theorem Pu.refl {U H : Hp} (s : Same U H) : Pu U H U H := ⟨Same.refl U, s, fun _ h _ => h, fun _ h => h, fun _ _ => rfl⟩
theorem Pu.trans {U H U1 H1 U2 H2 : Hp} (a : Pu U H U1 H1) (b : Pu U1 H1 U2 H2) : Pu U H U2 H2 := by
  obtain ⟨a1, a2, a3, a4, a5⟩ := a
  obtain ⟨b1, b2, b3, b4, b5⟩ := b
  exact ⟨a1.trans b1, b2, by walk_at "h", by walk_at "h", by walk_at "h"⟩
theorem Pu.new {U H : Hp} (s : Same U H) {p : Addr} {o : HO} (h : H p = none) : Pu U H (upd U p o) (upd H p o) :=
  ⟨by walk_at "h", by walk_at "h", by walk_at "h", by walk_at "h", by walk_at "h"⟩
theorem Pu.skip {U H : Hp} (s : Same U H) {p : Addr} {o : HO} (h : H p = none) : Pu U H U (upd H p o) :=
  ⟨Same.refl U, by walk_at "h", fun _ h _ => h, by walk_at "h", by walk_at "h"⟩
theorem _root_.My.Ext.pu {U H U' H' : Hp} (x : Ext U H U' H') : Pu U H U' H' := by
  obtain ⟨x1, x2, x3, x4⟩ := x
  refine ⟨x1, x2, fun b h n => ?_, by walk_at "h", by walk_at "h"⟩
  cases e : U' b with
  | none => rfl
  | some u => exact ((x4 b (by rw [e]; exact fun z => by cases z)).elim (fun z => absurd h z) (fun z => absurd z n))
/-- an object at f is changed, and others added -/
structure Ch (U H U' H' : Hp) (cs : List Addr) : Prop where
  vv : Same U U'
  vh : Same U' H'
  out : ∀ b, U b = none → H b ≠ none → U' b = none
  nn : ∀ b, H' b = none → H b = none
  kp : ∀ b, b ∉ cs → H b ≠ none → H' b = H b
theorem Pu.ch {U H U' H' : Hp} (x : Pu U H U' H') (cs : List Addr) : Ch U H U' H' cs := ⟨x.vv, x.vh, x.out, x.nn, fun b _ h => x.kp b h⟩
theorem Ch.trans {U H U1 H1 U2 H2 : Hp} {cs : List Addr} (a : Ch U H U1 H1 cs) (b : Ch U1 H1 U2 H2 cs) : Ch U H U2 H2 cs := by
  obtain ⟨a1, a2, a3, a4, a5⟩ := a
  obtain ⟨b1, b2, b3, b4, b5⟩ := b
  exact ⟨a1.trans b1, b2, by walk_at "h", by walk_at "h", by walk_at "h"⟩
theorem Ch.mono {U H U' H' : Hp} {cs ds : List Addr} (a : Ch U H U' H' cs) (h : ∀ x ∈ cs, x ∈ ds) : Ch U H U' H' ds := ⟨a.vv, a.vh, a.out, a.nn, fun b hb n => a.kp b (fun z => hb (h b z)) n⟩
theorem Ch.poke {U H : Hp} (s : Same U H) {a : Addr} {o : HO} (hu : U a = none) (cs : List Addr) (h : a ∈ cs) : Ch U H U (upd H a o) cs :=
  ⟨Same.refl U, by walk_at "h", fun _ h _ => h, by walk_at "h", fun b hb n => upd_ne (fun z => hb (by rw [z]; exact h))⟩
/-! ### Fault.__init__, and a Fault that is raised -/
def ffF (n c : Int) (wd : Str) : List (Str × V) := [("words", .str wd), ("code", .int c), ("number", .int n)]
def sp_Fault___init__ (C : Addr) : Sp := fun vs H Q _ => ∃ (a : Addr) (n c : Int) (wd : Str), vs = [.ref a, .int n, .int c, .str wd] ∧ H a = some (exo a C none) ∧
  ∀ (dx : Addr) (H' : Hp), H dx = none → (∀ b, b ≠ a → H b ≠ none → H' b = H b) → (∀ b, H' b = none → H b = none) → ExV H' a C dx (ffF n c wd) → Q .non H'
theorem sc_Fault___init__ : SupScope ["self", "number", "code", "words"] ["self", "number", "code", "words"] (defScope s_Fault___init__) := ⟨rfl, rfl, rfl, by decide +kernel, rfl, by decide +kernel, by decide +kernel, by decide +kernel, rfl, rfl⟩
theorem ok_Fault___init__ (T : Txt0 P K mg A) : FnOk P w K mg base CX0 1 A.fFault___init__ A.dFault___init__ ["self", "number", "code", "words"] (sp_Fault___init__ A.CFault) := by
  refine T.FFault___init__.ok T.prg (ar := _) (rest := _) sc_Fault___init__ (fun vs H Q E h => ?_) rfl rfl rfl T.super (fun _ _ _ => rfl) (fun _ => rfl) (fun _ => rfl) (fun cc cda Ar outer s H vs Q E hr h => ?_)
  · obtain ⟨_, _, _, _, rfl, _⟩ := h
    rfl
  · obtain ⟨a, n, c, wd, rfl, ea, q⟩ := h
    replace q := Hid.mk q
    refine ⟨_, _, a, A.CFault, _, pa_cons (pv 3) pa_nil, pss_cons (ps_ost (pv 0) (pv 1)) (pss_cons (ps_ost (pv 0) (pv 2)) (pss_one (ps_ost (pv 0) (pv 3)))), rfl, ea, T.vFault, ?_⟩
    refine ⟨_, rfl, (by show 1 ≤ 1000; decide), ea, ?_⟩
    refine ⟨_, rfl, _, rfl, a, A.CFault, rfl, T.oFault, T.nFault_number, .inl ⟨ea, fun dx hdx hne => ?_⟩⟩
    have o1 : (upd (upd H dx (exd dx [("number", .int n)])) a (exo a A.CFault (some dx))) a = some (exo a A.CFault (some dx)) := upd_same
    have d1 : (upd (upd H dx (exd dx [("number", .int n)])) a (exo a A.CFault (some dx))) dx = some (exd dx [("number", .int n)]) := by rw [upd_ne hne, upd_same]
    have k1 : ∀ b, b ≠ a → H b ≠ none → (upd (upd H dx (exd dx [("number", .int n)])) a (exo a A.CFault (some dx))) b = H b := by walk_at "h"
    have m1 : ∀ b, (upd (upd H dx (exd dx [("number", .int n)])) a (exo a A.CFault (some dx))) b = none → H b = none := by walk_at "h"
    generalize upd (upd H dx (exd dx [("number", .int n)])) a (exo a A.CFault (some dx)) = H1 at o1 d1 k1 m1 ⊢
    refine ⟨_, rfl, _, rfl, a, A.CFault, rfl, T.oFault, T.nFault_code, .inr ⟨dx, _, o1, d1, (by show 1 ≤ 900; decide), ?_⟩⟩
    have o2 : (upd H1 dx (exd dx [("code", .int c), ("number", .int n)])) a = some (exo a A.CFault (some dx)) := by rw [upd_ne hne.symm]; exact o1
    refine ⟨_, rfl, _, rfl, a, A.CFault, rfl, T.oFault, T.nFault_words, .inr ⟨dx, _, o2, upd_same, (by show 2 ≤ 900; decide), ?_⟩⟩
    refine q.go dx _ hdx ?_ ?_ ⟨by rw [upd_ne hne.symm]; exact o2, upd_same⟩
    · intro b hb hn
      have hbd : b ≠ dx := fun z => hn (by rw [z]; exact hdx)
      rw [upd_ne hbd, upd_ne hbd]; exact k1 b hb hn
    · intro b hb
      by_cases hbd : b = dx
      · rw [hbd]; exact hdx
      · rw [upd_ne hbd, upd_ne hbd] at hb; exact m1 b hb
/-- the raising's reading, told shortly -/
theorem fault_go {C : Addr} {H : Hp} {n c : Int} {wd : Str} {E : XK} (q : ∀ (d : Addr) (H' : Hp), H d = none → H' d = some (.xd (ffF n c wd)) → (∀ b, H b ≠ none → H' b = H b) → (∀ b, b ≠ d → H' b = none → H b = none) → E (.ref C) (some d) H') :
    ∀ a, H a = none → sp_Fault___init__ C [.ref a, .int n, .int c, .str wd] (upd H a (exo a C none)) (fun v H2 => v = .non ∧ ∃ (d : Addr) (fs : List (Str × V)), H2 a = some (exo a C (some d)) ∧ H2 d = some (exd d fs) ∧ H d = none ∧ E (.ref C) (some d) (upd (del H2 a) d (.xd fs))) (fun _ _ _ => False) := by
  intro a ha
  refine ⟨a, n, c, wd, rfl, upd_same, fun dx H' hdx k m ev => ⟨rfl, dx, _, ev.ob, ev.di, ?_, ?_⟩⟩
  · have : dx ≠ a := fun z => by rw [z, upd_same] at hdx; cases hdx
    rw [upd_ne this] at hdx; exact hdx
  · have hda : dx ≠ a := fun z => by rw [z, upd_same] at hdx; cases hdx
    rw [upd_ne hda] at hdx
    refine q dx _ hdx upd_same (fun b hb => ?_) (fun b hbd hb => ?_)
    · have h1 : b ≠ dx := fun z => hb (by rw [z]; exact hdx)
      have h2 : b ≠ a := fun z => hb (by rw [z]; exact ha)
      rw [upd_ne h1, del_ne h2, k b h2 (by rw [upd_ne h2]; exact hb), upd_ne h2]
    · rw [upd_ne hbd] at hb
      by_cases h2 : b = a
      · rw [h2]; exact ha
      · rw [del_ne h2] at hb
        have := m b hb
        rw [upd_ne h2] at this; exact this
/-! ### a Reply -/
def rpF (t e w a : V) : List (Str × V) := [("told", t), ("ended", e), ("wishes", w), ("applied", a)]
def tsD (ts : List (List Int)) : PyData := .list (ts.map pInts)
theorem sh_ts (ts : List (List Int)) : Sh 2 (tsD ts) := sh_list fun d hd => by
  obtain ⟨n, _, rfl⟩ := List.mem_map.mp hd
  exact sh_ints n
structure Rp (C : Addr) (K : PySem.W.Frag) (U H : Hp) (o lt le lw : Addr) (ts : List (List Int)) (es : List Int) (ws : List PyData) : Prop where
  ob : ∃ dx va, H o = some (.ins C dx [("told", .ref lt), ("ended", .ref le), ("wishes", .ref lw), ("applied", va)])
  uo : U o = none
  ut : U lt = none
  ue : U le = none
  uw : U lw = none
  n1 : lt ≠ le
  n2 : lt ≠ lw
  n3 : le ≠ lw
  t : ∃ ys, H lt = some (.lst ys) ∧ DpAll K U ys (ts.map pInts)
  e : H le = some (.lst (es.map V.int))
  w : ∃ ys, H lw = some (.lst ys) ∧ DpAll K U ys ws
theorem Rp.frame {C : Addr} {K : PySem.W.Frag} {U H U' H' : Hp} {o lt le lw : Addr} {ts : List (List Int)} {es : List Int} {ws : List PyData} (h : Rp C K U H o lt le lw ts es ws) (s : Same U U')
    (k : ∀ b, H b ≠ none → U b = none → (b = o ∨ b = lt ∨ b = le ∨ b = lw) → U' b = none ∧ H' b = H b) : Rp C K U' H' o lt le lw ts es ws := by
  obtain ⟨dx, va, e1⟩ := h.ob
  obtain ⟨yt, e2, d2⟩ := h.t
  obtain ⟨yw, e4, d4⟩ := h.w
  have e3 := h.e
  have k1 := k _ (by rw [e1]; exact fun z => by cases z) h.uo (.inl rfl)
  have k1 := (show _ ∧ _ = _ from ⟨k1.1, k1.2.trans e1⟩)
  have k2 := k _ (by rw [e2]; exact fun z => by cases z) h.ut (.inr (.inl rfl))
  have k2 := (show _ ∧ _ = _ from ⟨k2.1, k2.2.trans e2⟩)
  have k3 := k _ (by rw [e3]; exact fun z => by cases z) h.ue (.inr (.inr (.inl rfl)))
  have k3 := (show _ ∧ _ = _ from ⟨k3.1, k3.2.trans e3⟩)
  have k4 := k _ (by rw [e4]; exact fun z => by cases z) h.uw (.inr (.inr (.inr rfl)))
  have k4 := (show _ ∧ _ = _ from ⟨k4.1, k4.2.trans e4⟩)
  exact ⟨⟨dx, va, k1.2⟩, k1.1, k2.1, k3.1, k4.1, h.n1, h.n2, h.n3, ⟨yt, k2.2, d2.to s⟩, k3.2, ⟨yw, k4.2, d4.to s⟩⟩
def sp_Reply_tell (CE : Addr) (w : World) (C : Addr) (K : PySem.W.Frag) : Sp := fun vs H Q _ => ∃ (o lt le lw va : Addr) (n : Int) (intf name : Str) (ts : List (List Int)) (es : List Int) (ws : List PyData) (os : List Int) (U : Hp), vs = [.ref o, .int n, .str intf, .str name, .ref va] ∧ Same U H ∧ Rp C K U H o lt le lw ts es ws ∧ EvAt CE w K H n intf name va os ∧ ts.length ≤ 1000 ∧
  ∀ U' H', Same U U' → Same U' H' → (∀ b, U b = none → H b ≠ none → U' b = none) → (∀ b, H' b = none → H b = none) → (∀ b, b ≠ lt → H b ≠ none → H' b = H b) → Rp C K U' H' o lt le lw (ts ++ [os]) es ws → Q .non H'
theorem sc_Reply_tell : FnScope ["self", "number", "interface", "name", "values"] ["self", "number", "interface", "name", "values"] (defScope s_Reply_tell) := ⟨rfl, rfl, rfl, by decide +kernel, rfl, by decide +kernel, by decide +kernel⟩
theorem ok_Reply_tell (T : Txt0 P K mg A) : FnOk P w K mg base CX0 9 A.fReply_tell A.dReply_tell ["self", "number", "interface", "name", "values"] (sp_Reply_tell A.a_EVENTS w A.CReply K) := by
  refine T.FReply_tell.ok sc_Reply_tell (fun vs H Q E h => ?_) (fun cdv Ar outer s H vs Q E hr h => ?_)
  · obtain ⟨_, _, _, _, _, _, _, _, _, _, _, _, _, rfl, _⟩ := h
    rfl
  · obtain ⟨o, lt, le, lw, va, n, intf, name, ts, es, ws, os, U, rfl, sU, R, ev, hl, q⟩ := h
    obtain ⟨dx, wa, e1⟩ := R.ob
    obtain ⟨yt, et, dt⟩ := R.t
    have hyl : yt.length = ts.length := by rw [dpall_len dt, List.length_map]
    refine ⟨_, (pss_one (ps_expr (pe_bm PySem.F.plainAttrs_list PySem.F.slot_list_append PySem.F.type_list_append mt_append (pe_fldC T.clReply T.nReply_told (pv 0) rfl) (pa_cons (pe_call (ok_event_octets T) (hr.mono (by decide)) rfl T.gevent_octets T.kevent_octets T.bevent_octets .nil passL (pa_cons (pv 1) (pa_cons (pv 2) (pa_cons (pv 3) (pa_cons (pv 4) pa_nil))))) pa_nil)))), ?_⟩
    walk_at "gf"
    unfold tNil
    dsimp only
    refine ev.go fun p H2 n2 => ?_
    have np := n2.new
    have ns := n2.same
    have na := n2.at_
    have no : o ≠ lt := ne_of e1 et (by intro z; cases z)
    have s2 : Same U (upd U p (.lst (os.map V.int))) := by walk_at "h"
    have e2 : H2 lt = some (.lst yt) := ns _ _ et
    refine ⟨lt, _, _, rfl, rfl, e2, Nat.lt_of_lt_of_le (m := 100000) (by omega) (by decide), ?_⟩
    have hu := R.ut
    have k1 : ∀ b, b ≠ lt → H b ≠ none → (upd H2 lt (.lst (yt ++ [.ref p]))) b = H b := by walk_at "h"
    refine q (upd U p (.lst (os.map V.int))) _ s2 (by walk_at "h") (by walk_at "h") (by walk_at "nn") k1 ?_
    have R2 : Rp A.CReply K (upd U p (.lst (os.map V.int))) H2 o lt le lw ts es ws := R.frame s2 (by walk_at "h")
    obtain ⟨wx, e4, d4⟩ := R2.w
    have e3 := R2.e
    exact ⟨⟨dx, wa, by walk_at "h"⟩, R2.uo, R2.ut, R2.ue, R2.uw, R2.n1, R2.n2, R2.n3, ⟨_, upd_same, by rw [List.map_append]; exact dpall_app (dt.to s2) (.cons (dp_ints (SqL.of upd_same)) .nil)⟩, by rw [upd_ne R2.n1.symm]; exact e3, ⟨wx, by rw [upd_ne R2.n2.symm]; exact e4, d4⟩⟩
def sp_Reply___init__ (C : Addr) (K : PySem.W.Frag) : Sp := fun vs H Q _ => ∃ (o dx : Addr) (U : Hp), vs = [.ref o] ∧ H o = some (.ins C dx []) ∧ Same U H ∧ U o = none ∧ ∀ (p1 p2 p3 : Addr) (H' : Hp), Same U H' → (∀ b, b ≠ o → H b ≠ none → H' b = H b) → (∀ b, H' b = none → H b = none) → H p1 = none → H p2 = none → H p3 = none →
  Rp C K U H' o p1 p2 p3 [] [] [] → Q .non H'
theorem sc_Reply___init__ : FnScope ["self"] ["self"] (defScope s_Reply___init__) := ⟨rfl, rfl, rfl, by decide +kernel, rfl, by decide +kernel, by decide +kernel⟩
theorem ok_Reply___init__ (T : Txt0 P K mg A) : FnOk P w K mg base CX0 1 A.fReply___init__ A.dReply___init__ ["self"] (sp_Reply___init__ A.CReply K) := by
  refine T.FReply___init__.ok sc_Reply___init__ (fun vs H Q E h => ?_) (fun cdv Ar outer st H vs Q E hr h => ?_)
  · obtain ⟨_, _, _, rfl, _⟩ := h
    rfl
  · obtain ⟨ob, dx, U, rfl, ho, sU, uo, q⟩ := h
    refine ⟨_, (pss_cons (ps_fldC T.clReply T.nReply_told (pv 0) (pe_lst pa_nil) rfl)
      (pss_cons (ps_fldC T.clReply T.nReply_ended (pv 0) (pe_lst pa_nil) rfl)
      (pss_cons (ps_fldC T.clReply T.nReply_wishes (pv 0) (pe_lst pa_nil) rfl)
      (pss_one (ps_fldC T.clReply T.nReply_applied (pv 0) (pe_lst pa_nil) rfl))))), ?_⟩
    refine ⟨len_line (by show 0 ≤ 100000; decide), fun p1 n1 => ?_⟩
    have e1 : (upd H p1 (.lst [])) ob = some (.ins A.CReply dx []) := by walk_at "h"
    walk_at "gf"
    intro H1 f1 k1
    refine ⟨len_line (by show 0 ≤ 100000; decide), fun p2 n2 => ?_⟩
    have e2 : (upd H1 p2 (.lst [])) ob = some (.ins A.CReply dx _) := (same_upd n2) _ _ f1
    walk_at "gf"
    intro H2 f2 k2
    refine ⟨len_line (by show 0 ≤ 100000; decide), fun p3 n3 => ?_⟩
    have e3 : (upd H2 p3 (.lst [])) ob = some (.ins A.CReply dx _) := (same_upd n3) _ _ f2
    walk_at "gf"
    intro H3 f3 k3
    refine ⟨len_line (by show 0 ≤ 100000; decide), fun p4 n4 => ?_⟩
    have e4 : (upd H3 p4 (.lst [])) ob = some (.ins A.CReply dx _) := (same_upd n4) _ _ f3
    walk_at "gf"
    intro H4 f4 k4
    have z1 : p1 ≠ ob := by walk_at "h"
    have z2 : p2 ≠ ob := by walk_at "h"
    have z3 : p3 ≠ ob := by walk_at "h"
    have z4 : p4 ≠ ob := by walk_at "h"
    have g1 : H1 p1 = some (.lst []) := by walk_at "h"
    have g12 : p1 ≠ p2 := by walk_at "h"
    have g2 : H2 p1 = some (.lst []) ∧ H2 p2 = some (.lst []) := by walk_at "h"
    have g13 : p1 ≠ p3 := by walk_at "h"
    have g23 : p2 ≠ p3 := by walk_at "h"
    have g3 : H3 p1 = some (.lst []) ∧ H3 p2 = some (.lst []) ∧ H3 p3 = some (.lst []) := by walk_at "h"
    have g4 : H4 p1 = some (.lst []) ∧ H4 p2 = some (.lst []) ∧ H4 p3 = some (.lst []) := by walk_at "h"
    have m1 : ∀ b, b ≠ ob → H b ≠ none → H1 b = H b := by walk_at "h"
    have m2 : ∀ b, b ≠ ob → H b ≠ none → H2 b = H b := by walk_at "h"
    have m3 : ∀ b, b ≠ ob → H b ≠ none → H3 b = H b := by walk_at "h"
    have m4 : ∀ b, b ≠ ob → H b ≠ none → H4 b = H b := by walk_at "h"
    have f1' : H p1 = none := by walk_at "h"
    have f2' : H p2 = none := by walk_at "h"
    have f3' : H p3 = none := by walk_at "h"
    have sm : Same U H4 := by walk_at "h"
    refine q p1 p2 p3 H4 sm m4 (by walk_at "nn") f1' f2' f3' ⟨⟨dx, _, f4⟩, uo, sU.free f1', sU.free f2', sU.free f3', g12, g13, g23, ⟨[], g4.1, .nil⟩, g4.2.1, ⟨[], g4.2.2, .nil⟩⟩
/-! ### arguments of events -/
def argU (i : Int) : Arg := ⟨"uint", .num i, octs (i % 4294967296) 4⟩
def argI (i : Int) : Arg := ⟨"int", .num i, octs (i % 4294967296) 4⟩
def argO (i : Int) : Arg := ⟨"object", .num i, octs (i % 4294967296) 4⟩
def argT (s : Str) : Arg := ⟨"text", .txt s, textOcts s⟩
def u32 (i : Int) : Prop := 0 ≤ i ∧ i ≤ 4294967295
def okArgs : List Arg → Prop
  | [] => True
  | g :: r => (ArgSpec g.kind g.val true g.os ∧ g.os.length ≤ 60) ∧ okArgs r
theorem okArgs.at : ∀ {gs : List Arg}, okArgs gs → (∀ g ∈ gs, ArgSpec g.kind g.val true g.os ∧ g.os.length ≤ 60)
  | [], _ => fun g h => by cases h
  | g :: r, h => fun x hx => by
    rcases List.mem_cons.mp hx with rfl | hx
    · exact h.1
    · exact okArgs.at h.2 x hx
theorem okU {i : Int} (h : u32 i) : ArgSpec (argU i).kind (argU i).val true (argU i).os ∧ (argU i).os.length ≤ 60 := ⟨uintOk h, by show (octs _ 4).length ≤ 60; rw [octs_len]; decide⟩
theorem okO {i : Int} (h : 1 ≤ i ∧ i ≤ 4294967295) : ArgSpec (argO i).kind (argO i).val true (argO i).os ∧ (argO i).os.length ≤ 60 := ⟨objOk h, by show (octs _ 4).length ≤ 60; rw [octs_len]; decide⟩
theorem okI {i : Int} (h : -2147483648 ≤ i ∧ i ≤ 2147483647) : ArgSpec (argI i).kind (argI i).val true (argI i).os ∧ (argI i).os.length ≤ 60 := ⟨intOk h, by show (octs _ 4).length ≤ 60; rw [octs_len]; decide⟩
theorem okT {s : Str} (h : isText s = true) (l : s.length ≤ 50) : ArgSpec (argT s).kind (argT s).val true (argT s).os ∧ (argT s).os.length ≤ 60 := ⟨txtOk h, by show (textOcts s).length ≤ 60; have := textOcts_len s; omega⟩
theorem EvRow.evA {C : Addr} {w : World} {K : PySem.W.Frag} {intf name : Str} {j : Nat} {ks : List Str} (h : EvRow C w K intf name j ks) {H : Hp} {n : Int} {va : Addr} {xs : List V} (args : List Arg) (hn : 1 ≤ n ∧ n ≤ 4294967295) (hj : j ≤ 1000) (hk : args.map Arg.kind = ks) (h20 : args.length ≤ 20)
    (e : H va = some (.lst xs)) (hx : AllAt K H xs args) (ok : okArgs args) : EvAt C w K H n intf name va (msgOcts n j (bodyOf args)) := by
  have q := ok.at
  refine h.ev args hn hj hk h20 (SqL.of e) hx (fun g hg => (q g hg).1) ?_
  have := body_len_le (args := args) (c := 60) (fun g hg => (q g hg).2)
  have : 60 * args.length ≤ 60 * 20 := Nat.mul_le_mul_left _ h20
  omega
/-! ### captures -/
def sp_Request___init__ (C : Addr) : Sp := fun vs H Q _ => ∃ (a dx : Addr) (n : Int) (i m : Str) (va : V) (e : Bool), vs = [.ref a, .int n, .str i, .str m, va, .bl e] ∧ H a = some (.ins C dx []) ∧ ∀ H' : Hp, H' a = some (.ins C dx [("number", .int n), ("interface", .str i), ("name", .str m), ("arguments", va), ("ends", .bl e)]) → (∀ b, b ≠ a → H' b = H b) → Q .non H'
theorem sc_Request___init__ : FnScope ["self", "number", "interface", "name", "arguments", "ends"] ["self", "number", "interface", "name", "arguments", "ends"] (defScope s_Request___init__) := ⟨rfl, rfl, rfl, by decide +kernel, rfl, by decide +kernel, by decide +kernel⟩
theorem ok_Request___init__ (T : Txt0 P K mg A) : FnOk P w K mg base CX0 1 A.fRequest___init__ A.dRequest___init__ ["self", "number", "interface", "name", "arguments", "ends"] (sp_Request___init__ A.CRequest) := by
  refine T.FRequest___init__.ok sc_Request___init__ (fun vs H Q E h => ?_) (fun cdv Ar outer st H vs Q E hr h => ?_)
  · obtain ⟨_, _, _, _, _, _, _, rfl, _⟩ := h
    rfl
  · obtain ⟨a, dx, n, i, m, va, e, rfl, ho, q⟩ := h
    replace q := Hid.mk q
    refine ⟨_, (pss_cons (ps_fldC T.clRequest T.nRequest_number (pv 0) (pv 1) rfl)
      (pss_cons (ps_fldC T.clRequest T.nRequest_interface (pv 0) (pv 2) rfl)
      (pss_cons (ps_fldC T.clRequest T.nRequest_name (pv 0) (pv 3) rfl)
      (pss_cons (ps_fldC T.clRequest T.nRequest_arguments (pv 0) (pv 4) rfl)
      (pss_one (ps_fldC T.clRequest T.nRequest_ends (pv 0) (pv 5) rfl)))))), ?_⟩
    walk_at "gf"
    intro H1 f1 k1
    walk_at "gf"
    intro H2 f2 k2
    walk_at "gf"
    intro H3 f3 k3
    walk_at "gf"
    intro H4 f4 k4
    walk_at "gf"
    intro H5 f5 k5
    exact q.go H5 f5 (fun b hb => by rw [k5 b hb, k4 b hb, k3 b hb, k2 b hb, k1 b hb])
structure Rq (C : Addr) (H : Hp) (r : Addr) (n : Int) (i m : Str) (va : V) : Prop where
  ob : ∃ dx e, H r = some (.ins C dx [("number", .int n), ("interface", .str i), ("name", .str m), ("arguments", va), ("ends", .bl e)])
/-- a Fault goes up -/
def FaultTo (A : Adr) (H : Hp) (E : XK) (n c : Int) (wd : Str) : Prop := ∀ dd H', H dd = none → H' dd = some (.xd (ffF n c wd)) → (∀ b, H b ≠ none → H' b = H b) → (∀ b, b ≠ dd → H' b = none → H b = none) → E (.ref A.CFault) (some dd) H'
def sp_Captures_make (A : Adr) : Sp := fun vs H Q E => ∃ (cp dx d r la : Addr) (n0 number w h : Int) (i m : Str) (x1 x2 x3 : V) (kvs : List (Key × V)), vs = [.ref cp, .ref r] ∧ H cp = some (.ins A.CCaptures dx [("_pictures", .ref d)]) ∧ H d = some (.dK kvs) ∧ Rq A.CRequest H r n0 i m (.ref la) ∧ H la = some (.lst [.int number, x1, x2, x3, .int w, .int h]) ∧
  0 ≤ w ∧ w ≤ 1000 ∧ 0 ≤ h ∧ h ≤ 1000 ∧ kvs.length ≤ 2 ∧
  ((w = 0 ∨ h = 0) → FaultTo A H E n0 4 "empty picture") ∧
  (¬ (w = 0 ∨ h = 0) → (256 < w ∨ 256 < h ∨ 4096 < w * h ∨ 2 ≤ kvs.length) → FaultTo A H E n0 2 "too much") ∧
  (¬ (w = 0 ∨ h = 0) → ¬ (256 < w ∨ 256 < h ∨ 4096 < w * h ∨ 2 ≤ kvs.length) → Q .non (upd H d (.dK (putK kvs (.inl number) .non))))
theorem sc_Captures_make : FnScope ["self", "request", "number", "_", "width", "height"] ["self", "request"] (defScope s_Captures_make) := ⟨rfl, rfl, rfl, by decide +kernel, rfl, by decide +kernel, by decide +kernel⟩
theorem ok_Captures_make (T : Txt0 P K mg A) : FnOk P w K mg base (L2.CX P w) 3 A.fCaptures_make A.dCaptures_make ["self", "request"] (sp_Captures_make A) := by
  refine T.FCaptures_make.okX sc_Captures_make (fun vs H Q E h => ?_) (fun cdv Ar outer st H vs Q E hr h => ?_)
  · obtain ⟨_, _, _, _, _, _, _, _, _, _, _, _, _, _, _, rfl, _⟩ := h
    rfl
  · obtain ⟨cp, dx, d, r, la, n0, number, w, h, i, m, x1, x2, x3, kvs, rfl, ecp, ed, ⟨dxr, er, erq⟩, ela, hw0, hw1, hh0, hh1, hk, q1, q2, q3⟩ := h
    replace q1 := Hid.mk q1
    replace q2 := Hid.mk q2
    replace q3 := Hid.mk q3
    refine ⟨_, (pss_cons (ps_asg (pe_fldC T.clRequest T.nRequest_arguments (pv 1) rfl) (pg_unl rfl (pgs_cons (pg_name (i := 2) sc_Captures_make.nd rfl (Or.inl rfl)) (pgs_cons (pg_name (i := 3) sc_Captures_make.nd rfl (Or.inl rfl)) (pgs_cons (pg_name (i := 3) sc_Captures_make.nd rfl (Or.inl rfl)) (pgs_cons (pg_name (i := 3) sc_Captures_make.nd rfl (Or.inl rfl)) (pgs_cons (pg_name (i := 4) sc_Captures_make.nd rfl (Or.inl rfl)) (pgs_cons (pg_name (i := 5) sc_Captures_make.nd rfl (Or.inl rfl)) pgs_nil))))))))
      (pss_cons (ps_if (PW.pt (pw_or (pt_cmpR op_eq (pv 4) pe_int (nomark _)) (pw_or1 (pt_cmpR op_eq (pv 5) pe_int (nomark _)))))
      (pss_one (ps_raise rfl (takes_of rfl rfl rfl rfl) (pmk_oex T.oFault T.MFault T.TFault (ok_Fault___init__ T) (hr.mono (by decide)) T.bFault___init__ .nil pass0 (by rfl) T.gFault (pa_cons (pe_fldC T.clRequest T.nRequest_number (pv 1) rfl) (pa_cons pe_int (pa_cons pe_str pa_nil))))))
      pss_nil)
      (pss_cons (ps_if (PW.pt (pw_or (pt_cmpR op_gt (pe_callB (call_max2 rfl) (by rfl) T.max (by decide +kernel) (pa_cons (pv 4) (pa_cons (pv 5) pa_nil))) (pe_glob (v := .int (256)) rfl T.gLONGEST_SIDE ⟨_, rfl⟩) (nomark _)) (pw_or (pt_cmpR op_gt (pe_op op_mul (pv 4) (pv 5)) (pe_glob (v := .int (4096)) rfl T.gMOST_PIXELS ⟨_, rfl⟩) (nomark _)) (pw_or1 (pt_cmpR op_ge (pe_callB call_lenD (by rfl) T.len PySem.boot_len (pa_cons (pe_fldC T.clCaptures T.nCaptures__pictures (pv 0) rfl) pa_nil)) (pe_glob (v := .int (2)) rfl T.gMOST_CAPTURES ⟨_, rfl⟩) (nomark _))))))
      (pss_one (ps_raise rfl (takes_of rfl rfl rfl rfl) (pmk_oex T.oFault T.MFault T.TFault (ok_Fault___init__ T) (hr.mono (by decide)) T.bFault___init__ .nil pass0 (by rfl) T.gFault (pa_cons (pe_fldC T.clRequest T.nRequest_number (pv 1) rfl) (pa_cons pe_int (pa_cons pe_str pa_nil))))))
      pss_nil)
      (pss_one (ps_dput (hu_of hr) (pe_fldC T.clCaptures T.nCaptures__pictures (pv 0) rfl) (pv 2) pe_non rfl))))), ?_⟩
    walk_at "gf"
    apply useR (C := w = 0 ∨ h = 0)
    · intro rr bb
      refine iteEq (fun c => bb (.inl c)) (fun c => ?_)
      walk_at "gf"
      exact iteEq (fun c2 => bb (.inr c2)) (fun c2 => rr (fun z => z.elim c c2))
    · intro hn
      walk_at "gf"
      apply useR (C := 256 < w ∨ 256 < h ∨ 4096 < w * h ∨ 2 ≤ kvs.length)
      · intro rr bb
        refine iteP (fun c => ?_) (fun c => ?_)
        · refine bb ?_
          split at c <;> omega
        · have c' : ¬ 256 < w ∧ ¬ 256 < h := by split at c <;> omega
          walk_at "gf"
          refine iteP (fun c2 => bb (.inr (.inr (.inl c2)))) (fun c2 => ?_)
          walk_at "gf"
          refine ⟨d, kvs, rfl, ed, ?_⟩
          walk_at "gf"
          exact iteP (fun c3 => bb (.inr (.inr (.inr (by omega))))) (fun c3 => rr (by omega))
      · intro hn2
        walk_at "gf"
        exact ⟨d, _, rfl, DPut.k (k := .inl number) ed (Nat.lt_of_lt_of_le (m := 100000) (by omega) (by decide)), q3.go hn hn2⟩
      · intro hc
        walk_at "gf"
        exact ⟨by show 3 ≤ 1000; decide, fault_go (fun dd H' h1 h2 h3 h4 => q2.go hn hc dd H' h1 h2 h3 h4)⟩
    · intro hc
      walk_at "gf"
      exact ⟨by show 3 ≤ 1000; decide, fault_go (fun dd H' h1 h2 h3 h4 => q1.go hc dd H' h1 h2 h3 h4)⟩
/-! ### the pictures, in words of their model -/
abbrev Pc := Int × Int × List Int
def PicV (K : PySem.W.Frag) (U : Hp) : V → Option Pc → Prop
  | v, none => v = .non
  | v, some (w, h, os) => ∃ t o, v = .ref t ∧ SqT K U t [.int w, .int h, .ref o] ∧ U o = some (.lst (os.map V.int)) ∧ os.length ≤ 20000
theorem PicV.to {K : PySem.W.Frag} {U U' : Hp} {v : V} {p : Option Pc} (h : PicV K U v p) (s : Same U U') : PicV K U' v p := by
  cases p with
  | none => exact h
  | some p =>
    obtain ⟨t, o, e, a, b, c⟩ := h
    exact ⟨t, o, e, s.sqt a, s _ _ b, c⟩
def PsR (K : PySem.W.Frag) (U : Hp) : List (Key × V) → List (Int × Option Pc) → Prop
  | [], [] => True
  | kv :: r, p :: s => kv.1 = .inl p.1 ∧ PicV K U kv.2 p.2 ∧ PsR K U r s
  | _, _ => False
theorem PsR.to {K : PySem.W.Frag} {U U' : Hp} (s : Same U U') : ∀ {kvs : List (Key × V)} {ps : List (Int × Option Pc)}, PsR K U kvs ps → PsR K U' kvs ps
  | [], [], _ => trivial
  | _ :: _, _ :: _, ⟨a, b, c⟩ => ⟨a, b.to s, PsR.to s c⟩
  | [], _ :: _, h => h.elim
  | _ :: _, [], h => h.elim
theorem PsR.len {K : PySem.W.Frag} {U : Hp} : ∀ {kvs : List (Key × V)} {ps : List (Int × Option Pc)}, PsR K U kvs ps → kvs.length = ps.length
  | [], [], _ => rfl
  | _ :: _, _ :: _, ⟨_, _, c⟩ => congrArg (· + 1) c.len
  | [], _ :: _, h => h.elim
  | _ :: _, [], h => h.elim
def pFind (ps : List (Int × Option Pc)) (n : Int) : Option (Option Pc) := (ps.find? fun p => decide (p.1 = n)).map (·.2)
theorem PsR.val {K : PySem.W.Frag} {U : Hp} (n : Int) : ∀ {kvs : List (Key × V)} {ps : List (Int × Option Pc)}, PsR K U kvs ps →
    (valV kvs (.inl n) = none ∧ pFind ps n = none) ∨ ∃ v p, valV kvs (.inl n) = some v ∧ pFind ps n = some p ∧ PicV K U v p
  | [], [], _ => .inl ⟨rfl, rfl⟩
  | kv :: r, p :: s, ⟨a, b, c⟩ => by
    by_cases h : p.1 = n
    · right
      refine ⟨kv.2, p.2, valV_pos (by rw [a, h]), ?_, b⟩
      unfold pFind
      rw [List.find?_cons_of_pos (by exact decide_eq_true h)]; rfl
    · have e : valV (kv :: r) (.inl n) = valV r (.inl n) := valV_neg (fun z => h (by rw [a] at z; injection z))
      have e2 : pFind (p :: s) n = pFind s n := by
        unfold pFind
        rw [List.find?_cons_of_neg (by simpa using h)]
      rw [e, e2]
      exact c.val n
  | [], _ :: _, h => h.elim
  | _ :: _, [], h => h.elim
theorem PsR.drop {K : PySem.W.Frag} {U : Hp} (n : Int) : ∀ {kvs : List (Key × V)} {ps : List (Int × Option Pc)}, PsR K U kvs ps → PsR K U (dropK kvs (.inl n)) (ps.filter fun p => decide (p.1 ≠ n))
  | [], [], _ => trivial
  | kv :: r, p :: s, ⟨a, b, c⟩ => by
    have ih := c.drop n
    unfold dropK at ih ⊢
    by_cases h : p.1 = n
    · rw [List.filter_cons_of_neg (by rw [a, h]; simp), List.filter_cons_of_neg (by simp [h])]
      exact ih
    · rw [List.filter_cons_of_pos (by rw [a]; exact decide_eq_true (fun z => h (by injection z))), List.filter_cons_of_pos (by simp [h])]
      exact ⟨a, b, ih⟩
  | [], _ :: _, h => h.elim
  | _ :: _, [], h => h.elim
theorem PsR.app {K : PySem.W.Frag} {U : Hp} {n : Int} {v : V} {q : Option Pc} (hq : PicV K U v q) : ∀ {kvs : List (Key × V)} {ps : List (Int × Option Pc)}, PsR K U kvs ps → PsR K U (kvs ++ [(.inl n, v)]) (ps ++ [(n, q)])
  | [], [], _ => ⟨rfl, hq, trivial⟩
  | _ :: _, _ :: _, ⟨a, b, c⟩ => ⟨a, b, c.app hq⟩
  | [], _ :: _, h => h.elim
  | _ :: _, [], h => h.elim
theorem PsR.map {K : PySem.W.Frag} {U : Hp} {n : Int} {v : V} {q : Option Pc} (hq : PicV K U v q) : ∀ {kvs : List (Key × V)} {ps : List (Int × Option Pc)}, PsR K U kvs ps → PsR K U (kvs.map fun kv => if kv.1 = (.inl n : Key) then (kv.1, v) else kv) (ps.map fun p => if p.1 = n then (p.1, q) else p)
  | [], [], _ => trivial
  | kv :: r, p :: s, ⟨a, b, c⟩ => by
    have ih := c.map (n := n) hq
    rw [List.map_cons, List.map_cons]
    by_cases h : p.1 = n
    · rw [if_pos (by rw [a, h]), if_pos h]
      exact ⟨a, hq, ih⟩
    · rw [if_neg (fun z => h (by rw [a] at z; injection z)), if_neg h]
      exact ⟨a, b, ih⟩
  | [], _ :: _, h => h.elim
  | _ :: _, [], h => h.elim
/-- an old number gets its picture -/
theorem PsR.put {K : PySem.W.Frag} {U : Hp} {n : Int} {v u : V} {q : Option Pc} {kvs : List (Key × V)} {ps : List (Int × Option Pc)} (h : PsR K U kvs ps) (hq : PicV K U v q) (hv : valV kvs (.inl n) = some u) : PsR K U (putK kvs (.inl n) v) (ps.map fun p => if p.1 = n then (p.1, q) else p) := by
  unfold putK
  rw [if_pos (by rw [valV_any, hv]; rfl)]
  exact h.map hq
/-! ### what captures do -/
def argB (xs : List Int) : Arg := ⟨"octets", .oct xs, pad (octs xs.length 4 ++ xs)⟩
def alO (n w h : Int) : List Int := msgOcts n 0 (bodyOf [argU w, argU h])
def rfO (n : Int) : List Int := msgOcts n 1 (bodyOf [])
def rwO (n b : Int) (os : List Int) : List Int := msgOcts n 2 (bodyOf [argU b, argB os])
structure Evs (C : Addr) (w : World) (K : PySem.W.Frag) : Prop where
  al : EvRow C w K "capture" "allowed" 0 ["uint", "uint"]
  rf : EvRow C w K "capture" "refused" 1 []
  rw : EvRow C w K "capture" "rows" 2 ["uint", "octets"]
def num (n : Int) : Prop := 1 ≤ n ∧ n ≤ 4294967295
theorem Evs.alE {C : Addr} {w : World} {K : PySem.W.Frag} (h : Evs C w K) {H : Hp} {va : Addr} {n x y : Int} (hn : num n) (hx : u32 x) (hy : u32 y) (e : H va = some (.lst [.int x, .int y])) : EvAt C w K H n "capture" "allowed" va (alO n x y) :=
  h.al.evA [argU x, argU y] hn (by decide) rfl (by exact Nat.le_of_ble_eq_true rfl) e ⟨rfl, rfl, trivial⟩ ⟨okU hx, okU hy, trivial⟩
theorem Evs.rfE {C : Addr} {w : World} {K : PySem.W.Frag} (h : Evs C w K) {H : Hp} {va : Addr} {n : Int} (hn : num n) (e : H va = some (.lst [])) : EvAt C w K H n "capture" "refused" va (rfO n) :=
  h.rf.evA [] hn (by decide) rfl (by decide) e trivial trivial
theorem Evs.rwE {C : Addr} {w : World} {K : PySem.W.Frag} (h : Evs C w K) {H : Hp} {va o : Addr} {n b : Int} {os : List Int} (hn : num n) (hb : u32 b) (ho : octsOk os = true) (hl : os.length ≤ 1024) (e : H va = some (.lst [.int b, .ref o])) (eo : H o = some (.lst (os.map V.int))) : EvAt C w K H n "capture" "rows" va (rwO n b os) := by
  refine h.rw.ev [argU b, argB os] hn (by decide) rfl (by exact Nat.le_of_ble_eq_true rfl) (SqL.of e) ⟨rfl, ⟨o, rfl, eo, by omega⟩, trivial⟩ (fun g hg => ?_) ?_
  · simp only [List.mem_cons, List.not_mem_nil, or_false] at hg
    rcases hg with rfl | rfl
    · exact (okU hb).1
    · have := @ArgSpec.oct os
      rw [ho] at this
      exact this
  · show (octs _ 4 ++ (pad (octs os.length 4 ++ os) ++ [])).length ≤ _
    rw [List.length_append, List.length_append, octs_len, pad_len, List.length_append, octs_len]
    have := padN_lt (4 + os.length)
    show 4 + (4 + os.length + padN (4 + os.length) + 0) ≤ _
    omega
structure Cs (A : Adr) (K : PySem.W.Frag) (U H : Hp) (cp d : Addr) (ps : List (Int × Option Pc)) : Prop where
  ob : ∃ dx, U cp = some (.ins A.CCaptures dx [("_pictures", .ref d)])
  e : ∃ kvs, H d = some (.dK kvs) ∧ PsR K U kvs ps
  u : U d = none
theorem Cs.frame {A : Adr} {K : PySem.W.Frag} {U H U' H' : Hp} {cp d : Addr} {ps : List (Int × Option Pc)} (h : Cs A K U H cp d ps) (s : Same U U') (k : ∀ b, H b ≠ none → U b = none → b = d → U' b = none ∧ H' b = H b) : Cs A K U' H' cp d ps := by
  obtain ⟨dx, e⟩ := h.ob
  obtain ⟨kvs, e1, r⟩ := h.e
  have k1 := k d (by rw [e1]; exact fun z => by cases z) h.u rfl
  exact ⟨⟨dx, s _ _ e⟩, ⟨kvs, k1.2.trans e1, r.to s⟩, k1.1⟩
theorem filt_none {n : Int} : ∀ {ps : List (Int × Option Pc)}, pFind ps n = none → (ps.filter fun p => decide (p.1 ≠ n)) = ps
  | [], _ => rfl
  | p :: r, h => by
    unfold pFind at h
    by_cases c : p.1 = n
    · rw [List.find?_cons_of_pos (by exact decide_eq_true c)] at h; cases h
    · rw [List.find?_cons_of_neg (by simpa using c)] at h
      rw [List.filter_cons_of_pos (by simp [c]), filt_none h]
def sp_Captures_forget (A : Adr) (K : PySem.W.Frag) : Sp := fun vs H Q _ => ∃ (cp d : Addr) (n : Int) (ps : List (Int × Option Pc)) (U : Hp), vs = [.ref cp, .int n] ∧ Same U H ∧ Cs A K U H cp d ps ∧ ∀ H', Ch U H U H' [d] → Cs A K U H' cp d (ps.filter fun p => decide (p.1 ≠ n)) → Q .non H'
theorem sc_Captures_forget : FnScope ["self", "number"] ["self", "number"] (defScope s_Captures_forget) := ⟨rfl, rfl, rfl, by decide +kernel, rfl, by decide +kernel, by decide +kernel⟩
theorem ok_Captures_forget (T : Txt0 P K mg A) : FnOk P w K mg base CX0 1 A.fCaptures_forget A.dCaptures_forget ["self", "number"] (sp_Captures_forget A K) := by
  refine T.FCaptures_forget.ok sc_Captures_forget (fun vs H Q E h => ?_) (fun cdv Ar outer st H vs Q E hr h => ?_)
  · obtain ⟨_, _, _, _, _, rfl, _⟩ := h
    rfl
  · obtain ⟨cp, d, n, ps, U, rfl, sU, C, q⟩ := h
    replace q := Hid.mk q
    obtain ⟨dx, ecp⟩ := C.ob
    have ecpH := sU _ _ ecp
    obtain ⟨kvs, ed, r⟩ := C.e
    refine ⟨_, (pss_one (ps_if (pt_cmp (pc_din (hu_of hr) (pv 1) (pe_fldC T.clCaptures T.nCaptures__pictures (pv 0) rfl)))
      (pss_one (ps_ddel (pe_fldC T.clCaptures T.nCaptures__pictures (pv 0) rfl) (pv 1)))
      pss_nil)), ?_⟩
    walk_at "gf"
    refine ⟨d, _, rfl, DGet.k (k := .inl n) ed, ?_⟩
    rcases r.val n with ⟨hv, hp⟩ | ⟨v, p, hv, hp, hvp⟩
    · rw [hv]
      refine ⟨_, rfl, if_f rfl ?_⟩
      refine q.go H ((Pu.refl sU).ch _) ?_
      rw [filt_none hp]
      exact C
    · rw [hv]
      refine ⟨_, rfl, if_t rfl ?_⟩
      walk_at "gf"
      refine ⟨d, kvs, .inl n, rfl, ed, rfl, by rw [hv]; rfl, ?_⟩
      exact q.go _ (Ch.poke sU C.u _ (by simp)) ⟨⟨dx, ecp⟩, ⟨_, upd_same, r.drop n⟩, C.u⟩
/-- what becomes of the pictures when an answer comes -/
def ansP (ps : List (Int × Option Pc)) (n : Int) (q : Option Pc) : List (Int × Option Pc) := match q with
  | none => ps
  | some _ => ps.map fun p => if p.1 = n then (p.1, q) else p
def ansO (n : Int) : Option Pc → List Int
  | none => rfO n
  | some (w, h, _) => alO n w h
def pcOk : Option Pc → Prop
  | none => True
  | some (w, h, os) => u32 w ∧ u32 h ∧ os.length ≤ 20000
def sp_Captures_answered (CE : Addr) (w : World) (A : Adr) (K : PySem.W.Frag) : Sp := fun vs H Q _ => ∃ (cp d o lt le lw : Addr) (n : Int) (v : V) (q : Option Pc) (ps : List (Int × Option Pc)) (ws : List PyData) (U : Hp), vs = [.ref cp, .int n, v, .ref o] ∧ Same U H ∧ Evs CE w K ∧ num n ∧ Cs A K U H cp d ps ∧ pFind ps n ≠ none ∧ PicV K H v q ∧ pcOk q ∧ Rp A.CReply K U H o lt le lw [] [] ws ∧ ps.length ≤ 2 ∧
  ∀ U' H', Ch U H U' H' [d, lt] → Cs A K U' H' cp d (ansP ps n q) → Rp A.CReply K U' H' o lt le lw [ansO n q] [] ws → Q .non H'
theorem sc_Captures_answered : FnScope ["self", "number", "picture", "reply", "width", "height", "octets"] ["self", "number", "picture", "reply"] (defScope s_Captures_answered) := ⟨rfl, rfl, rfl, by decide +kernel, rfl, by decide +kernel, by decide +kernel⟩
theorem ok_Captures_answered (T : Txt0 P K mg A) : FnOk P w K mg base CX0 10 A.fCaptures_answered A.dCaptures_answered ["self", "number", "picture", "reply"] (sp_Captures_answered A.a_EVENTS w A K) := by
  refine T.FCaptures_answered.ok sc_Captures_answered (fun vs H Q E h => ?_) (fun cdv Ar outer st H vs Q E hr h => ?_)
  · obtain ⟨_, _, _, _, _, _, _, _, _, _, _, _, rfl, _⟩ := h
    rfl
  · obtain ⟨cp, d, o, lt, le, lw, n, v, pq, ps, ws, U, rfl, sU, ev, hn, C, hf, hv, hok, R, hpl, q⟩ := h
    replace q := Hid.mk q
    obtain ⟨dx, ecp⟩ := C.ob
    have ecpH := sU _ _ ecp
    obtain ⟨kvs, ed, r⟩ := C.e
    obtain ⟨u, p, hv1, hp1, hpv⟩ : ∃ v p, valV kvs (.inl n) = some v ∧ pFind ps n = some p ∧ PicV K U v p := (r.val n).resolve_left fun z => hf z.2
    obtain ⟨yt, et, dyt⟩ := R.t
    have ntd : lt ≠ d := ne_of et ed (by intro z; cases z)
    have hkl := r.len
    have ud := C.u
    refine ⟨_, (pss_cons (ps_if (pt_cmp (pc_dnotin (hu_of hr) (pv 1) (pe_fldC T.clCaptures T.nCaptures__pictures (pv 0) rfl)))
      (pss_one ps_retN)
      pss_nil)
      (pss_cons (ps_if (pt_cmpR op_isN (pv 2) pe_non (nomark _))
      (pss_cons (ps_expr (pe_meth (pv 3) T.clReply T.mReply_tell (ok_Reply_tell T) (hr.mono (by decide)) T.bReply_tell .nil pass0 (pa_cons (pv 1) (pa_cons pe_str (pa_cons pe_str (pa_cons (pe_lst pa_nil) pa_nil))))))
      (pss_one ps_retN))
      pss_nil)
      (pss_cons (ps_asg (pv 2) (pg_tup rfl (pgs_cons (pg_name (i := 4) sc_Captures_answered.nd rfl (Or.inl rfl)) (pgs_cons (pg_name (i := 5) sc_Captures_answered.nd rfl (Or.inl rfl)) (pgs_cons (pg_name (i := 6) sc_Captures_answered.nd rfl (Or.inl rfl)) pgs_nil)))))
      (pss_cons (ps_dput (hu_of hr) (pe_fldC T.clCaptures T.nCaptures__pictures (pv 0) rfl) (pv 1) (pe_tup (pa_cons (pv 4) (pa_cons (pv 5) (pa_cons (pe_callTy call_list_of (by rfl) T.list (by decide +kernel) (pa_cons (pv 6) pa_nil)) pa_nil)))) rfl)
      (pss_one (ps_expr (pe_meth (pv 3) T.clReply T.mReply_tell (ok_Reply_tell T) (hr.mono (by decide)) T.bReply_tell .nil pass0 (pa_cons (pv 1) (pa_cons pe_str (pa_cons pe_str (pa_cons (pe_lst (pa_cons (pv 4) (pa_cons (pv 5) pa_nil))) pa_nil))))))))))), ?_⟩
    walk_at "gf"
    refine ⟨d, _, rfl, DGet.k (k := .inl n) ed, ?_⟩
    rw [hv1]
    refine ⟨_, rfl, if_f rfl ?_⟩
    cases pq with
    | none =>
      obtain rfl : v = .non := hv
      obtain ⟨dxo, wa, eo1⟩ := R.ob
      walk_at "gf"
      rename_i pl hpn
      walk_at "nl"
      have p1 := Pu.skip (o := .lst []) sU hpn
      refine ⟨o, lt, le, lw, pl, n, "capture", "refused", [], [], ws, rfO n, U, rfl, p1.vh, R.frame (Same.refl _) (fun b hb hu _ => ⟨hu, p1.kp b hb⟩), ev.rfE hn upd_same, by decide, fun U4 H4 v4 s4 o4 m4 k4 R4 => ?_⟩
      walk_at "gf"
      have c4 : Ch U H U4 H4 [d, lt] := (p1.ch [d, lt]).trans ⟨v4, s4, o4, m4, fun b hb hn => k4 b (fun z => hb (by rw [z]; simp)) hn⟩
      refine q.go U4 H4 c4 (C.frame v4 (fun b hb hu z => ?_)) R4
      subst z
      exact ⟨c4.out b hu hb, by rw [k4 b ntd.symm (by rw [p1.kp b hb]; exact hb), p1.kp b hb]⟩
    | some pc =>
      obtain ⟨pw, ph, os⟩ := pc
      obtain ⟨t, oc, rfl, et2, eo, hol⟩ := hv
      walk_at "gf"
      intro l hl
      have p1 := Pu.new (o := .lst (os.map V.int)) sU hl
      have el : (upd U l (.lst (os.map V.int))) l = _ := upd_same
      walk_at "nl"
      refine ⟨len_line (by show 3 ≤ 100000; decide), fun tp htp => ?_⟩
      have p2 := p1.trans (Pu.new (o := .tup [.int pw, .int ph, .ref l]) p1.vh htp)
      have et2 : (upd (upd U l (.lst (os.map V.int))) tp (.tup [.int pw, .int ph, .ref l])) tp = _ := upd_same
      have ntl : tp ≠ l := fun z => by rw [z, upd_same] at htp; cases htp
      have el2 : (upd (upd U l (.lst (os.map V.int))) tp (.tup [.int pw, .int ph, .ref l])) l = some (.lst (os.map V.int)) := by rw [upd_ne ntl.symm]; exact el
      generalize upd (upd U l (.lst (os.map V.int))) tp (.tup [.int pw, .int ph, .ref l]) = U2 at p2 et2 el2
      generalize upd (upd H l (.lst (os.map V.int))) tp (.tup [.int pw, .int ph, .ref l]) = H2 at p2 ⊢
      have ecp2 := p2.vh _ _ (p2.vv _ _ ecp)
      have ed2 := (p2.kp d (by rw [ed]; exact fun z => by cases z)).trans ed
      have ud2 := p2.out d ud (by rw [ed]; exact fun z => by cases z)
      walk_at "gf"
      refine ⟨d, _, rfl, DPut.k (k := .inl n) ed2 (Nat.lt_of_lt_of_le (m := 100000) (by omega) (by decide)), ?_⟩
      have R2 : Rp A.CReply K U2 H2 o lt le lw [] [] ws := R.frame p2.vv (fun b hb hu _ => ⟨p2.out b hu hb, p2.kp b hb⟩)
      have c3 := Ch.poke (o := .dK (putK kvs (.inl n) (.ref tp))) p2.vh ud2 [d, lt] (by simp)
      have C3 : Cs A K U2 (upd H2 d (.dK (putK kvs (.inl n) (.ref tp)))) cp d (ansP ps n (some (pw, ph, os))) := ⟨⟨dx, p2.vv _ _ ecp⟩, ⟨_, upd_same, (r.to p2.vv).put (q := some (pw, ph, os)) ⟨tp, l, rfl, SqT.of et2, el2, hol⟩ hv1⟩, ud2⟩
      have R3 : Rp A.CReply K U2 (upd H2 d (.dK (putK kvs (.inl n) (.ref tp)))) o lt le lw [] [] ws := R2.frame (Same.refl _) (fun b hb hu hx => ⟨hu, upd_ne (fun z => by
        subst z
        obtain ⟨dxo, wa, eo2⟩ := R2.ob
        obtain ⟨y1, e1, _⟩ := R2.t
        have e3 := R2.e
        obtain ⟨y4, e4, _⟩ := R2.w
        rcases hx with rfl | rfl | rfl | rfl
        · rw [eo2] at ed2; cases ed2
        · rw [e1] at ed2; cases ed2
        · rw [e3] at ed2; cases ed2
        · rw [e4] at ed2; cases ed2)⟩)
      have k3 : ∀ b, b ≠ d → (upd H2 d (.dK (putK kvs (.inl n) (.ref tp)))) b = H2 b := fun b hb => upd_ne hb
      generalize upd H2 d (.dK (putK kvs (.inl n) (.ref tp))) = H3 at c3 C3 R3 k3 ⊢
      obtain ⟨dxo3, wa3, eo3⟩ := R3.ob
      walk_at "gf"
      rename_i pl hpn
      walk_at "nl"
      have p4 := Pu.skip (o := .lst [.int pw, .int ph]) c3.vh hpn
      have nd3 : ∀ b, b ≠ d → H b ≠ none → H3 b = H b := fun b hb hn => by rw [k3 b hb, p2.kp b hn]
      refine ⟨o, lt, le, lw, pl, n, "capture", "allowed", [], [], ws, alO n pw ph, U2, rfl, p4.vh, R3.frame (Same.refl _) (fun b hb hu _ => ⟨hu, p4.kp b hb⟩), ev.alE hn hok.1 hok.2.1 upd_same, by decide, fun U4 H4 v4 s4 o4 m4 k4 R4 => ?_⟩
      walk_at "gf"
      have c4 : Ch U H U4 H4 [d, lt] := ((p2.ch [d, lt]).trans c3).trans ((p4.ch [d, lt]).trans ⟨v4, s4, o4, m4, fun b hb hn => k4 b (fun z => hb (by rw [z]; simp)) hn⟩)
      refine q.go U4 H4 c4 (C3.frame v4 (fun b hb hu z => ?_)) R4
      subst z
      exact ⟨o4 b hu (by rw [p4.kp b hb]; exact hb), by rw [k4 b ntd.symm (by rw [p4.kp b hb]; exact hb), p4.kp b hb]⟩
/-! ### read -/
def cutI (xs : List Int) (lo hi : Option Int) : List Int := (xs.drop (HT.sIx xs.length 0 lo)).take (HT.sIx xs.length xs.length hi - HT.sIx xs.length 0 lo)
theorem cutV_ints (xs : List Int) (lo hi : Option Int) : cutV (xs.map V.int) lo hi = (cutI xs lo hi).map V.int := by
  unfold cutV cutI
  rw [List.length_map, List.map_take, List.map_drop]
def rdBad : Option Pc → Int → Int → Prop
  | none, _, _ => True
  | some (w, h, _), b, c => h < b + c ∨ 1024 < c * (4 * w)
def rdCut (w : Int) (os : List Int) (b c : Int) : List Int := cutI os (some (b * (4 * w))) (some ((b + c) * (4 * w)))
def pcR : Option Pc → Prop
  | none => True
  | some (w, h, os) => 0 ≤ w ∧ w ≤ 256 ∧ 0 ≤ h ∧ h ≤ 256 ∧ os.length ≤ 20000 ∧ ∀ x ∈ os, 0 ≤ x ∧ x ≤ 255
theorem rdCut_ok {w b c : Int} {os : List Int} (hw : 0 ≤ w) (hb : 0 ≤ b) (hc : 0 ≤ c) (h1 : c * (4 * w) ≤ 1024) (ho : ∀ x ∈ os, 0 ≤ x ∧ x ≤ 255) : octsOk (rdCut w os b c) = true ∧ (rdCut w os b c).length ≤ 1024 := by
  have h4 : 0 ≤ 4 * w := by omega
  have e1 : b * (4 * w) = (((b * (4 * w)).toNat : Nat) : Int) := (Int.toNat_of_nonneg (Int.mul_nonneg hb h4)).symm
  have e2 : (b + c) * (4 * w) = ((((b + c) * (4 * w)).toNat : Nat) : Int) := (Int.toNat_of_nonneg (Int.mul_nonneg (by omega) h4)).symm
  have hm : (b + c) * (4 * w) = b * (4 * w) + c * (4 * w) := Int.add_mul ..
  have hl : (rdCut w os b c).length ≤ 1024 := by
    unfold rdCut cutI
    rw [e1, e2, HT.sIx_nat, HT.sIx_nat, List.length_take]
    omega
  refine ⟨?_, hl⟩
  unfold octsOk
  rw [Bool.and_eq_true]
  refine ⟨decide_eq_true (by omega), List.all_eq_true.mpr fun x hx => decide_eq_true (ho x ?_)⟩
  unfold rdCut cutI at hx
  exact List.mem_of_mem_drop (List.mem_of_mem_take hx)
def sp_Captures_read (CE : Addr) (w : World) (A : Adr) (K : PySem.W.Frag) : Sp := fun vs H Q E => ∃ (cp d r la o lt le lw : Addr) (n b c : Int) (i m : Str) (p : Option Pc) (ps : List (Int × Option Pc)) (ws : List PyData) (U : Hp), vs = [.ref cp, .ref r, .ref o] ∧ Same U H ∧ Evs CE w K ∧ num n ∧ Cs A K U H cp d ps ∧ pFind ps n = some p ∧ pcR p ∧ Rq A.CRequest H r n i m (.ref la) ∧ H la = some (.lst [.int b, .int c]) ∧ 0 ≤ b ∧ b ≤ 100 ∧ 0 ≤ c ∧ c ≤ 100 ∧ Rp A.CReply K U H o lt le lw [] [] ws ∧
  (rdBad p b c → FaultTo A H E n 1 "place out of range") ∧
  (∀ pw ph os, p = some (pw, ph, os) → ¬ rdBad p b c → ∀ U' H', Ch U H U' H' [lt] → Cs A K U' H' cp d ps → Rp A.CReply K U' H' o lt le lw [rwO n b (rdCut pw os b c)] [] ws → Q .non H')
theorem sc_Captures_read : FnScope ["self", "request", "reply", "row", "rows", "picture", "width", "height", "octets", "size"] ["self", "request", "reply"] (defScope s_Captures_read) := ⟨rfl, rfl, rfl, by decide +kernel, rfl, by decide +kernel, by decide +kernel⟩
theorem ok_Captures_read (T : Txt0 P K mg A) : FnOk P w K mg base (L2.CX P w) 10 A.fCaptures_read A.dCaptures_read ["self", "request", "reply"] (sp_Captures_read A.a_EVENTS w A K) := by
  refine T.FCaptures_read.okX sc_Captures_read (fun vs H Q E h => ?_) (fun cdv Ar outer st H vs Q E hr h => ?_)
  · obtain ⟨_, _, _, _, _, _, _, _, _, _, _, _, _, _, _, _, _, rfl, _⟩ := h
    rfl
  · obtain ⟨cp, d, r, la, o, lt, le, lw, n, b, c, i, m, p, ps, ws, U, rfl, sU, ev, hn, C, hf, hp, ⟨dxr, er, erq⟩, ela, hb0, hb1, hc0, hc1, R, q1, q2⟩ := h
    replace q1 := Hid.mk q1
    replace q2 := Hid.mk q2
    obtain ⟨dx, ecp⟩ := C.ob
    have ecpH := sU _ _ ecp
    obtain ⟨kvs, ed, rr⟩ := C.e
    obtain ⟨u, p', hv1, hp1, hpv⟩ : ∃ v p, valV kvs (.inl n) = some v ∧ pFind ps n = some p ∧ PicV K U v p := (rr.val n).resolve_left fun z => by rw [hf] at z; cases z.2
    rw [hf] at hp1
    obtain rfl : p = p' := Option.some.inj hp1
    refine ⟨_, (pss_cons (ps_asg (pe_fldC T.clRequest T.nRequest_arguments (pv 1) rfl) (pg_unl rfl (pgs_cons (pg_name (i := 3) sc_Captures_read.nd rfl (Or.inl rfl)) (pgs_cons (pg_name (i := 4) sc_Captures_read.nd rfl (Or.inl rfl)) pgs_nil))))
      (pss_cons (ps_set (i := 5) sc_Captures_read.nd rfl (Or.inl rfl) (pe_dget (hu_of hr) (pe_fldC T.clCaptures T.nCaptures__pictures (pv 0) rfl) (pe_fldC T.clRequest T.nRequest_number (pv 1) rfl) (fun _ _ => rfl)))
      (pss_cons (ps_if (pt_cmpR op_isN (pv 5) pe_non (nomark _))
      (pss_one (ps_raise rfl (takes_of rfl rfl rfl rfl) (pmk_oex T.oFault T.MFault T.TFault (ok_Fault___init__ T) (hr.mono (by decide)) T.bFault___init__ .nil pass0 (by rfl) T.gFault (pa_cons (pe_fldC T.clRequest T.nRequest_number (pv 1) rfl) (pa_cons pe_int (pa_cons pe_str pa_nil))))))
      pss_nil)
      (pss_cons (ps_asg (pv 5) (pg_tup rfl (pgs_cons (pg_name (i := 6) sc_Captures_read.nd rfl (Or.inl rfl)) (pgs_cons (pg_name (i := 7) sc_Captures_read.nd rfl (Or.inl rfl)) (pgs_cons (pg_name (i := 8) sc_Captures_read.nd rfl (Or.inl rfl)) pgs_nil)))))
      (pss_cons (ps_set (i := 9) sc_Captures_read.nd rfl (Or.inl rfl) (pe_op op_mul pe_int (pv 6)))
      (pss_cons (ps_if (PW.pt (pw_or (pt_cmpR op_gt (pe_op op_add (pv 3) (pv 4)) (pv 7) (nomark _)) (pw_or1 (pt_cmpR op_gt (pe_op op_mul (pv 4) (pv 9)) (pe_glob (v := .int (1024)) rfl T.gMOST_READ_captures ⟨_, rfl⟩) (nomark _)))))
      (pss_one (ps_raise rfl (takes_of rfl rfl rfl rfl) (pmk_oex T.oFault T.MFault T.TFault (ok_Fault___init__ T) (hr.mono (by decide)) T.bFault___init__ .nil pass0 (by rfl) T.gFault (pa_cons (pe_fldC T.clRequest T.nRequest_number (pv 1) rfl) (pa_cons pe_int (pa_cons pe_str pa_nil))))))
      pss_nil)
      (pss_one (ps_expr (pe_meth (pv 2) T.clReply T.mReply_tell (ok_Reply_tell T) (hr.mono (by decide)) T.bReply_tell .nil pass0 (pa_cons (pe_fldC T.clRequest T.nRequest_number (pv 1) rfl) (pa_cons pe_str (pa_cons pe_str (pa_cons (pe_lst (pa_cons (pv 3) (pa_cons (pe_slice (r := rSlL K) sl_list (pv 8) (po_some (pe_op op_mul (pv 3) (pv 9))) (po_some (pe_op op_mul (pe_op op_add (pv 3) (pv 4)) (pv 9)))) pa_nil))) pa_nil))))))))))))), ?_⟩
    walk_at "gf"
    refine ⟨d, u, rfl, by rw [← hv1]; exact DGet.k (k := .inl n) ed, ?_⟩
    cases p with
    | none =>
      obtain rfl : u = .non := hpv
      walk_at "gf"
      exact ⟨by show 3 ≤ 1000; decide, fault_go (fun dd H' h1 h2 h3 h4 => q1.go trivial dd H' h1 h2 h3 h4)⟩
    | some pc =>
      obtain ⟨pw, ph, os⟩ := pc
      obtain ⟨t, oc, rfl, et2, eo, hol⟩ := hpv
      obtain ⟨hw0, hw1, hh0, hh1, hl2, hoc⟩ := hp
      have et2H := sU.sqt et2
      have eoH := sU _ _ eo
      obtain ⟨dxo, wa, eo1⟩ := R.ob
      walk_at "gf"
      apply useR (C := ph < b + c ∨ 1024 < c * (4 * pw))
      · intro rr bb
        refine iteP (fun c1 => bb (.inl c1)) (fun c1 => ?_)
        walk_at "gf"
        exact iteP (fun c2 => bb (.inr c2)) (fun c2 => rr (fun z => z.elim c1 c2))
      · intro hnb
        walk_at "gf"
        refine ⟨oc, os.map V.int, rfl, SqL.of eoH, fun t2 ht2 => ?_⟩
        dsimp only
        rw [cutV_ints]
        have hc := rdCut_ok (w := pw) (b := b) (c := c) (os := os) hw0 hb0 hc0 (by omega) hoc
        have p1 := Pu.skip (o := .lst ((rdCut pw os b c).map V.int)) sU ht2
        have e1 : (upd H t2 (.lst ((rdCut pw os b c).map V.int))) t2 = _ := upd_same
        walk_at "nl"
        refine ⟨len_line (by show 2 ≤ 100000; decide), fun l2 hl2 => ?_⟩
        have p2 := p1.trans (Pu.skip (o := .lst [.int b, .ref t2]) p1.vh hl2)
        have e2 := same_upd (o := .lst [.int b, .ref t2]) hl2 _ _ e1
        refine ⟨o, lt, le, lw, l2, n, "capture", "rows", [], [], ws, rwO n b (rdCut pw os b c), U, rfl, p2.vh, R.frame (Same.refl _) (fun b hb hu _ => ⟨hu, p2.kp b hb⟩), ev.rwE hn (by unfold u32; omega) hc.1 hc.2 upd_same e2, by decide, fun U4 H4 v4 s4 o4 m4 k4 R4 => ?_⟩
        obtain ⟨yt, et, dyt⟩ := R.t
        have ntd : lt ≠ d := ne_of et ed (by intro z; cases z)
        walk_at "gf"
        have c4 : Ch U H U4 H4 [lt] := (p2.ch [lt]).trans ⟨v4, s4, o4, m4, fun b hb hn => k4 b (fun z => hb (by rw [z]; simp)) hn⟩
        refine q2.go pw ph os rfl hnb U4 H4 c4 (C.frame v4 (fun b hb hu z => ?_)) R4
        subst z
        exact ⟨c4.out b hu hb, c4.kp b (by simpa using ntd.symm) hb⟩
      · intro hb
        walk_at "gf"
        exact ⟨by show 3 ≤ 1000; decide, fault_go (fun dd H' h1 h2 h3 h4 => q1.go hb dd H' h1 h2 h3 h4)⟩
/-! ### holdings with captures only -/
def sp_Reply_wish (C : Addr) (K : PySem.W.Frag) : Sp := fun vs H Q _ => ∃ (o lt le lw : Addr) (v : V) (pd : PyData) (ts : List (List Int)) (es : List Int) (ws : List PyData) (U : Hp), vs = [.ref o, v] ∧ Same U H ∧ Rp C K U H o lt le lw ts es ws ∧ Dp K U v pd ∧ ws.length ≤ 1000 ∧
  ∀ H', Ch U H U H' [lw] → Rp C K U H' o lt le lw ts es (ws ++ [pd]) → Q .non H'
theorem sc_Reply_wish : FnScope ["self", "deed"] ["self", "deed"] (defScope s_Reply_wish) := ⟨rfl, rfl, rfl, by decide +kernel, rfl, by decide +kernel, by decide +kernel⟩
theorem ok_Reply_wish (T : Txt0 P K mg A) : FnOk P w K mg base CX0 1 A.fReply_wish A.dReply_wish ["self", "deed"] (sp_Reply_wish A.CReply K) := by
  refine T.FReply_wish.ok sc_Reply_wish (fun vs H Q E h => ?_) (fun cdv Ar outer s H vs Q E hr h => ?_)
  · obtain ⟨_, _, _, _, _, _, _, _, _, _, rfl, _⟩ := h
    rfl
  · obtain ⟨o, lt, le, lw, v, pd, ts, es, ws, U, rfl, sU, R, dv, hl, q⟩ := h
    obtain ⟨dx, wa, e1⟩ := R.ob
    obtain ⟨yt, e2, d2⟩ := R.t
    have e3 := R.e
    obtain ⟨yw, e4, d4⟩ := R.w
    have hyl := dpall_len d4
    refine ⟨_, (pss_one (ps_expr (pe_bm PySem.F.plainAttrs_list PySem.F.slot_list_append PySem.F.type_list_append mt_append (pe_fldC T.clReply T.nReply_wishes (pv 0) rfl) (pa_cons (pv 1) pa_nil)))), ?_⟩
    walk_at "gf"
    refine ⟨lw, _, _, rfl, rfl, e4, Nat.lt_of_lt_of_le (m := 100000) (by omega) (by decide), ?_⟩
    have no : o ≠ lw := ne_of e1 e4 (by intro z; cases z)
    exact q _ (Ch.poke sU R.uw _ (List.mem_singleton.mpr rfl)) ⟨⟨dx, wa, by rw [upd_ne no]; exact e1⟩, R.uo, R.ut, R.ue, R.uw, R.n1, R.n2, R.n3, ⟨yt, by rw [upd_ne R.n2]; exact e2, d2⟩, by rw [upd_ne R.n3]; exact e3, ⟨_, upd_same, dpall_app d4 (.cons dv .nil)⟩⟩
/-- never called here -/
def spF : Sp := fun _ _ _ _ => False
theorem sc_Sources_make : FnScope ["self", "request"] ["self", "request"] (defScope s_Sources_make) := ⟨rfl, rfl, rfl, by decide +kernel, rfl, by decide +kernel, by decide +kernel⟩
theorem ok_Sources_make (T : Txt0 P K mg A) : FnOk P w K mg base (L2.CX P w) 3 A.fSources_make A.dSources_make ["self", "request"] spF := T.FSources_make.okX sc_Sources_make (fun _ _ _ _ h => h.elim) (fun _ _ _ _ _ _ _ _ _ h => h.elim)
theorem sc_Sources_write : FnScope ["self", "request", "kind", "octets", "source", "written", "fresh", "piece"] ["self", "request"] (defScope s_Sources_write) := ⟨rfl, rfl, rfl, by decide +kernel, rfl, by decide +kernel, by decide +kernel⟩
theorem ok_Sources_write (T : Txt0 P K mg A) : FnOk P w K mg base (L2.CX P w) 3 A.fSources_write A.dSources_write ["self", "request"] spF := T.FSources_write.okX sc_Sources_write (fun _ _ _ _ h => h.elim) (fun _ _ _ _ _ _ _ _ _ h => h.elim)
theorem sc_Offers_read : FnScope ["self", "request", "reply", "goods", "kind", "begin", "length"] ["self", "request", "reply"] (defScope s_Offers_read) := ⟨rfl, rfl, rfl, by decide +kernel, rfl, by decide +kernel, by decide +kernel⟩
theorem ok_Offers_read (T : Txt0 P K mg A) : FnOk P w K mg base (L2.CX P w) 3 A.fOffers_read A.dOffers_read ["self", "request", "reply"] spF := T.FOffers_read.okX sc_Offers_read (fun _ _ _ _ h => h.elim) (fun _ _ _ _ _ _ _ _ _ h => h.elim)
theorem sc_Fetches_read : FnScope ["self", "request", "reply", "begin", "length", "octets"] ["self", "request", "reply"] (defScope s_Fetches_read) := ⟨rfl, rfl, rfl, by decide +kernel, rfl, by decide +kernel, by decide +kernel⟩
theorem ok_Fetches_read (T : Txt0 P K mg A) : FnOk P w K mg base (L2.CX P w) 3 A.fFetches_read A.dFetches_read ["self", "request", "reply"] spF := T.FFetches_read.okX sc_Fetches_read (fun _ _ _ _ h => h.elim) (fun _ _ _ _ _ _ _ _ _ h => h.elim)
theorem sc_Fetches_make_fetch : FnScope ["self", "request", "number", "name"] ["self", "request"] (defScope s_Fetches_make_fetch) := ⟨rfl, rfl, rfl, by decide +kernel, rfl, by decide +kernel, by decide +kernel⟩
theorem ok_Fetches_make_fetch (T : Txt0 P K mg A) : FnOk P w K mg base (L2.CX P w) 3 A.fFetches_make_fetch A.dFetches_make_fetch ["self", "request"] spF := T.FFetches_make_fetch.okX sc_Fetches_make_fetch (fun _ _ _ _ h => h.elim) (fun _ _ _ _ _ _ _ _ _ h => h.elim)
theorem sc_Fetches_make_watch : FnScope ["self", "request", "number", "label"] ["self", "request"] (defScope s_Fetches_make_watch) := ⟨rfl, rfl, rfl, by decide +kernel, rfl, by decide +kernel, by decide +kernel⟩
theorem ok_Fetches_make_watch (T : Txt0 P K mg A) : FnOk P w K mg base (L2.CX P w) 3 A.fFetches_make_watch A.dFetches_make_watch ["self", "request"] spF := T.FFetches_make_watch.okX sc_Fetches_make_watch (fun _ _ _ _ h => h.elim) (fun _ _ _ _ _ _ _ _ _ h => h.elim)
theorem sc_Holdings__send : FnScope ["self", "request", "reply", "name", "octets", "is_new"] ["self", "request", "reply"] (defScope s_Holdings__send) := ⟨rfl, rfl, rfl, by decide +kernel, rfl, by decide +kernel, by decide +kernel⟩
theorem ok_Holdings__send (T : Txt0 P K mg A) : FnOk P w K mg base (L2.CX P w) 3 A.fHoldings__send A.dHoldings__send ["self", "request", "reply"] spF := T.FHoldings__send.okX sc_Holdings__send (fun _ _ _ _ h => h.elim) (fun _ _ _ _ _ _ _ _ _ h => h.elim)
theorem sc_Holdings__give : FnScope ["self", "request", "grant", "reply", "source", "serial", "rest", "goods"] ["self", "request", "grant", "reply"] (defScope s_Holdings__give) := ⟨rfl, rfl, rfl, by decide +kernel, rfl, by decide +kernel, by decide +kernel⟩
theorem ok_Holdings__give (T : Txt0 P K mg A) : FnOk P w K mg base CX0 3 A.fHoldings__give A.dHoldings__give ["self", "request", "grant", "reply"] spF := T.FHoldings__give.ok sc_Holdings__give (fun _ _ _ _ h => h.elim) (fun _ _ _ _ _ _ _ _ _ h => h.elim)
theorem sc_Holdings__unsend : FnScope ["self", "request", "reply", "name"] ["self", "request", "reply"] (defScope s_Holdings__unsend) := ⟨rfl, rfl, rfl, by decide +kernel, rfl, by decide +kernel, by decide +kernel⟩
theorem ok_Holdings__unsend (T : Txt0 P K mg A) : FnOk P w K mg base CX0 3 A.fHoldings__unsend A.dHoldings__unsend ["self", "request", "reply"] spF := T.FHoldings__unsend.ok sc_Holdings__unsend (fun _ _ _ _ h => h.elim) (fun _ _ _ _ _ _ _ _ _ h => h.elim)
/-! ### forget of what is empty -/
def spNo (C : Addr) (n1 : Str) : Sp := fun vs H Q _ => ∃ (o dx d : Addr) (n : Int), vs = [.ref o, .int n] ∧ H o = some (.ins C dx [(n1, .ref d)]) ∧ H d = some (.dK []) ∧ Q .non H
theorem sc_Sources_forget : FnScope ["self", "number"] ["self", "number"] (defScope s_Sources_forget) := ⟨rfl, rfl, rfl, by decide +kernel, rfl, by decide +kernel, by decide +kernel⟩
theorem ok_Sources_forget (T : Txt0 P K mg A) : FnOk P w K mg base CX0 1 A.fSources_forget A.dSources_forget ["self", "number"] (spNo A.CSources "_sources") := by
  refine T.FSources_forget.ok sc_Sources_forget (fun vs H Q E h => ?_) (fun cdv Ar outer st H vs Q E hr h => ?_)
  · obtain ⟨_, _, _, _, rfl, _⟩ := h
    rfl
  · obtain ⟨o, dx, d, n, rfl, e1, e2, q⟩ := h
    refine ⟨_, (pss_one (ps_if (pt_cmp (pc_din (hu_of hr) (pv 1) (pe_fldC T.clSources T.nSources__sources (pv 0) rfl)))
      (pss_one (ps_ddel (pe_fldC T.clSources T.nSources__sources (pv 0) rfl) (pv 1)))
      pss_nil)), ?_⟩
    walk_at "gf"
    refine ⟨d, _, rfl, DGet.k (k := .inl n) e2, ?_⟩
    exact ⟨_, rfl, if_f rfl q⟩
def sp_Fetches_forget (C : Addr) : Sp := fun vs H Q _ => ∃ (o dx d d2 : Addr) (n : Int), vs = [.ref o, .int n] ∧ H o = some (.ins C dx [("_fetches", .ref d), ("_watches", .ref d2)]) ∧ H d = some (.dK []) ∧ H d2 = some (.dK []) ∧ Q .non H
theorem sc_Fetches_forget : FnScope ["self", "number"] ["self", "number"] (defScope s_Fetches_forget) := ⟨rfl, rfl, rfl, by decide +kernel, rfl, by decide +kernel, by decide +kernel⟩
theorem ok_Fetches_forget (T : Txt0 P K mg A) : FnOk P w K mg base CX0 1 A.fFetches_forget A.dFetches_forget ["self", "number"] (sp_Fetches_forget A.CFetches) := by
  refine T.FFetches_forget.ok sc_Fetches_forget (fun vs H Q E h => ?_) (fun cdv Ar outer st H vs Q E hr h => ?_)
  · obtain ⟨_, _, _, _, _, rfl, _⟩ := h
    rfl
  · obtain ⟨o, dx, d, d2, n, rfl, e1, e2, e3, q⟩ := h
    refine ⟨_, (pss_cons (ps_if (pt_cmp (pc_din (hu_of hr) (pv 1) (pe_fldC T.clFetches T.nFetches__fetches (pv 0) rfl)))
      (pss_one (ps_ddel (pe_fldC T.clFetches T.nFetches__fetches (pv 0) rfl) (pv 1)))
      pss_nil)
      (pss_one (ps_if (pt_cmp (pc_din (hu_of hr) (pv 1) (pe_fldC T.clFetches T.nFetches__watches (pv 0) rfl)))
      (pss_one (ps_ddel (pe_fldC T.clFetches T.nFetches__watches (pv 0) rfl) (pv 1)))
      pss_nil))), ?_⟩
    walk_at "gf"
    refine ⟨d, _, rfl, DGet.k (k := .inl n) e2, ?_⟩
    refine ⟨_, rfl, if_f rfl ?_⟩
    walk_at "gf"
    refine ⟨d2, _, rfl, DGet.k (k := .inl n) e3, ?_⟩
    exact ⟨_, rfl, if_f rfl q⟩
def sp_Offers_forget (C : Addr) : Sp := fun vs H Q _ => ∃ (o dx tr kd : Addr) (n : Int), vs = [.ref o, .int n] ∧ H o = some (.ins C dx [("_transfers", .ref tr), ("_kept", .ref kd), ("_is_hovered", .bl false)]) ∧ H tr = some (.lst []) ∧ H kd = some (.dK []) ∧ Q .non H
theorem sc_Offers_forget : FnScope ["self", "number"] ["self", "number"] (defScope s_Offers_forget) := ⟨rfl, rfl, rfl, by decide +kernel, rfl, by decide +kernel, by decide +kernel⟩
theorem ok_Offers_forget (T : Txt0 P K mg A) : FnOk P w K mg base CX0 1 A.fOffers_forget A.dOffers_forget ["self", "number"] (sp_Offers_forget A.COffers) := by
  refine T.FOffers_forget.ok sc_Offers_forget (fun vs H Q E h => ?_) (fun cdv Ar outer st H vs Q E hr h => ?_)
  · obtain ⟨_, _, _, _, _, rfl, _⟩ := h
    rfl
  · obtain ⟨o, dx, tr, kd, n, rfl, e1, e2, e3, q⟩ := h
    refine ⟨_, (pss_cons (ps_if (pt_cmpR op_in_seq (pv 1) (pe_fldC T.clOffers T.nOffers__transfers (pv 0) rfl) (by rfl))
      (pss_one (ps_expr (pe_bm PySem.F.plainAttrs_list PySem.F.slot_list_remove PySem.F.type_list_remove mt_remove (pe_fldC T.clOffers T.nOffers__transfers (pv 0) rfl) (pa_cons (pv 1) pa_nil))))
      pss_nil)
      (pss_one (ps_if (pt_cmp (pc_din (hu_of hr) (pv 1) (pe_fldC T.clOffers T.nOffers__kept (pv 0) rfl)))
      (pss_one (ps_ddel (pe_fldC T.clOffers T.nOffers__kept (pv 0) rfl) (pv 1)))
      pss_nil))), ?_⟩
    walk_at "gf"
    refine ⟨kd, _, rfl, DGet.k (k := .inl n) e3, ?_⟩
    exact ⟨_, rfl, if_f rfl q⟩
structure HdC (A : Adr) (U : Hp) (h cp d : Addr) : Prop where
  ex : ∃ (dx a1 f a3 d1 tr kd d3 d4 x1 xf xc x3 : Addr) (v : V), U h = some (.ins A.CHoldings dx [("_sources", .ref a1), ("_offers", .ref f), ("_captures", .ref cp), ("_fetches", .ref a3), ("_sent_names", v)]) ∧
    U a1 = some (.ins A.CSources x1 [("_sources", .ref d1)]) ∧ U d1 = some (.dK []) ∧ U f = some (.ins A.COffers xf [("_transfers", .ref tr), ("_kept", .ref kd), ("_is_hovered", .bl false)]) ∧ U tr = some (.lst []) ∧ U kd = some (.dK []) ∧
    U cp = some (.ins A.CCaptures xc [("_pictures", .ref d)]) ∧ U a3 = some (.ins A.CFetches x3 [("_fetches", .ref d3), ("_watches", .ref d4)]) ∧ U d3 = some (.dK []) ∧ U d4 = some (.dK [])
theorem HdC.to {A : Adr} {U U' : Hp} {h cp d : Addr} (x : HdC A U h cp d) (s : Same U U') : HdC A U' h cp d := by
  obtain ⟨dx, a1, f, a3, d1, tr, kd, d3, d4, x1, xf, xc, x3, v, z1, z2, z3, z4, z5, z6, z7, z8, z9, z10⟩ := x.ex
  exact ⟨dx, a1, f, a3, d1, tr, kd, d3, d4, x1, xf, xc, x3, v, s _ _ z1, s _ _ z2, s _ _ z3, s _ _ z4, s _ _ z5, s _ _ z6, s _ _ z7, s _ _ z8, s _ _ z9, s _ _ z10⟩
def sp_Holdings_ended (A : Adr) (K : PySem.W.Frag) : Sp := fun vs H Q _ => ∃ (h cp d : Addr) (n : Int) (ps : List (Int × Option Pc)) (U : Hp), vs = [.ref h, .int n] ∧ HdC A U h cp d ∧ Same U H ∧ Cs A K U H cp d ps ∧ ∀ H', Ch U H U H' [d] → Cs A K U H' cp d (ps.filter fun p => decide (p.1 ≠ n)) → Q .non H'
theorem sc_Holdings_ended : FnScope ["self", "number"] ["self", "number"] (defScope s_Holdings_ended) := ⟨rfl, rfl, rfl, by decide +kernel, rfl, by decide +kernel, by decide +kernel⟩
theorem ok_Holdings_ended (T : Txt0 P K mg A) : FnOk P w K mg base CX0 2 A.fHoldings_ended A.dHoldings_ended ["self", "number"] (sp_Holdings_ended A K) := by
  refine T.FHoldings_ended.ok sc_Holdings_ended (fun vs H Q E h => ?_) (fun cdv Ar outer st H vs Q E hr h => ?_)
  · obtain ⟨_, _, _, _, _, _, rfl, _⟩ := h
    rfl
  · obtain ⟨h, cp, d, n, ps, U, rfl, hd, sU, C, q⟩ := h
    obtain ⟨dx, a1, f, a3, d1, tr, kd, d3, d4, x1, xf, xc, x3, v, z1, z2, z3, z4, z5, z6, z7, z8, z9, z10⟩ := (hd.to sU).ex
    refine ⟨_, (pss_cons (ps_expr (pe_meth (pe_fldC T.clHoldings T.nHoldings__sources (pv 0) rfl) T.clSources T.mSources_forget (ok_Sources_forget T) (hr.mono (by decide)) T.bSources_forget .nil pass0 (pa_cons (pv 1) pa_nil)))
      (pss_cons (ps_expr (pe_meth (pe_fldC T.clHoldings T.nHoldings__offers (pv 0) rfl) T.clOffers T.mOffers_forget (ok_Offers_forget T) (hr.mono (by decide)) T.bOffers_forget .nil pass0 (pa_cons (pv 1) pa_nil)))
      (pss_cons (ps_expr (pe_meth (pe_fldC T.clHoldings T.nHoldings__captures (pv 0) rfl) T.clCaptures T.mCaptures_forget (ok_Captures_forget T) (hr.mono (by decide)) T.bCaptures_forget .nil pass0 (pa_cons (pv 1) pa_nil)))
      (pss_one (ps_expr (pe_meth (pe_fldC T.clHoldings T.nHoldings__fetches (pv 0) rfl) T.clFetches T.mFetches_forget (ok_Fetches_forget T) (hr.mono (by decide)) T.bFetches_forget .nil pass0 (pa_cons (pv 1) pa_nil))))))), ?_⟩
    walk_at "gf"
    refine ⟨a1, x1, d1, n, rfl, z2, z3, ?_⟩
    walk_at "gf"
    refine ⟨f, xf, tr, kd, n, rfl, z4, z5, z6, ?_⟩
    walk_at "gf"
    refine ⟨cp, d, n, ps, U, rfl, sU, C, fun H2 c2 C2 => ?_⟩
    obtain ⟨dx', a1', f', a3', d1', tr', kd', d3', d4', x1', xf', xc', x3', v', y1, y2, y3, y4, y5, y6, y7, y8, y9, y10⟩ := (hd.to c2.vh).ex
    walk_at "gf"
    exact ⟨a3', x3', d3', d4', n, rfl, y8, y9, y10, q H2 c2 C2⟩
def sp_Holdings_answered (CE : Addr) (w : World) (A : Adr) (K : PySem.W.Frag) : Sp := fun vs H Q E => ∃ (h cp d o : Addr) (n : Int) (v : V) (U : Hp), vs = [.ref h, .int n, v, .ref o] ∧ HdC A U h cp d ∧ Same U H ∧ sp_Captures_answered CE w A K [.ref cp, .int n, v, .ref o] H Q E
theorem sc_Holdings_answered : FnScope ["self", "number", "picture", "reply"] ["self", "number", "picture", "reply"] (defScope s_Holdings_answered) := ⟨rfl, rfl, rfl, by decide +kernel, rfl, by decide +kernel, by decide +kernel⟩
theorem ok_Holdings_answered (T : Txt0 P K mg A) : FnOk P w K mg base CX0 11 A.fHoldings_answered A.dHoldings_answered ["self", "number", "picture", "reply"] (sp_Holdings_answered A.a_EVENTS w A K) := by
  refine T.FHoldings_answered.ok sc_Holdings_answered (fun vs H Q E h => ?_) (fun cdv Ar outer st H vs Q E hr h => ?_)
  · obtain ⟨_, _, _, _, _, _, _, rfl, _⟩ := h
    rfl
  · obtain ⟨h, cp, d, o, n, v, U, rfl, hd, sU, q⟩ := h
    obtain ⟨dx, a1, f, a3, d1, tr, kd, d3, d4, x1, xf, xc, x3, vv, z1, z2, z3, z4, z5, z6, z7, z8, z9, z10⟩ := (hd.to sU).ex
    refine ⟨_, (pss_one (ps_expr (pe_meth (pe_fldC T.clHoldings T.nHoldings__captures (pv 0) rfl) T.clCaptures T.mCaptures_answered (ok_Captures_answered T) (hr.mono (by decide)) T.bCaptures_answered .nil pass0 (pa_cons (pv 1) (pa_cons (pv 2) (pa_cons (pv 3) pa_nil)))))), ?_⟩
    walk_at "gf"
    exact q
/-- what ask wishes -/
def askD (n p x y w h : Int) : PyData := .tuple [.str "ask", .int n, .int p, .int x, .int y, .int w, .int h]
def tooB (w h : Int) (k : Nat) : Prop := 256 < w ∨ 256 < h ∨ 4096 < w * h ∨ 2 ≤ k
def sp__serve_ask (A : Adr) (K : PySem.W.Frag) : Sp := fun vs H Q E => ∃ (h cp d r la o lt le lw : Addr) (n0 number p x y w hh : Int) (i : Str) (vg vd : V) (ps : List (Int × Option Pc)) (U : Hp), vs = [.ref h, .ref r, vg, vd, .ref o] ∧ HdC A U h cp d ∧ Same U H ∧ Cs A K U H cp d ps ∧ Rq A.CRequest H r n0 i "ask" (.ref la) ∧ H la = some (.lst [.int number, .int p, .int x, .int y, .int w, .int hh]) ∧
  0 ≤ w ∧ w ≤ 1000 ∧ 0 ≤ hh ∧ hh ≤ 1000 ∧ ps.length ≤ 2 ∧ pFind ps number = none ∧ Rp A.CReply K U H o lt le lw [] [] [] ∧ la ≠ d ∧ r ≠ d ∧
  ((w = 0 ∨ hh = 0) → FaultTo A H E n0 4 "empty picture") ∧ (¬ (w = 0 ∨ hh = 0) → tooB w hh ps.length → FaultTo A H E n0 2 "too much") ∧
  (¬ (w = 0 ∨ hh = 0) → ¬ tooB w hh ps.length → ∀ U' H', Ch U H U' H' [d, lw] → Cs A K U' H' cp d (ps ++ [(number, none)]) → Rp A.CReply K U' H' o lt le lw [] [] [askD number p x y w hh] → Q .non H')
theorem sc_Holdings__serve_transfer : FnScope ["self", "request", "grant", "may_drag", "reply"] ["self", "request", "grant", "may_drag", "reply"] (defScope s_Holdings__serve_transfer) := ⟨rfl, rfl, rfl, by decide +kernel, rfl, by decide +kernel, by decide +kernel⟩
theorem ok_Holdings__serve_transfer (T : Txt0 P K mg A) : FnOk P w K mg base (L2.CX P w) 4 A.fHoldings__serve_transfer A.dHoldings__serve_transfer ["self", "request", "grant", "may_drag", "reply"] (sp__serve_ask A K) := by
  refine T.FHoldings__serve_transfer.okX sc_Holdings__serve_transfer (fun vs H Q E h => ?_) (fun cdv Ar outer st H vs Q E hr h => ?_)
  · obtain ⟨_, _, _, _, _, _, _, _, _, _, _, _, _, _, _, _, _, _, _, _, _, rfl, _⟩ := h
    rfl
  · obtain ⟨h, cp, d, r, la, o, lt, le, lw, n0, number, p, x, y, ww, hh, i, vg, vd, ps, U, rfl, hd, sU, C, ⟨dxr, er, erq⟩, ela, hw0, hw1, hh0, hh1, hpl, hf, R, nlad, nrd, q1, q2, q3⟩ := h
    replace q1 := Hid.mk q1
    replace q2 := Hid.mk q2
    replace q3 := Hid.mk q3
    obtain ⟨dx, a1, f, a3, d1, tr, kd, d3, d4, x1, xf, xc, x3, v, z1, z2, z3, z4, z5, z6, z7, z8, z9, z10⟩ := (hd.to sU).ex
    obtain ⟨kvs, ed, rr⟩ := C.e
    have hkl := rr.len
    refine ⟨_, (pss_one (ps_if (pt_cmpR op_eq (pe_fldC T.clRequest T.nRequest_name (pv 1) rfl) pe_str (nomark _))
      (pss_one (ps_expr (pe_meth (pe_fldC T.clHoldings T.nHoldings__sources (pv 0) rfl) T.clSources T.mSources_make (ok_Sources_make T) (hr.mono (by decide)) T.bSources_make .nil (passes_call (takes_of rfl rfl rfl rfl) (fun _ _ _ _ h => h)) (pa_cons (pv 1) pa_nil))))
      (pss_one (ps_if (pt_cmpR op_eq (pe_fldC T.clRequest T.nRequest_name (pv 1) rfl) pe_str (nomark _))
      (pss_one (ps_expr (pe_meth (pv 0) T.clHoldings T.mHoldings__give (ok_Holdings__give T) (hr.mono (by decide)) T.bHoldings__give .nil pass0 (pa_cons (pv 1) (pa_cons (pv 2) (pa_cons (pv 4) pa_nil))))))
      (pss_one (ps_if (pt_cmpR op_eq (pe_fldC T.clRequest T.nRequest_name (pv 1) rfl) pe_str (nomark _))
      (pss_one (ps_if (pt_truth (pv 3) (by intro _; rfl))
      (pss_one (ps_expr (pe_meth (pv 0) T.clHoldings T.mHoldings__give (ok_Holdings__give T) (hr.mono (by decide)) T.bHoldings__give .nil pass0 (pa_cons (pv 1) (pa_cons (pv 2) (pa_cons (pv 4) pa_nil))))))
      pss_nil))
      (pss_one (ps_if (pt_cmpR op_eq (pe_fldC T.clRequest T.nRequest_name (pv 1) rfl) pe_str (nomark _))
      (pss_one (ps_expr (pe_meth (pv 0) T.clHoldings T.mHoldings__send (ok_Holdings__send T) (hr.mono (by decide)) T.bHoldings__send .nil (passes_call (takes_of rfl rfl rfl rfl) (fun _ _ _ _ h => h)) (pa_cons (pv 1) (pa_cons (pv 4) pa_nil)))))
      (pss_one (ps_if (pt_cmpR op_eq (pe_fldC T.clRequest T.nRequest_name (pv 1) rfl) pe_str (nomark _))
      (pss_one (ps_expr (pe_meth (pv 0) T.clHoldings T.mHoldings__unsend (ok_Holdings__unsend T) (hr.mono (by decide)) T.bHoldings__unsend .nil pass0 (pa_cons (pv 1) (pa_cons (pv 4) pa_nil)))))
      (pss_one (ps_if (pt_cmpR op_eq (pe_fldC T.clRequest T.nRequest_name (pv 1) rfl) pe_str (nomark _))
      (pss_cons (ps_expr (pe_meth (pe_fldC T.clHoldings T.nHoldings__captures (pv 0) rfl) T.clCaptures T.mCaptures_make (ok_Captures_make T) (hr.mono (by decide)) T.bCaptures_make .nil (passes_call (takes_of rfl rfl rfl rfl) (fun _ _ _ _ h => h)) (pa_cons (pv 1) pa_nil)))
      (pss_one (ps_expr (pe_meth (pv 4) T.clReply T.mReply_wish (ok_Reply_wish T) (hr.mono (by decide)) T.bReply_wish .nil pass0 (pa_cons (pe_tup (pa_cons pe_str (StX.pa_star (pe_fldC T.clRequest T.nRequest_arguments (pv 1) rfl) pa_nil))) pa_nil)))))
      (pss_one (ps_if (pt_cmpR op_eq (pe_fldC T.clRequest T.nRequest_name (pv 1) rfl) pe_str (nomark _))
      (pss_one (ps_expr (pe_meth (pe_fldC T.clHoldings T.nHoldings__fetches (pv 0) rfl) T.clFetches T.mFetches_make_fetch (ok_Fetches_make_fetch T) (hr.mono (by decide)) T.bFetches_make_fetch .nil (passes_call (takes_of rfl rfl rfl rfl) (fun _ _ _ _ h => h)) (pa_cons (pv 1) pa_nil))))
      (pss_one (ps_expr (pe_meth (pe_fldC T.clHoldings T.nHoldings__fetches (pv 0) rfl) T.clFetches T.mFetches_make_watch (ok_Fetches_make_watch T) (hr.mono (by decide)) T.bFetches_make_watch .nil (passes_call (takes_of rfl rfl rfl rfl) (fun _ _ _ _ h => h)) (pa_cons (pv 1) pa_nil)))))))))))))))))), ?_⟩
    walk_at "gf"
    refine ⟨cp, xc, d, r, la, n0, number, ww, hh, i, "ask", _, _, _, kvs, rfl, z7, ed, ⟨dxr, er, erq⟩, ela, hw0, hw1, hh0, hh1, by omega, fun c => q1.go c, fun a b => q2.go a (by unfold tooB; rw [← hkl]; exact b), fun a b => ?_⟩
    have ud := C.u
    have hv0 : valV kvs (.inl number) = none := (rr.val number).elim (fun z => z.1) (fun ⟨_, _, _, z, _⟩ => by rw [hf] at z; cases z)
    have c2 := Ch.poke (o := .dK (putK kvs (.inl number) .non)) sU ud [d, lw] (by simp)
    have ob := C.ob
    have C2 : Cs A K U (upd H d (.dK (putK kvs (.inl number) .non))) cp d (ps ++ [(number, none)]) := ⟨ob, ⟨_, upd_same, by rw [putK_new _ hv0]; exact rr.app (q := none) rfl⟩, ud⟩
    have R2 : Rp A.CReply K U (upd H d (.dK (putK kvs (.inl number) .non))) o lt le lw [] [] [] := R.frame (Same.refl _) (fun b hb hu hx => ⟨hu, upd_ne (fun z => by
      subst z
      obtain ⟨dxo, wa, eo2⟩ := R.ob
      obtain ⟨y1, e1, _⟩ := R.t
      have e3 := R.e
      obtain ⟨y4, e4, _⟩ := R.w
      rcases hx with rfl | rfl | rfl | rfl
      · rw [eo2] at ed; cases ed
      · rw [e1] at ed; cases ed
      · rw [e3] at ed; cases ed
      · rw [e4] at ed; cases ed)⟩)
    have er2 : (upd H d (.dK (putK kvs (.inl number) .non))) r = _ := (upd_ne nrd).trans erq
    have ela2 : (upd H d (.dK (putK kvs (.inl number) .non))) la = _ := (upd_ne nlad).trans ela
    have s2 := c2.vh
    generalize upd H d (.dK (putK kvs (.inl number) .non)) = H2 at c2 C2 R2 er2 ela2 s2 ⊢
    obtain ⟨dxo, wa, eo2⟩ := R2.ob
    walk_at "gf"
    rename_i tp htp
    have p3 := Pu.new (o := .tup [.str "ask", .int number, .int p, .int x, .int y, .int ww, .int hh]) s2 htp
    have et : (upd U tp (.tup [.str "ask", .int number, .int p, .int x, .int y, .int ww, .int hh])) tp = _ := upd_same
    generalize upd U tp (.tup [.str "ask", .int number, .int p, .int x, .int y, .int ww, .int hh]) = U3 at p3 et
    have dt : Dp K U3 (.ref tp) (askD number p x y ww hh) := .tup (SqT.of et) (.cons (.str _) (.cons (.int _) (.cons (.int _) (.cons (.int _) (.cons (.int _) (.cons (.int _) (.cons (.int _) .nil)))))))
    refine ⟨o, lt, le, lw, .ref tp, askD number p x y ww hh, [], [], [], U3, rfl, p3.vh, R2.frame p3.vv (fun b hb hu _ => ⟨p3.out b hu hb, p3.kp b hb⟩), dt, by decide, fun H4 c4 R4 => ?_⟩
    walk_at "gf"
    have c24 : Ch U H U3 H4 [d, lw] := c2.trans ((p3.ch [d, lw]).trans (c4.mono (by simp)))
    refine q3.go a (by unfold tooB; rw [← hkl]; exact b) U3 H4 c24 (C2.frame p3.vv (fun b hb hu z => ?_)) R4
    subst z
    obtain ⟨k5, e5, _⟩ := C2.e
    obtain ⟨y4, e4, _⟩ := R2.w
    have nlw : b ≠ lw := fun z => by rw [z, e4] at e5; cases e5
    have e3b := p3.kp b hb
    exact ⟨p3.out b hu hb, (c4.kp b (by simpa using nlw) (fun z => hb (e3b.symm.trans z))).trans e3b⟩
/-- serve, of an ask or a read -/
def SvAsk (A : Adr) (K : PySem.W.Frag) : Sp := fun vs H Q E => ∃ (h r la o cp d : Addr) (n0 : Int) (g d' : Bool) (vg : V) (U : Hp), vs = [.ref h, .ref r, vg, .bl g, .bl d', .ref o] ∧ HdC A U h cp d ∧ Same U H ∧ Rq A.CRequest H r n0 "transfer" "ask" (.ref la) ∧ sp__serve_ask A K [.ref h, .ref r, vg, .bl (g && !d'), .ref o] H Q E
def SvRead (CE : Addr) (w : World) (A : Adr) (K : PySem.W.Frag) : Sp := fun vs H Q E => ∃ (h r la o cp d : Addr) (n0 : Int) (vg v1 v2 : V) (U : Hp), vs = [.ref h, .ref r, vg, v1, v2, .ref o] ∧ HdC A U h cp d ∧ Same U H ∧ Rq A.CRequest H r n0 "capture" "read" (.ref la) ∧ sp_Captures_read CE w A K [.ref cp, .ref r, .ref o] H Q E
def sp_Holdings_serve (CE : Addr) (w : World) (A : Adr) (K : PySem.W.Frag) : Sp := fun vs H Q E => SvAsk A K vs H Q E ∨ SvRead CE w A K vs H Q E
theorem sc_Holdings_serve : FnScope ["self", "request", "grant", "gripped", "dragging", "reply"] ["self", "request", "grant", "gripped", "dragging", "reply"] (defScope s_Holdings_serve) := ⟨rfl, rfl, rfl, by decide +kernel, rfl, by decide +kernel, by decide +kernel⟩
theorem ok_Holdings_serve (T : Txt0 P K mg A) : FnOk P w K mg base (L2.CX P w) 11 A.fHoldings_serve A.dHoldings_serve ["self", "request", "grant", "gripped", "dragging", "reply"] (sp_Holdings_serve A.a_EVENTS w A K) := by
  refine T.FHoldings_serve.okX sc_Holdings_serve (fun vs H Q E h => ?_) (fun cdv Ar outer st H vs Q E hr h => ?_)
  · rcases h with ⟨_, _, _, _, _, _, _, _, _, _, _, rfl, _⟩ | ⟨_, _, _, _, _, _, _, _, _, _, _, rfl, _⟩ <;> rfl
  · refine ⟨_, (pss_one (ps_if (pt_cmpR op_eq (pe_fldC T.clRequest T.nRequest_name (pv 1) rfl) pe_str (nomark _))
      (pss_one (ps_expr (pe_meth (pv 0) T.clHoldings T.mHoldings_ended (ok_Holdings_ended T) (hr.mono (by decide)) T.bHoldings_ended .nil pass0 (pa_cons (pe_fldC T.clRequest T.nRequest_number (pv 1) rfl) pa_nil))))
      (pss_one (ps_if (pt_cmpR op_eq (pe_fldC T.clRequest T.nRequest_interface (pv 1) rfl) pe_str (nomark _))
      (pss_one (ps_expr (pe_meth (pv 0) T.clHoldings T.mHoldings__serve_transfer (ok_Holdings__serve_transfer T) (hr.mono (by decide)) T.bHoldings__serve_transfer .nil (passes_call (takes_of rfl rfl rfl rfl) (fun _ _ _ _ h => h)) (pa_cons (pv 1) (pa_cons (pv 2) (pa_cons (pe_and (pv 3) (pe_one (pe_not (pv 4)))) (pa_cons (pv 5) pa_nil)))))))
      (pss_one (ps_if (pt_cmpR op_eq (pe_fldC T.clRequest T.nRequest_interface (pv 1) rfl) pe_str (nomark _))
      (pss_one (ps_expr (pe_meth (pe_fldC T.clHoldings T.nHoldings__sources (pv 0) rfl) T.clSources T.mSources_write (ok_Sources_write T) (hr.mono (by decide)) T.bSources_write .nil (passes_call (takes_of rfl rfl rfl rfl) (fun _ _ _ _ h => h)) (pa_cons (pv 1) pa_nil))))
      (pss_one (ps_if (pt_cmpR op_eq (pe_fldC T.clRequest T.nRequest_interface (pv 1) rfl) pe_str (nomark _))
      (pss_one (ps_expr (pe_meth (pe_fldC T.clHoldings T.nHoldings__offers (pv 0) rfl) T.clOffers T.mOffers_read (ok_Offers_read T) (hr.mono (by decide)) T.bOffers_read .nil (passes_call (takes_of rfl rfl rfl rfl) (fun _ _ _ _ h => h)) (pa_cons (pv 1) (pa_cons (pv 5) pa_nil)))))
      (pss_one (ps_if (pt_cmpR op_eq (pe_fldC T.clRequest T.nRequest_interface (pv 1) rfl) pe_str (nomark _))
      (pss_one (ps_expr (pe_meth (pe_fldC T.clHoldings T.nHoldings__captures (pv 0) rfl) T.clCaptures T.mCaptures_read (ok_Captures_read T) (hr.mono (by decide)) T.bCaptures_read .nil (passes_call (takes_of rfl rfl rfl rfl) (fun _ _ _ _ h => h)) (pa_cons (pv 1) (pa_cons (pv 5) pa_nil)))))
      (pss_one (ps_expr (pe_meth (pe_fldC T.clHoldings T.nHoldings__fetches (pv 0) rfl) T.clFetches T.mFetches_read (ok_Fetches_read T) (hr.mono (by decide)) T.bFetches_read .nil (passes_call (takes_of rfl rfl rfl rfl) (fun _ _ _ _ h => h)) (pa_cons (pv 1) (pa_cons (pv 5) pa_nil))))))))))))))), ?_⟩
    rcases h with ⟨h, r, la, o, cp, d, n0, g, d', vg, U, rfl, hd, sU, ⟨dxr, er, erq⟩, q⟩ | ⟨h, r, la, o, cp, d, n0, vg, v1, v2, U, rfl, hd, sU, ⟨dxr, er, erq⟩, q⟩
    · obtain ⟨dx, a1, f, a3, d1, tr, kd, d3, d4, x1, xf, xc, x3, v, z1, z2, z3, z4, z5, z6, z7, z8, z9, z10⟩ := (hd.to sU).ex
      walk_at "gf"
      cases g
      · refine if_f rfl ?_
        walk_at "gf"
        exact q
      · refine if_t rfl ?_
        walk_at "gf"
        exact q
    · obtain ⟨dx, a1, f, a3, d1, tr, kd, d3, d4, x1, xf, xc, x3, v, z1, z2, z3, z4, z5, z6, z7, z8, z9, z10⟩ := (hd.to sU).ex
      walk_at "gf"
      exact q
/-! ### what is made -/
def spI1 (C : Addr) (n1 : Str) : Sp := fun vs H Q _ => ∃ (o dx : Addr), vs = [.ref o] ∧ H o = some (.ins C dx []) ∧ ∀ (p : Addr) (H' : Hp), H p = none → H' o = some (.ins C dx [(n1, .ref p)]) → H' p = some (.dK []) → (∀ b, b ≠ o → H b ≠ none → H' b = H b) → (∀ b, H' b = none → H b = none) → Q .non H'
theorem sc_Sources___init__ : FnScope ["self"] ["self"] (defScope s_Sources___init__) := ⟨rfl, rfl, rfl, by decide +kernel, rfl, by decide +kernel, by decide +kernel⟩
theorem ok_Sources___init__ (T : Txt0 P K mg A) : FnOk P w K mg base CX0 1 A.fSources___init__ A.dSources___init__ ["self"] (spI1 A.CSources "_sources") := by
  refine T.FSources___init__.ok sc_Sources___init__ (fun vs H Q E h => ?_) (fun cdv Ar outer st H vs Q E hr h => ?_)
  · obtain ⟨_, _, rfl, _⟩ := h
    rfl
  · obtain ⟨o, dx, rfl, ho, q⟩ := h
    replace q := Hid.mk q
    refine ⟨_, (pss_one (ps_fldC T.clSources T.nSources__sources (pv 0) pe_dnewK rfl)), ?_⟩
    intro p hp
    have e1 : (upd H p (.dK [])) o = some (.ins A.CSources dx []) := by walk_at "h"
    walk_at "gf"
    intro H1 f1 k1
    exact q.go p H1 hp f1 (by walk_at "h") (by walk_at "h") (by walk_at "h")
theorem sc_Captures___init__ : FnScope ["self"] ["self"] (defScope s_Captures___init__) := ⟨rfl, rfl, rfl, by decide +kernel, rfl, by decide +kernel, by decide +kernel⟩
theorem ok_Captures___init__ (T : Txt0 P K mg A) : FnOk P w K mg base CX0 1 A.fCaptures___init__ A.dCaptures___init__ ["self"] (spI1 A.CCaptures "_pictures") := by
  refine T.FCaptures___init__.ok sc_Captures___init__ (fun vs H Q E h => ?_) (fun cdv Ar outer st H vs Q E hr h => ?_)
  · obtain ⟨_, _, rfl, _⟩ := h
    rfl
  · obtain ⟨o, dx, rfl, ho, q⟩ := h
    replace q := Hid.mk q
    refine ⟨_, (pss_one (ps_fldC T.clCaptures T.nCaptures__pictures (pv 0) pe_dnewK rfl)), ?_⟩
    intro p hp
    have e1 : (upd H p (.dK [])) o = some (.ins A.CCaptures dx []) := by walk_at "h"
    walk_at "gf"
    intro H1 f1 k1
    exact q.go p H1 hp f1 (by walk_at "h") (by walk_at "h") (by walk_at "h")
def sp_Fetches___init__ (C : Addr) : Sp := fun vs H Q _ => ∃ (o dx : Addr), vs = [.ref o] ∧ H o = some (.ins C dx []) ∧ ∀ (p p2 : Addr) (H' : Hp), H p = none → H p2 = none → p ≠ p2 → H' o = some (.ins C dx [("_fetches", .ref p), ("_watches", .ref p2)]) → H' p = some (.dK []) → H' p2 = some (.dK []) → (∀ b, b ≠ o → H b ≠ none → H' b = H b) → (∀ b, H' b = none → H b = none) → Q .non H'
theorem sc_Fetches___init__ : FnScope ["self"] ["self"] (defScope s_Fetches___init__) := ⟨rfl, rfl, rfl, by decide +kernel, rfl, by decide +kernel, by decide +kernel⟩
theorem ok_Fetches___init__ (T : Txt0 P K mg A) : FnOk P w K mg base CX0 1 A.fFetches___init__ A.dFetches___init__ ["self"] (sp_Fetches___init__ A.CFetches) := by
  refine T.FFetches___init__.ok sc_Fetches___init__ (fun vs H Q E h => ?_) (fun cdv Ar outer st H vs Q E hr h => ?_)
  · obtain ⟨_, _, rfl, _⟩ := h
    rfl
  · obtain ⟨o, dx, rfl, ho, q⟩ := h
    replace q := Hid.mk q
    refine ⟨_, (pss_cons (ps_fldC T.clFetches T.nFetches__fetches (pv 0) pe_dnewK rfl)
      (pss_one (ps_fldC T.clFetches T.nFetches__watches (pv 0) pe_dnewK rfl))), ?_⟩
    intro p hp
    have e1 : (upd H p (.dK [])) o = some (.ins A.CFetches dx []) := by walk_at "h"
    walk_at "gf"
    intro H1 f1 k1 p2 hp2
    have e2 : (upd H1 p2 (.dK [])) o = some (.ins A.CFetches dx [("_fetches", .ref p)]) := by walk_at "h"
    walk_at "gf"
    intro H2 f2 k2
    have np : p ≠ p2 := by walk_at "h"
    exact q.go p p2 H2 hp (by walk_at "h") np f2 (by walk_at "h") (by walk_at "h") (by walk_at "h") (by walk_at "h")
def sp_Offers___init__ (C : Addr) : Sp := fun vs H Q _ => ∃ (o dx : Addr), vs = [.ref o] ∧ H o = some (.ins C dx []) ∧ ∀ (p p2 : Addr) (H' : Hp), H p = none → H p2 = none → p ≠ p2 → H' o = some (.ins C dx [("_transfers", .ref p), ("_kept", .ref p2), ("_is_hovered", .bl false)]) → H' p = some (.lst []) → H' p2 = some (.dK []) → (∀ b, b ≠ o → H b ≠ none → H' b = H b) → (∀ b, H' b = none → H b = none) → Q .non H'
theorem sc_Offers___init__ : FnScope ["self"] ["self"] (defScope s_Offers___init__) := ⟨rfl, rfl, rfl, by decide +kernel, rfl, by decide +kernel, by decide +kernel⟩
theorem ok_Offers___init__ (T : Txt0 P K mg A) : FnOk P w K mg base CX0 1 A.fOffers___init__ A.dOffers___init__ ["self"] (sp_Offers___init__ A.COffers) := by
  refine T.FOffers___init__.ok sc_Offers___init__ (fun vs H Q E h => ?_) (fun cdv Ar outer st H vs Q E hr h => ?_)
  · obtain ⟨_, _, rfl, _⟩ := h
    rfl
  · obtain ⟨o, dx, rfl, ho, q⟩ := h
    replace q := Hid.mk q
    refine ⟨_, (pss_cons (ps_fldC T.clOffers T.nOffers__transfers (pv 0) (pe_lst pa_nil) rfl)
      (pss_cons (ps_fldC T.clOffers T.nOffers__kept (pv 0) pe_dnewK rfl)
      (pss_one (ps_fldC T.clOffers T.nOffers__is_hovered (pv 0) pe_bl rfl)))), ?_⟩
    refine ⟨len_line (by show 0 ≤ 100000; decide), fun p hp => ?_⟩
    have e1 : (upd H p (.lst [])) o = some (.ins A.COffers dx []) := by walk_at "h"
    walk_at "gf"
    intro H1 f1 k1 p2 hp2
    have e2 : (upd H1 p2 (.dK [])) o = some (.ins A.COffers dx [("_transfers", .ref p)]) := by walk_at "h"
    walk_at "gf"
    intro H2 f2 k2
    walk_at "gf"
    intro H3 f3 k3
    have np : p ≠ p2 := by walk_at "h"
    exact q.go p p2 H3 hp (by walk_at "h") np f3 (by walk_at "h") (by walk_at "h") (by walk_at "h") (by walk_at "h")
def sp_Holdings___init__ (A : Adr) : Sp := fun vs H Q _ => ∃ (o dx : Addr), vs = [.ref o] ∧ H o = some (.ins A.CHoldings dx []) ∧ ∀ (cp d : Addr) (H' : Hp), H d = none → HdC A (hide H' d) o cp d → H' d = some (.dK []) → (∀ b, b ≠ o → H b ≠ none → H' b = H b) → (∀ b, H' b = none → H b = none) → Q .non H'
theorem sc_Holdings___init__ : FnScope ["self"] ["self"] (defScope s_Holdings___init__) := ⟨rfl, rfl, rfl, by decide +kernel, rfl, by decide +kernel, by decide +kernel⟩
theorem ok_Holdings___init__ (T : Txt0 P K mg A) : FnOk P w K mg base CX0 3 A.fHoldings___init__ A.dHoldings___init__ ["self"] (sp_Holdings___init__ A) := by
  refine T.FHoldings___init__.ok sc_Holdings___init__ (fun vs H Q E h => ?_) (fun cdv Ar outer st H vs Q E hr h => ?_)
  · obtain ⟨_, _, rfl, _⟩ := h
    rfl
  · obtain ⟨o, dx, rfl, ho, q⟩ := h
    replace q := Hid.mk q
    refine ⟨_, (pss_cons (ps_fldC T.clHoldings T.nHoldings__sources (pv 0) (pe_make0 T.MSources (ok_Sources___init__ T) (hr.mono (by decide)) rfl T.gSources T.bSources___init__ .nil pass0) rfl)
      (pss_cons (ps_fldC T.clHoldings T.nHoldings__offers (pv 0) (pe_make0 T.MOffers (ok_Offers___init__ T) (hr.mono (by decide)) rfl T.gOffers T.bOffers___init__ .nil pass0) rfl)
      (pss_cons (ps_fldC T.clHoldings T.nHoldings__captures (pv 0) (pe_make0 T.MCaptures (ok_Captures___init__ T) (hr.mono (by decide)) rfl T.gCaptures T.bCaptures___init__ .nil pass0) rfl)
      (pss_cons (ps_fldC T.clHoldings T.nHoldings__fetches (pv 0) (pe_make0 T.MFetches (ok_Fetches___init__ T) (hr.mono (by decide)) rfl T.gFetches T.bFetches___init__ .nil pass0) rfl)
      (pss_one (ps_fldC T.clHoldings T.nHoldings__sent_names (pv 0) (pe_lst pa_nil) rfl)))))), ?_⟩
    intro a1 x1 ha1 hx1 n1
    refine ⟨a1, x1, rfl, upd_same, fun d1 H1 g1 f1 e1 k1 m1 => ⟨rfl, ?_⟩⟩
    have K1 : ∀ b, H b ≠ none → H1 b = H b := by walk_at "h"
    have M1 : ∀ b, H1 b = none → H b = none := by walk_at "h"
    have o1 : H1 o = some (.ins A.CHoldings dx []) := by walk_at "h"
    clear k1 m1 g1 hx1 n1
    walk_at "gf"
    intro H2 f2 k2
    have K2 : ∀ b, b ≠ o → H b ≠ none → H2 b = H b := by walk_at "h"
    have M2 : ∀ b, H2 b = none → H b = none := by walk_at "h"
    have A1 : H2 a1 = some (.ins A.CSources x1 [("_sources", .ref d1)]) ∧ H2 d1 = some (.dK []) := by walk_at "h"
    clear k2 K1 M1 o1 f1 e1
    intro f xf hf hxf nf
    refine ⟨f, xf, rfl, upd_same, fun tr kd H3 g3 g4 n3 f3 e3 e4 k3 m3 => ⟨rfl, ?_⟩⟩
    have K3 : ∀ b, H2 b ≠ none → H3 b = H2 b := by walk_at "h"
    have M3 : ∀ b, H3 b = none → H2 b = none := by walk_at "h"
    have o3 : H3 o = some (.ins A.CHoldings dx [("_sources", .ref a1)]) := by walk_at "h"
    have z1 : H2 tr = none := by walk_at "h"
    have z2 : H2 kd = none := by walk_at "h"
    clear k3 m3 g3 g4 hxf nf
    walk_at "gf"
    intro H4 f4 k4
    have K4 : ∀ b, b ≠ o → H2 b ≠ none → H4 b = H2 b := by walk_at "h"
    have M4 : ∀ b, H4 b = none → H2 b = none := by walk_at "h"
    have A4 : H4 f = some (.ins A.COffers xf [("_transfers", .ref tr), ("_kept", .ref kd), ("_is_hovered", .bl false)]) ∧ H4 tr = some (.lst []) ∧ H4 kd = some (.dK []) := by walk_at "h"
    clear k4 K3 M3 o3 f3 e3 e4
    intro a2 x2 ha2 hx2 n2
    refine ⟨a2, x2, rfl, upd_same, fun d2 H5 g5 f5 e5 k5 m5 => ⟨rfl, ?_⟩⟩
    have K5 : ∀ b, H4 b ≠ none → H5 b = H4 b := by walk_at "h"
    have M5 : ∀ b, H5 b = none → H4 b = none := by walk_at "h"
    have o5 : H5 o = some (.ins A.CHoldings dx [("_sources", .ref a1), ("_offers", .ref f)]) := by walk_at "h"
    have w4 : H4 d2 = none := by walk_at "h"
    have w2 : H d2 = none := M2 _ (M4 _ w4)
    have n1' : d1 ≠ d2 := fun z => by have := M4 _ w4; rw [← z, A1.2] at this; cases this
    have n2' : tr ≠ d2 := fun z => by rw [← z, A4.2.1] at w4; cases w4
    have n3'' : kd ≠ d2 := fun z => by rw [← z, A4.2.2] at w4; cases w4
    clear k5 m5 g5 hx2 n2
    walk_at "gf"
    intro H6 f6 k6
    have K6 : ∀ b, b ≠ o → H4 b ≠ none → H6 b = H4 b := by walk_at "h"
    have M6 : ∀ b, H6 b = none → H4 b = none := by walk_at "h"
    have A6 : H6 a2 = some (.ins A.CCaptures x2 [("_pictures", .ref d2)]) ∧ H6 d2 = some (.dK []) := by walk_at "h"
    clear k6 K5 M5 o5 f5 e5
    intro a3 x3 ha3 hx3 n3'
    refine ⟨a3, x3, rfl, upd_same, fun d3 d4 H7 g7 g8 n7 f7 e7 e8 k7 m7 => ⟨rfl, ?_⟩⟩
    have K7 : ∀ b, H6 b ≠ none → H7 b = H6 b := by walk_at "h"
    have M7 : ∀ b, H7 b = none → H6 b = none := by walk_at "h"
    have o7 : H7 o = some (.ins A.CHoldings dx [("_sources", .ref a1), ("_offers", .ref f), ("_captures", .ref a2)]) := by walk_at "h"
    have n4' : d3 ≠ d2 := fun z => by have h6 : H6 d2 = some (.dK []) := A6.2; walk_at "h"
    have n5' : d4 ≠ d2 := fun z => by have h6 : H6 d2 = some (.dK []) := A6.2; walk_at "h"
    clear k7 m7 g7 g8 hx3 n3'
    walk_at "gf"
    intro H8 f8 k8
    have K8 : ∀ b, b ≠ o → H6 b ≠ none → H8 b = H6 b := by walk_at "h"
    have M8 : ∀ b, H8 b = none → H6 b = none := by walk_at "h"
    have A8 : H8 a3 = some (.ins A.CFetches x3 [("_fetches", .ref d3), ("_watches", .ref d4)]) ∧ H8 d3 = some (.dK []) ∧ H8 d4 = some (.dK []) := by walk_at "h"
    clear k8 K7 M7 o7 f7 e7 e8
    refine ⟨len_line (by show 0 ≤ 100000; decide), fun p5 hp5 => ?_⟩
    have o8 : (upd H8 p5 (.lst [])) o = some (.ins A.CHoldings dx [("_sources", .ref a1), ("_offers", .ref f), ("_captures", .ref a2), ("_fetches", .ref a3)]) := by walk_at "h"
    walk_at "gf"
    intro H9 f9 k9
    have K9 : ∀ b, b ≠ o → H8 b ≠ none → H9 b = H8 b := by walk_at "h"
    have M9 : ∀ b, H9 b = none → H8 b = none := by walk_at "h"
    clear k9 o8
    have oo : ∀ b, H8 b ≠ none → b = o ∨ H9 b = H8 b := by walk_at "h"
    obtain ⟨A11, A12⟩ := A1
    obtain ⟨A41, A42, A43⟩ := A4
    obtain ⟨A61, A62⟩ := A6
    obtain ⟨A81, A82, A83⟩ := A8
    have y1 : a1 ≠ o := by walk_at "h"
    have y2 : d1 ≠ o := by walk_at "h"
    have y3 : a2 ≠ o := by walk_at "h"
    have y4 : d2 ≠ o := by walk_at "h"
    have y5 : a3 ≠ o := by walk_at "h"
    have y6 : d3 ≠ o := by walk_at "h"
    have y7 : d4 ≠ o := by walk_at "h"
    have y8 : f ≠ o := by walk_at "h"
    have y9 : tr ≠ o := by walk_at "h"
    have y10 : kd ≠ o := by walk_at "h"
    have hd9 : ∀ {b u}, b ≠ d2 → H9 b = some u → hide H9 d2 b = some u := fun hb e => (if_neg hb).trans e
    have e92 : H9 d2 = some (.dK []) := by walk_at "h"
    have w1 : H9 a1 = some (.ins A.CSources x1 [("_sources", .ref d1)]) := by walk_at "h"
    have w3 : H9 f = some (.ins A.COffers xf [("_transfers", .ref tr), ("_kept", .ref kd), ("_is_hovered", .bl false)]) := by walk_at "h"
    have w5 : H9 tr = some (.lst []) := by walk_at "h"
    have w6 : H9 a2 = some (.ins A.CCaptures x2 [("_pictures", .ref d2)]) := by walk_at "h"
    have w7 : H9 a3 = some (.ins A.CFetches x3 [("_fetches", .ref d3), ("_watches", .ref d4)]) := by walk_at "h"
    have w8 : H9 d1 = some (.dK []) := by walk_at "h"
    have w9 : H9 kd = some (.dK []) := by walk_at "h"
    have w10 : H9 d3 = some (.dK []) := by walk_at "h"
    have w11 : H9 d4 = some (.dK []) := by walk_at "h"
    exact q.go a2 d2 H9 w2 ⟨dx, a1, f, a3, d1, tr, kd, d3, d4, x1, xf, x2, x3, .ref p5, hd9 (ne_of f9 e92 (by intro z; cases z)) f9, hd9 (ne_of w1 e92 (by intro z; cases z)) w1, hd9 n1' w8, hd9 (ne_of w3 e92 (by intro z; cases z)) w3, hd9 n2' w5, hd9 n3'' w9, hd9 (ne_of w6 e92 (by intro z; cases z)) w6, hd9 (ne_of w7 e92 (by intro z; cases z)) w7, hd9 n4' w10, hd9 n5' w11⟩ e92 (by walk_at "h") (by walk_at "h")
/-! ### the law's deeds -/
theorem Pu.after {U H U1 H1 U2 H2 : Hp} {cs ds : List Addr} (a : Pu U H U1 H1) (b : Ch U1 H1 U2 H2 cs) (h : ∀ x ∈ cs, x ∈ ds ∨ H x = none) : Ch U H U2 H2 ds := by
  obtain ⟨a1, a2, a3, a4, a5⟩ := a
  obtain ⟨b1, b2, b3, b4, b5⟩ := b
  refine ⟨a1.trans b1, b2, by walk_at "h", by walk_at "h", fun b hb hn => ?_⟩
  have hc : b ∉ cs := fun z => (h b z).elim hb hn
  rw [b5 b hc (by rw [a5 b hn]; exact hn), a5 b hn]
def sp__law_size : Sp := fun vs H Q _ => ∃ (row : Int) (U : Hp), vs = [.int row] ∧ Same U H ∧ ∀ z H', Pu U H U H' → 0 ≤ z → z ≤ 257 → Q (.int z) H'
def six6 : List Int := [0, 255, 256, 257, 64, 65]
theorem sc__law_size : FnScope ["row"] ["row"] (defScope s__law_size) := ⟨rfl, rfl, rfl, by decide +kernel, rfl, by decide +kernel, by decide +kernel⟩
theorem ok__law_size (T : Txt0 P K mg A) : FnOk P w K mg base CX0 1 A.f_law_size A.d_law_size ["row"] sp__law_size := by
  refine T.F_law_size.ok sc__law_size (fun vs H Q E h => ?_) (fun cdv Ar outer st H vs Q E hr h => ?_)
  · obtain ⟨_, _, rfl, _⟩ := h
    rfl
  · obtain ⟨row, U, rfl, sU, q⟩ := h
    replace q := Hid.mk q
    refine ⟨_, (pss_cons (ps_if (pt_cmpR op_eq (pe_op op_mod (pe_callTy call_int1 (by rfl) T.int (by decide +kernel) (pa_cons (pv 0) pa_nil)) pe_int) pe_int (nomark _))
      (pss_one (ps_ret (pe_ix (r := rIxL K) ix_list (pe_lst (pa_cons pe_int (pa_cons pe_int (pa_cons pe_int (pa_cons pe_int (pa_cons pe_int (pa_cons pe_int pa_nil))))))) (pe_op op_mod (pe_callTy call_int1 (by rfl) T.int (by decide +kernel) (pa_cons (pe_op op_fdiv (pv 0) pe_int) pa_nil)) pe_int) (fun _ _ => rfl))))
      pss_nil)
      (pss_one (ps_ret (pe_op op_mod (pe_callTy call_int1 (by rfl) T.int (by decide +kernel) (pa_cons (pe_op op_fdiv (pv 0) pe_int) pa_nil)) pe_int)))), ?_⟩
    walk_at "gf"
    refine iteEq (fun c => ?_) (fun c => ?_)
    · walk_at "gf"
      rename_i pl hpl
      have p1 := Pu.skip (o := .lst [V.int 0, V.int 255, V.int 256, V.int 257, V.int 64, V.int 65]) sU hpl
      have el : (upd H pl (.lst [V.int 0, V.int 255, V.int 256, V.int 257, V.int 64, V.int 65])) pl = some (.lst (six6.map V.int)) := upd_same
      generalize upd H pl (.lst [V.int 0, V.int 255, V.int 256, V.int 257, V.int 64, V.int 65]) = H1 at p1 el ⊢
      have hj : (row / 6 % 6).toNat < six6.length := by show _ < 6; omega
      have hall : ∀ x ∈ six6, 0 ≤ x ∧ x ≤ 257 := by decide
      have hx := hall _ (List.getElem_mem hj)
      refine ⟨pl, _, _, .int six6[(row / 6 % 6).toNat], rfl, rfl, SqL.of el, L2.at_of (j := (row / 6 % 6).toNat) (by omega) (by rw [List.getElem?_map, List.getElem?_eq_getElem hj]; rfl), ?_⟩
      walk_at "gf"
      exact q.go _ H1 p1 hx.1 hx.2
    · walk_at "gf"
      exact q.go _ H (Pu.refl sU) (by omega) (by omega)
def fD (n c : Int) (wd : Str) : PyData := .tuple [.int n, .int c, .str wd]
/-- a Fault is told by the law's own tuple -/
def ToldF (K : PySem.W.Frag) (U H : Hp) (Q : VK) (n c : Int) (wd : Str) : Prop := ∀ U' H' pt e, Pu U H U' H' → U' pt = some (.tup [.non, .ref e]) → Dp K U' (.ref e) (fD n c wd) → Q (.ref pt) H'
def ToldR (A : Adr) (K : PySem.W.Frag) (U H : Hp) (Q : VK) (cp d : Addr) (ps' : List (Int × Option Pc)) (ts : List (List Int)) (ws : List PyData) : Prop :=
  ∀ U' H' pt o lt le lw, Ch U H U' H' [d] → Cs A K U' H' cp d ps' → H lt = none → H le = none → H lw = none → Rp A.CReply K U' H' o lt le lw ts [] ws → U' pt = some (.tup [.ref o, .non]) → Q (.ref pt) H'
def SrvAsk (A : Adr) (K : PySem.W.Frag) : Sp := fun vs H Q _ => ∃ (h cp d t la : Addr) (n0 number p x y w hh : Int) (vg : V) (ps : List (Int × Option Pc)) (U : Hp), vs = [.ref h, .ref t, vg, .bl true, .bl false] ∧ HdC A U h cp d ∧ Same U H ∧ Cs A K U H cp d ps ∧ H t = some (.tup [.int n0, .str "transfer", .str "ask", .ref la]) ∧ H la = some (.lst [.int number, .int p, .int x, .int y, .int w, .int hh]) ∧
  0 ≤ w ∧ w ≤ 1000 ∧ 0 ≤ hh ∧ hh ≤ 1000 ∧ ps.length ≤ 2 ∧ pFind ps number = none ∧
  ((w = 0 ∨ hh = 0) → ToldF K U H Q n0 4 "empty picture") ∧ (¬ (w = 0 ∨ hh = 0) → tooB w hh ps.length → ToldF K U H Q n0 2 "too much") ∧
  (¬ (w = 0 ∨ hh = 0) → ¬ tooB w hh ps.length → ToldR A K U H Q cp d (ps ++ [(number, none)]) [] [askD number p x y w hh])
def SrvRead (CE : Addr) (w : World) (A : Adr) (K : PySem.W.Frag) : Sp := fun vs H Q _ => ∃ (h cp d t la : Addr) (n b c : Int) (vg v1 v2 : V) (p : Option Pc) (ps : List (Int × Option Pc)) (U : Hp), vs = [.ref h, .ref t, vg, v1, v2] ∧ Evs CE w K ∧ HdC A U h cp d ∧ Same U H ∧ Cs A K U H cp d ps ∧ H t = some (.tup [.int n, .str "capture", .str "read", .ref la]) ∧ H la = some (.lst [.int b, .int c]) ∧
  num n ∧ pFind ps n = some p ∧ pcR p ∧ 0 ≤ b ∧ b ≤ 100 ∧ 0 ≤ c ∧ c ≤ 100 ∧
  (rdBad p b c → ToldF K U H Q n 1 "place out of range") ∧
  (∀ pw ph os, p = some (pw, ph, os) → ¬ rdBad p b c → ToldR A K U H Q cp d ps [rwO n b (rdCut pw os b c)] [])
def sp__law_serve (CE : Addr) (w : World) (A : Adr) (K : PySem.W.Frag) : Sp := fun vs H Q E => SrvAsk A K vs H Q E ∨ SrvRead CE w A K vs H Q E
theorem sc__law_serve : FnScope ["holdings", "row", "grant", "gripped", "dragging", "reply", "request", "e"] ["holdings", "row", "grant", "gripped", "dragging"] (defScope s__law_serve) := ⟨rfl, rfl, rfl, by decide +kernel, rfl, by decide +kernel, by decide +kernel⟩
theorem ok__law_serve (T : Txt0 P K mg A) : FnOk P w K mg base CX0 12 A.f_law_serve A.d_law_serve ["holdings", "row", "grant", "gripped", "dragging"] (sp__law_serve A.a_EVENTS w A K) := by
  refine T.F_law_serve.ok sc__law_serve (fun vs H Q E h => ?_) (fun cdv Ar outer st H vs Q E hr h => ?_)
  · rcases h with ⟨_, _, _, _, _, _, _, _, _, _, _, _, _, _, _, rfl, _⟩ | ⟨_, _, _, _, _, _, _, _, _, _, _, _, _, _, rfl, _⟩ <;> rfl
  · refine ⟨_, (pss_cons (ps_set (i := 5) sc__law_serve.nd rfl (Or.inl rfl) (pe_make0 T.MReply (ok_Reply___init__ T) (hr.mono (by decide)) rfl T.gReply T.bReply___init__ .nil pass0))
      (pss_cons (ps_set (i := 6) sc__law_serve.nd rfl (Or.inl rfl) (pe_make T.MRequest (ok_Request___init__ T) (hr.mono (by decide)) rfl T.gRequest T.bRequest___init__ .nil pass0 (pa_cons (pe_ix (r := rIxT K) ix_tup (pv 1) pe_int (fun _ _ => rfl)) (pa_cons (pe_ix (r := rIxT K) ix_tup (pv 1) pe_int (fun _ _ => rfl)) (pa_cons (pe_ix (r := rIxT K) ix_tup (pv 1) pe_int (fun _ _ => rfl)) (pa_cons (pe_ix (r := rIxT K) ix_tup (pv 1) pe_int (fun _ _ => rfl)) (pa_cons (pe_cmpR (op_eqD hr.units) (pe_ix (r := rIxT K) ix_tup (pv 1) pe_int (fun _ _ => rfl)) pe_str (nomark _)) pa_nil)))))))
      (pss_cons (ps_try_as (i := 7) rfl rfl sc__law_serve.nd rfl rfl ⟨rfl, by decide, .inl T.gFault⟩ takes0 (fun W pn xe tk _ => (pss_one (ps_expr (pe_methAt (pv 0) T.clHoldings T.mHoldings_serve (ok_Holdings_serve (P := P) (w := w) (base := base) T) (hr.mono (by decide)) T.bHoldings_serve (fun σ => passAt tk σ) (pa_cons (pv 6) (pa_cons (pv 2) (pa_cons (pv 3) (pa_cons (pv 4) (pa_cons (pv 5) pa_nil)))))))))
      (fun a oe cls d pn hz hf => (pss_one (ps_ret (pe_tup (pa_cons pe_non (pa_cons (pe_tup (pa_cons (pe_xf T.xfFault T.nFault_number hz hf (pv 7)) (pa_cons (pe_xf T.xfFault T.nFault_code hz hf (pv 7)) (pa_cons (pe_xf T.xfFault T.nFault_words hz hf (pv 7)) pa_nil)))) pa_nil)))))))
      (pss_one (ps_ret (pe_tup (pa_cons (pv 5) (pa_cons pe_non pa_nil)))))))), ?_⟩
    rcases h with ⟨h, cp, d, t, la, n0, number, p, x, y, ww, hh, vg, ps, U, rfl, hd, sU, C, et, ela, hw0, hw1, hh0, hh1, hpl, hf, q1, q2, q3⟩ | ⟨h, cp, d, t, la, n, b, c, vg, v1, v2, p, ps, U, rfl, ev, hd, sU, C, et, ela, hn, hf, hp, hb0, hb1, hc0, hc1, q1, q2⟩
    · replace q1 := Hid.mk q1
      replace q2 := Hid.mk q2
      replace q3 := Hid.mk q3
      walk_at "gf"
      intro o dxo ho hdxo nod
      refine ⟨o, dxo, U, rfl, upd_same, by walk_at "h", sU.free ho, fun lt le lw H1 s1 k1 m1 f1 f2 f3 R1 => ⟨rfl, ?_⟩⟩
      have P1 : Pu U H U H1 := ⟨Same.refl _, s1, fun _ h _ => h, by walk_at "h", by walk_at "h"⟩
      have et1 := (P1.kp t (by rw [et]; exact fun z => by cases z)).trans et
      have ela1 := (P1.kp la (by rw [ela]; exact fun z => by cases z)).trans ela
      have olw : H lw = none := by walk_at "h"
      have olt : H lt = none := by walk_at "h"
      have ole : H le = none := by walk_at "h"
      clear k1 m1 f1 f2 f3 ho hdxo nod
      walk_at "gf"
      refine ⟨.str "ask", .str "destroy", .str _, .str _, by decide +kernel, by decide +kernel, ?_⟩
      rw [show PyData.eqv (.str "ask") (.str "destroy") = false from by decide +kernel]
      walk_at "gf"
      intro rq dxq hrq hdxq nrq
      refine ⟨rq, dxq, n0, "transfer", "ask", .ref la, false, rfl, upd_same, fun H3 e3 k3 => ⟨rfl, ?_⟩⟩
      have P3 : Pu U H1 U H3 := ⟨Same.refl _, by walk_at "h", fun _ h _ => h, by walk_at "h", by walk_at "h"⟩
      have nrd : rq ≠ d := by
        obtain ⟨kvs, ed, _⟩ := C.e
        intro z
        have e1 := (P1.kp d (by rw [ed]; exact fun z => by cases z)).trans ed
        have e2 := (P3.kp d (by rw [e1]; exact fun z => by cases z)).trans e1
        rw [← z, e3] at e2; cases e2
      have ela3 := (P3.kp la (by rw [ela1]; exact fun z => by cases z)).trans ela1
      have P13 := P1.trans P3
      have C3 : Cs A K U H3 cp d ps := C.frame (Same.refl _) (fun b hb hu _ => ⟨hu, P13.kp b hb⟩)
      have R3 := R1.frame (U' := U) (H' := H3) (Same.refl _) (fun b hb hu _ => ⟨hu, P3.kp b hb⟩)
      have nlad : la ≠ d := by
        obtain ⟨kvs, ed, _⟩ := C.e
        exact ne_of ela ed (by intro z; cases z)
      clear k3 hrq hdxq nrq
      obtain ⟨dx, a1, f, a3, d1, tr, kd, d3, d4, x1, xf, xc, x3, v, z1, z2, z3, z4, z5, z6, z7, z8, z9, z10⟩ := (hd.to P13.vh).ex
      walk_at "gf"
      refine .inl ⟨h, rq, la, o, cp, d, n0, true, false, vg, U, rfl, hd, P13.vh, ⟨dxq, false, e3⟩, ?_⟩
      refine ⟨h, cp, d, rq, la, o, lt, le, lw, n0, number, p, x, y, ww, hh, "transfer", vg, .bl true, ps, U, rfl, hd, P13.vh, C3, ⟨dxq, false, e3⟩, ela3, hw0, hw1, hh0, hh1, hpl, hf, R3, nlad, nrd, fun a dd H' h1 h2 h3 h4 => ?_, fun a b dd H' h1 h2 h3 h4 => ?_, fun a b U' H' c' C' R' => ?_⟩
      · refine ⟨true, T.exFault, (fun _ a' ha => ?_), (fun z => nomatch z)⟩
        walk_at "gf"
        refine ⟨dd, _, _, rfl, h2, by unfold ffF; walk_at "lk", ?_⟩
        walk_at "gf"
        refine ⟨dd, _, _, rfl, h2, by unfold ffF; walk_at "lk", ?_⟩
        walk_at "gf"
        refine ⟨dd, _, _, rfl, h2, by unfold ffF; walk_at "lk", ?_⟩
        walk_at "gf"
        rename_i te hte tp htp
        have s3 := P13.vh
        have pf : Pu U H3 (upd U te (.tup [.int n0, .int 4, .str "empty picture"])) (upd H' te (.tup [.int n0, .int 4, .str "empty picture"])) := ⟨by walk_at "h", by walk_at "h", by walk_at "h", by walk_at "h", by walk_at "h"⟩
        have p2 := Pu.new (o := .tup [.non, .ref te]) pf.vh htp
        exact q1.go a _ _ tp te (P13.trans (pf.trans p2)) upd_same ((Dp.tup (SqT.of upd_same) (.cons (.int _) (.cons (.int _) (.cons (.str _) .nil)))).to p2.vv)
      · refine ⟨true, T.exFault, (fun _ a' ha => ?_), (fun z => nomatch z)⟩
        walk_at "gf"
        refine ⟨dd, _, _, rfl, h2, by unfold ffF; walk_at "lk", ?_⟩
        walk_at "gf"
        refine ⟨dd, _, _, rfl, h2, by unfold ffF; walk_at "lk", ?_⟩
        walk_at "gf"
        refine ⟨dd, _, _, rfl, h2, by unfold ffF; walk_at "lk", ?_⟩
        walk_at "gf"
        rename_i te hte tp htp
        have s3 := P13.vh
        have pf : Pu U H3 (upd U te (.tup [.int n0, .int 2, .str "too much"])) (upd H' te (.tup [.int n0, .int 2, .str "too much"])) := ⟨by walk_at "h", by walk_at "h", by walk_at "h", by walk_at "h", by walk_at "h"⟩
        have p2 := Pu.new (o := .tup [.non, .ref te]) pf.vh htp
        exact q2.go a b _ _ tp te (P13.trans (pf.trans p2)) upd_same ((Dp.tup (SqT.of upd_same) (.cons (.int _) (.cons (.int _) (.cons (.str _) .nil)))).to p2.vv)
      · walk_at "gf"
        rename_i tp htp
        have p2 := Pu.new (o := .tup [.ref o, .non]) c'.vh htp
        have cc : Ch U H (upd U' tp (.tup [.ref o, .non])) (upd H' tp (.tup [.ref o, .non])) [d] := P13.after (c'.trans (p2.ch _)) (fun b hb => by
          simp only [List.mem_cons, List.not_mem_nil, or_false] at hb
          rcases hb with rfl | rfl
          · exact .inl (by simp)
          · exact .inr olw)
        exact q3.go a b _ _ tp o lt le lw cc (C'.frame p2.vv (fun b hb hu _ => ⟨p2.out b hu hb, p2.kp b hb⟩)) olt ole olw (R'.frame p2.vv (fun b hb hu _ => ⟨p2.out b hu hb, p2.kp b hb⟩)) upd_same
    · replace q1 := Hid.mk q1
      replace q2 := Hid.mk q2
      walk_at "gf"
      intro o dxo ho hdxo nod
      refine ⟨o, dxo, U, rfl, upd_same, by walk_at "h", sU.free ho, fun lt le lw H1 s1 k1 m1 f1 f2 f3 R1 => ⟨rfl, ?_⟩⟩
      have P1 : Pu U H U H1 := ⟨Same.refl _, s1, fun _ h _ => h, by walk_at "h", by walk_at "h"⟩
      have et1 := (P1.kp t (by rw [et]; exact fun z => by cases z)).trans et
      have ela1 := (P1.kp la (by rw [ela]; exact fun z => by cases z)).trans ela
      have olw : H lw = none := by walk_at "h"
      have olt : H lt = none := by walk_at "h"
      have ole : H le = none := by walk_at "h"
      clear k1 m1 f1 f2 f3 ho hdxo nod
      walk_at "gf"
      refine ⟨.str "read", .str "destroy", .str _, .str _, by decide +kernel, by decide +kernel, ?_⟩
      rw [show PyData.eqv (.str "read") (.str "destroy") = false from by decide +kernel]
      walk_at "gf"
      intro rq dxq hrq hdxq nrq
      refine ⟨rq, dxq, n, "capture", "read", .ref la, false, rfl, upd_same, fun H3 e3 k3 => ⟨rfl, ?_⟩⟩
      have P3 : Pu U H1 U H3 := ⟨Same.refl _, by walk_at "h", fun _ h _ => h, by walk_at "h", by walk_at "h"⟩
      have nrd : rq ≠ d := by
        obtain ⟨kvs, ed, _⟩ := C.e
        intro z
        have e1 := (P1.kp d (by rw [ed]; exact fun z => by cases z)).trans ed
        have e2 := (P3.kp d (by rw [e1]; exact fun z => by cases z)).trans e1
        rw [← z, e3] at e2; cases e2
      have ela3 := (P3.kp la (by rw [ela1]; exact fun z => by cases z)).trans ela1
      have P13 := P1.trans P3
      have C3 : Cs A K U H3 cp d ps := C.frame (Same.refl _) (fun b hb hu _ => ⟨hu, P13.kp b hb⟩)
      have R3 := R1.frame (U' := U) (H' := H3) (Same.refl _) (fun b hb hu _ => ⟨hu, P3.kp b hb⟩)
      have nlad : la ≠ d := by
        obtain ⟨kvs, ed, _⟩ := C.e
        exact ne_of ela ed (by intro z; cases z)
      clear k3 hrq hdxq nrq
      obtain ⟨dx, a1, f, a3, d1, tr, kd, d3, d4, x1, xf, xc, x3, v, z1, z2, z3, z4, z5, z6, z7, z8, z9, z10⟩ := (hd.to P13.vh).ex
      walk_at "gf"
      refine .inr ⟨h, rq, la, o, cp, d, n, vg, v1, v2, U, rfl, hd, P13.vh, ⟨dxq, false, e3⟩, ?_⟩
      refine ⟨cp, d, rq, la, o, lt, le, lw, n, b, c, "capture", "read", p, ps, [], U, rfl, P13.vh, ev, hn, C3, hf, hp, ⟨dxq, false, e3⟩, ela3, hb0, hb1, hc0, hc1, R3, fun a dd H' h1 h2 h3 h4 => ?_, fun pw ph os e1 a U' H' c' C' R' => ?_⟩
      · refine ⟨true, T.exFault, (fun _ a' ha => ?_), (fun z => nomatch z)⟩
        walk_at "gf"
        refine ⟨dd, _, _, rfl, h2, by unfold ffF; walk_at "lk", ?_⟩
        walk_at "gf"
        refine ⟨dd, _, _, rfl, h2, by unfold ffF; walk_at "lk", ?_⟩
        walk_at "gf"
        refine ⟨dd, _, _, rfl, h2, by unfold ffF; walk_at "lk", ?_⟩
        walk_at "gf"
        rename_i te hte tp htp
        have s3 := P13.vh
        have pf : Pu U H3 (upd U te (.tup [.int n, .int 1, .str "place out of range"])) (upd H' te (.tup [.int n, .int 1, .str "place out of range"])) := ⟨by walk_at "h", by walk_at "h", by walk_at "h", by walk_at "h", by walk_at "h"⟩
        have p2 := Pu.new (o := .tup [.non, .ref te]) pf.vh htp
        exact q1.go a _ _ tp te (P13.trans (pf.trans p2)) upd_same ((Dp.tup (SqT.of upd_same) (.cons (.int _) (.cons (.int _) (.cons (.str _) .nil)))).to p2.vv)
      · walk_at "gf"
        rename_i tp htp
        have p2 := Pu.new (o := .tup [.ref o, .non]) c'.vh htp
        have cc : Ch U H (upd U' tp (.tup [.ref o, .non])) (upd H' tp (.tup [.ref o, .non])) [d] := P13.after (c'.trans (p2.ch _)) (fun b hb => by
          rw [List.mem_singleton] at hb
          rw [hb]; exact .inr olt)
        exact q2.go pw ph os e1 a _ _ tp o lt le lw cc (C'.frame p2.vv (fun b hb hu _ => ⟨p2.out b hu hb, p2.kp b hb⟩)) olt ole olw (R'.frame p2.vv (fun b hb hu _ => ⟨p2.out b hu hb, p2.kp b hb⟩)) upd_same
/-! ### the law's own list of captures -/
structure Cap where
  n : Int
  w : Int
  h : Int
  o : Option (List Int)
  f : Bool
def OctV (U : Hp) : V → Option (List Int) → Prop
  | v, none => v = .non
  | v, some os => ∃ b, v = .ref b ∧ U b = some (.lst (os.map V.int))
theorem OctV.to {U U' : Hp} {v : V} {o : Option (List Int)} (h : OctV U v o) (s : Same U U') : OctV U' v o := by
  cases o with
  | none => exact h
  | some os => obtain ⟨b, e, z⟩ := h; exact ⟨b, e, s _ _ z⟩
def CapAt (U H : Hp) (a : Addr) (c : Cap) : Prop := ∃ v, H a = some (.lst [.int c.n, .int c.w, .int c.h, v, .bl c.f]) ∧ U a = none ∧ OctV U v c.o
structure CapsAt (U H : Hp) (cl : Addr) (as : List Addr) (cs : List Cap) : Prop where
  e : H cl = some (.lst (as.map V.ref))
  u : U cl = none
  nd : as.Nodup
  ni : cl ∉ as
  len : as.length = cs.length
  at_ : ∀ (i : Nat) (a : Addr), as[i]? = some a → ∃ c, cs[i]? = some c ∧ CapAt U H a c
theorem CapsAt.frame {U H U' H' : Hp} {cl : Addr} {as : List Addr} {cs : List Cap} (h : CapsAt U H cl as cs) (s : Same U U') (k : ∀ b, H b ≠ none → U b = none → (b = cl ∨ b ∈ as) → U' b = none ∧ H' b = H b) : CapsAt U' H' cl as cs := by
  have k1 := k cl (by rw [h.e]; exact fun z => by cases z) h.u (.inl rfl)
  refine ⟨k1.2.trans h.e, k1.1, h.nd, h.ni, h.len, fun i a ha => ?_⟩
  obtain ⟨c, hc, v, e1, u1, o1⟩ := h.at_ i a ha
  have k2 := k a (by rw [e1]; exact fun z => by cases z) u1 (.inr (List.mem_of_getElem? ha))
  exact ⟨c, hc, v, k2.2.trans e1, k2.1, o1.to s⟩
theorem CapsAt.ne {U H : Hp} {cl d : Addr} {as : List Addr} {cs : List Cap} (h : CapsAt U H cl as cs) {kvs : List (Key × V)} (e : H d = some (.dK kvs)) {b : Addr} (hb : b = cl ∨ b ∈ as) : b ≠ d := by
  rcases hb with rfl | hb
  · exact ne_of h.e e (by intro z; cases z)
  · obtain ⟨i, hi⟩ := List.getElem?_of_mem hb
    obtain ⟨c, _, v, e1, _⟩ := h.at_ i b hi
    exact ne_of e1 e (by intro z; cases z)
theorem CapsAt.push {U H : Hp} {cl na : Addr} {as : List Addr} {cs : List Cap} (h : CapsAt U H cl as cs) {c : Cap} (hc : CapAt U H na c) (hn : na ∉ as) (hne : na ≠ cl) : CapsAt U (upd H cl (.lst (as.map V.ref ++ [.ref na]))) cl (as ++ [na]) (cs ++ [c]) := by
  have k : ∀ b, b ≠ cl → (upd H cl (.lst (as.map V.ref ++ [.ref na]))) b = H b := fun b hb => upd_ne hb
  refine ⟨by rw [upd_same, List.map_append]; rfl, h.u, ?_, ?_, by rw [List.length_append, List.length_append, h.len]; rfl, fun i a ha => ?_⟩
  · refine List.nodup_append.mpr ⟨h.nd, by simp, fun x hx y hy z => ?_⟩
    rw [List.mem_singleton] at hy
    exact hn (by rw [← hy, ← z]; exact hx)
  · intro z
    rcases List.mem_append.mp z with z | z
    · exact h.ni z
    · rw [List.mem_singleton] at z; exact hne z.symm
  · by_cases hlt : i < as.length
    · rw [List.getElem?_append_left hlt] at ha
      obtain ⟨c', h1, v, e1, u1, o1⟩ := h.at_ i a ha
      exact ⟨c', by rw [List.getElem?_append_left (by rw [← h.len]; exact hlt)]; exact h1, v, (k a (fun z => h.ni (by rw [← z]; exact List.mem_of_getElem? ha))).trans e1, u1, o1⟩
    · have hl := (List.getElem?_eq_some_iff.mp ha).1
      rw [List.length_append] at hl
      have hi : i = as.length := by have : i < as.length + 1 := hl; omega
      subst hi
      rw [List.getElem?_append_right (Nat.le_refl _), Nat.sub_self] at ha
      cases ha
      obtain ⟨v, e1, u1, o1⟩ := hc
      exact ⟨c, by rw [h.len, List.getElem?_append_right (Nat.le_refl _), Nat.sub_self]; rfl, v, (k na hne).trans e1, u1, o1⟩
def pics (cs : List Cap) : List (Int × Option Pc) := cs.map fun c => (c.n, c.o.map fun os => (c.w, c.h, os))
theorem pics_none {cs : List Cap} {n : Int} (h : ∀ c ∈ cs, c.n ≠ n) : pFind (pics cs) n = none := by
  unfold pFind pics
  rw [Option.map_eq_none_iff, List.find?_eq_none]
  intro p hp
  obtain ⟨c, hc, rfl⟩ := List.mem_map.mp hp
  simpa using h c hc
theorem sh_fD (n c : Int) (wd : Str) (h : PyData.strOk wd = true) : Sh 1 (fD n c wd) := sh_tuple fun d hd => by
  simp only [List.mem_cons, List.not_mem_nil, or_false] at hd
  rcases hd with rfl | rfl | rfl
  · exact sh_int _
  · exact sh_int _
  · exact sh_str h
theorem sh_ask (n p x y w h : Int) : Sh 1 (askD n p x y w h) := sh_tuple fun d hd => by
  simp only [List.mem_cons, List.not_mem_nil, or_false] at hd
  rcases hd with rfl | rfl | rfl | rfl | rfl | rfl | rfl
  · exact sh_str (by decide +kernel)
  all_goals exact sh_int _
def sp__law_ask (CE : Addr) (w : World) (A : Adr) (K : PySem.W.Frag) : Sp := fun vs H Q _ => ∃ (h cp d cl : Addr) (k : Nat) (row : Int) (as : List Addr) (cs : List Cap) (U : Hp), vs = [.ref h, .ref cl, .int (k : Int), .int row] ∧ k ≤ 100 ∧ HdC A U h cp d ∧ Same U H ∧ Cs A K U H cp d (pics cs) ∧ CapsAt U H cl as cs ∧ (∀ c ∈ cs, c.n < 70 + (k : Int)) ∧ cs.length ≤ 2 ∧
  ∀ U' H' as' cs', Ch U H U' H' [d, cl] → Cs A K U' H' cp d (pics cs') → CapsAt U' H' cl as' cs' → (cs' = cs ∨ ∃ w h, 0 ≤ w ∧ w ≤ 256 ∧ 0 ≤ h ∧ h ≤ 256 ∧ w * h ≤ 4096 ∧ cs.length < 2 ∧ cs' = cs ++ [⟨70 + (k : Int), w, h, none, false⟩]) → Q (.bl true) H'
theorem sc__law_ask : FnScope ["holdings", "captures", "k", "row", "number", "width", "height", "place", "told"] ["holdings", "captures", "k", "row"] (defScope s__law_ask) := ⟨rfl, rfl, rfl, by decide +kernel, rfl, by decide +kernel, by decide +kernel⟩
theorem ok__law_ask (T : Txt0 P K mg A) : FnOk P w K mg base CX0 13 A.f_law_ask A.d_law_ask ["holdings", "captures", "k", "row"] (sp__law_ask A.a_EVENTS w A K) := by
  refine T.F_law_ask.ok sc__law_ask (fun vs H Q E h => ?_) (fun cdv Ar outer st H vs Q E hr h => ?_)
  · obtain ⟨_, _, _, _, _, _, _, _, _, rfl, _⟩ := h
    rfl
  · obtain ⟨h, cp, d, cl, k, row, as, cs, U, rfl, hk, hd, sU, C, L, hlt, hcl, q⟩ := h
    replace q := Hid.mk q
    refine ⟨_, (pss_cons (ps_set (i := 4) sc__law_ask.nd rfl (Or.inl rfl) (pe_op op_add pe_int (pv 2)))
      (pss_cons (ps_set (i := 5) sc__law_ask.nd rfl (Or.inl rfl) (pe_call (ok__law_size T) (hr.mono (by decide)) rfl T.g_law_size T.k_law_size T.b_law_size .nil pass0 (pa_cons (pv 3) pa_nil)))
      (pss_cons (ps_set (i := 6) sc__law_ask.nd rfl (Or.inl rfl) (pe_call (ok__law_size T) (hr.mono (by decide)) rfl T.g_law_size T.k_law_size T.b_law_size .nil pass0 (pa_cons (pe_op op_fdiv (pv 3) pe_int) pa_nil)))
      (pss_cons (ps_set (i := 7) sc__law_ask.nd rfl (Or.inl rfl) (pe_tup (pa_cons (pe_op op_sub (pe_op op_mod (pe_callTy call_int1 (by rfl) T.int (by decide +kernel) (pa_cons (pe_op op_fdiv (pv 3) pe_int) pa_nil)) pe_int) pe_int) (pa_cons (pe_op op_sub (pe_op op_mod (pe_callTy call_int1 (by rfl) T.int (by decide +kernel) (pa_cons (pe_op op_fdiv (pv 3) pe_int) pa_nil)) pe_int) pe_int) pa_nil))))
      (pss_cons (ps_set (i := 8) sc__law_ask.nd rfl (Or.inl rfl) (pe_call (ok__law_serve T) (hr.mono (by decide)) rfl T.g_law_serve T.k_law_serve T.b_law_serve .nil pass0 (pa_cons (pv 0) (pa_cons (pe_tup (pa_cons pe_int (pa_cons pe_str (pa_cons pe_str (pa_cons (pe_lst (pa_cons (pv 4) (pa_cons pe_int (pa_cons (pe_ix (r := rIxT K) ix_tup (pv 7) pe_int (fun _ _ => rfl)) (pa_cons (pe_ix (r := rIxT K) ix_tup (pv 7) pe_int (fun _ _ => rfl)) (pa_cons (pv 5) (pa_cons (pv 6) pa_nil))))))) pa_nil))))) (pa_cons pe_int (pa_cons pe_bl (pa_cons pe_bl pa_nil)))))))
      (pss_cons (ps_if (PW.pt (pw_or (pt_cmpR op_eq (pv 5) pe_int (nomark _)) (pw_or1 (pt_cmpR op_eq (pv 6) pe_int (nomark _)))))
      (pss_one (ps_ret (pe_cmpR (op_eqD hr.units) (pe_ix (r := rIxT K) ix_tup (pv 8) pe_int (fun _ _ => rfl)) (pe_tup (pa_cons pe_int (pa_cons pe_int (pa_cons pe_str pa_nil)))) (nomark _))))
      pss_nil)
      (pss_cons (ps_if (PW.pt (pw_or (pt_cmpR op_gt (pv 5) pe_int (nomark _)) (pw_or (pt_cmpR op_gt (pv 6) pe_int (nomark _)) (pw_or (pt_cmpR op_gt (pe_op op_mul (pv 5) (pv 6)) pe_int (nomark _)) (pw_or1 (pt_cmpR op_ge (pe_callB call_len_seq (by rfl) T.len PySem.boot_len (pa_cons (pv 1) pa_nil)) pe_int (nomark _)))))))
      (pss_one (ps_ret (pe_cmpR (op_eqD hr.units) (pe_ix (r := rIxT K) ix_tup (pv 8) pe_int (fun _ _ => rfl)) (pe_tup (pa_cons pe_int (pa_cons pe_int (pa_cons pe_str pa_nil)))) (nomark _))))
      pss_nil)
      (pss_cons (ps_expr (pe_bm PySem.F.plainAttrs_list PySem.F.slot_list_append PySem.F.type_list_append mt_append (pv 1) (pa_cons (pe_lst (pa_cons (pv 4) (pa_cons (pv 5) (pa_cons (pv 6) (pa_cons pe_non (pa_cons pe_bl pa_nil)))))) pa_nil)))
      (pss_one (ps_ret (pe_and (pe_cmpR op_isN (pe_ix (r := rIxT K) ix_tup (pv 8) pe_int (fun _ _ => rfl)) pe_non (nomark _)) (pe_one (pe_cmpR (op_eqD hr.units) (pe_fld (pe_ix (r := rIxT K) ix_tup (pv 8) pe_int (fun _ _ => rfl)) rfl) (pe_lst (pa_cons (pe_tup (pa_cons pe_str (pa_cons (pv 4) (pa_cons pe_int (pa_cons (pe_ix (r := rIxT K) ix_tup (pv 7) pe_int (fun _ _ => rfl)) (pa_cons (pe_ix (r := rIxT K) ix_tup (pv 7) pe_int (fun _ _ => rfl)) (pa_cons (pv 5) (pa_cons (pv 6) pa_nil)))))))) pa_nil)) (nomark _)))))))))))))), ?_⟩
    walk_at "gf"
    refine ⟨row, U, rfl, sU, fun ww H1 p1 hw0 hw1 => ?_⟩
    walk_at "gf"
    refine ⟨row / 97, U, rfl, p1.vh, fun hh H2 p2 hh0 hh1 => ?_⟩
    have P2 := p1.trans p2
    walk_at "gf"
    rename_i tp htp la hla rt hrt
    obtain ⟨px, hpx⟩ : ∃ px, px = row / 13 % 500 - 250 := ⟨_, rfl⟩
    obtain ⟨py, hpy⟩ : ∃ py, py = row / 29 % 500 - 250 := ⟨_, rfl⟩
    have P3 := P2.trans (Pu.skip (o := .tup [.int (row / 13 % 500 - 250), .int (row / 29 % 500 - 250)]) P2.vh htp)
    have P4 := P3.trans (Pu.skip (o := .lst [.int (70 + (k : Int)), .int 9, .int (row / 13 % 500 - 250), .int (row / 29 % 500 - 250), .int ww, .int hh]) P3.vh hla)
    have P5 := P4.trans (Pu.skip (o := .tup [.int 5, .str "transfer", .str "ask", .ref la]) P4.vh hrt)
    have ert : (upd (upd (upd H2 tp (.tup [.int (row / 13 % 500 - 250), .int (row / 29 % 500 - 250)])) la (.lst [.int (70 + (k : Int)), .int 9, .int (row / 13 % 500 - 250), .int (row / 29 % 500 - 250), .int ww, .int hh])) rt (.tup [.int 5, .str "transfer", .str "ask", .ref la])) rt = _ := upd_same
    have ela := same_upd (o := .tup [.int 5, .str "transfer", .str "ask", .ref la]) hrt _ _ (upd_same (H := upd H2 tp (.tup [.int (row / 13 % 500 - 250), .int (row / 29 % 500 - 250)])) (a := la) (o := .lst [.int (70 + (k : Int)), .int 9, .int (row / 13 % 500 - 250), .int (row / 29 % 500 - 250), .int ww, .int hh]))
    have etp := same_upd (o := .tup [.int 5, .str "transfer", .str "ask", .ref la]) hrt _ _ (same_upd (o := .lst [.int (70 + (k : Int)), .int 9, .int (row / 13 % 500 - 250), .int (row / 29 % 500 - 250), .int ww, .int hh]) hla _ _ (upd_same (H := H2) (a := tp) (o := .tup [.int (row / 13 % 500 - 250), .int (row / 29 % 500 - 250)])))
    generalize upd (upd (upd H2 tp (.tup [.int (row / 13 % 500 - 250), .int (row / 29 % 500 - 250)])) la (.lst [.int (70 + (k : Int)), .int 9, .int (row / 13 % 500 - 250), .int (row / 29 % 500 - 250), .int ww, .int hh])) rt (.tup [.int 5, .str "transfer", .str "ask", .ref la]) = H5 at P5 ert ela etp ⊢
    rw [← hpx, ← hpy] at ela etp
    clear P4 P3 p1 p2 hrt hla htp
    have C5 : Cs A K U H5 cp d (pics cs) := C.frame (Same.refl _) (fun b hb hu _ => ⟨hu, P5.kp b hb⟩)
    have hpl : (pics cs).length = cs.length := List.length_map ..
    have fres : ∀ U6 H6, Pu U H5 U6 H6 → Q (.bl true) H6 := fun U6 H6 p6 => by
      have pp := P5.trans p6
      exact q.go U6 H6 as cs (pp.ch _) (C.frame pp.vv (fun b hb hu _ => ⟨pp.out b hu hb, pp.kp b hb⟩)) (L.frame pp.vv (fun b hb hu _ => ⟨pp.out b hu hb, pp.kp b hb⟩)) (.inl rfl)
    refine .inl ⟨h, cp, d, rt, la, 5, 70 + (k : Int), 9, px, py, ww, hh, .int 1, pics cs, U, rfl, hd, P5.vh, C5, ert, ela, hw0, by omega, hh0, by omega, by omega, pics_none (fun c hc z => by have := hlt c hc; omega), fun a U6 H6 pt e p6 e6 d6 => ?_, fun a b U6 H6 pt e p6 e6 d6 => ?_, fun a b U6 H6 pt o lt le lw c6 C6 olt ole olw R6 e6 => ?_⟩
    · have e6H := p6.vh _ _ e6
      walk_at "gf"
      apply useR (C := ww = 0 ∨ hh = 0)
      · intro rr bb
        refine iteEq (fun c => bb (.inl c)) (fun c => ?_)
        walk_at "gf"
        exact iteEq (fun c2 => bb (.inr c2)) (fun c2 => rr (fun z => z.elim c c2))
      · exact fun z => absurd a z
      · intro _
        walk_at "gf"
        rename_i t2 ht2
        have p7 := Pu.skip (o := .tup [.int 5, .int 4, .str "empty picture"]) p6.vh ht2
        refine ⟨fD 5 4 "empty picture", fD 5 4 "empty picture", d6.to p7.vh, .tup (SqT.of upd_same) (.cons (.int _) (.cons (.int _) (.cons (.str _) .nil))), (sh_fD _ _ _ (by decide +kernel)).shaped, (sh_fD _ _ _ (by decide +kernel)).shaped, ?_⟩
        rw [(sh_fD _ _ _ (by decide +kernel)).self]
        exact fres _ _ (p6.trans p7)
    · have e6H := p6.vh _ _ e6
      have ecl6 := (p6.kp cl (by rw [(P5.kp cl (by rw [L.e]; exact fun z => by cases z)), L.e]; exact fun z => by cases z)).trans ((P5.kp cl (by rw [L.e]; exact fun z => by cases z)).trans L.e)
      rw [hpl] at b
      walk_at "gf"
      apply useR (C := ww = 0 ∨ hh = 0)
      · intro rr bb
        refine iteEq (fun c => bb (.inl c)) (fun c => ?_)
        walk_at "gf"
        exact iteEq (fun c2 => bb (.inr c2)) (fun c2 => rr (fun z => z.elim c c2))
      · intro _
        walk_at "gf"
        apply useR (C := tooB ww hh cs.length)
        · intro rr bb
          refine iteP (fun c1 => bb (.inl c1)) (fun c1 => ?_)
          walk_at "gf"
          refine iteP (fun c2 => bb (.inr (.inl c2))) (fun c2 => ?_)
          walk_at "gf"
          refine iteP (fun c3 => bb (.inr (.inr (.inl c3)))) (fun c3 => ?_)
          walk_at "gf"
          have hll : (as.map V.ref).length = cs.length := by rw [List.length_map, L.len]
          refine iteP (fun c4 => bb (.inr (.inr (.inr (by omega))))) (fun c4 => rr (fun z => ?_))
          rcases z with z | z | z | z
          · exact c1 z
          · exact c2 z
          · exact c3 z
          · exact c4 (by omega)
        · exact fun z => absurd b z
        · intro _
          walk_at "gf"
          rename_i t2 ht2
          have p7 := Pu.skip (o := .tup [.int 5, .int 2, .str "too much"]) p6.vh ht2
          refine ⟨fD 5 2 "too much", fD 5 2 "too much", d6.to p7.vh, .tup (SqT.of upd_same) (.cons (.int _) (.cons (.int _) (.cons (.str _) .nil))), (sh_fD _ _ _ (by decide +kernel)).shaped, (sh_fD _ _ _ (by decide +kernel)).shaped, ?_⟩
          rw [(sh_fD _ _ _ (by decide +kernel)).self]
          exact fres _ _ (p6.trans p7)
      · exact fun z => absurd z a
    · have e6H := c6.vh _ _ e6
      have ncd : cl ≠ d := by
        obtain ⟨kvs, ed, _⟩ := C.e
        exact ne_of L.e ed (by intro z; cases z)
      have ecl5 := (P5.kp cl (by rw [L.e]; exact fun z => by cases z)).trans L.e
      have ecl6 := (c6.kp cl (by simpa using ncd) (by rw [ecl5]; exact fun z => by cases z)).trans ecl5
      rw [hpl] at b
      walk_at "gf"
      apply useR (C := ww = 0 ∨ hh = 0)
      · intro rr bb
        refine iteEq (fun c => bb (.inl c)) (fun c => ?_)
        walk_at "gf"
        exact iteEq (fun c2 => bb (.inr c2)) (fun c2 => rr (fun z => z.elim c c2))
      · intro _
        walk_at "gf"
        apply useR (C := tooB ww hh cs.length)
        · intro rr bb
          refine iteP (fun c1 => bb (.inl c1)) (fun c1 => ?_)
          walk_at "gf"
          refine iteP (fun c2 => bb (.inr (.inl c2))) (fun c2 => ?_)
          walk_at "gf"
          refine iteP (fun c3 => bb (.inr (.inr (.inl c3)))) (fun c3 => ?_)
          walk_at "gf"
          have hll : (as.map V.ref).length = cs.length := by rw [List.length_map, L.len]
          refine iteP (fun c4 => bb (.inr (.inr (.inr (by omega))))) (fun c4 => rr (fun z => ?_))
          rcases z with z | z | z | z
          · exact c1 z
          · exact c2 z
          · exact c3 z
          · exact c4 (by omega)
        · intro hnb
          walk_at "gf"
          rename_i na hna
          obtain ⟨kvs, ed5, _⟩ := C5.e
          have L5 : CapsAt U H5 cl as cs := L.frame (Same.refl _) (fun b hb hu _ => ⟨hu, P5.kp b hb⟩)
          have L6 : CapsAt U6 H6 cl as cs := L5.frame c6.vv (fun b hb hu hx => ⟨c6.out b hu hb, c6.kp b (by simpa using L5.ne ed5 hx) hb⟩)
          have p7 := Pu.skip (o := .lst [.int (70 + (k : Int)), .int ww, .int hh, .non, .bl false]) c6.vh hna
          have ena : (upd H6 na (.lst [.int (70 + (k : Int)), .int ww, .int hh, .non, .bl false])) na = _ := upd_same
          have una : U6 na = none := c6.vh.free hna
          have nnas : na ∉ as := fun z => by
            obtain ⟨j, hj⟩ := List.getElem?_of_mem z
            obtain ⟨_, _, _, e1, _⟩ := L6.at_ j na hj
            rw [e1] at hna; cases hna
          have nnacl : na ≠ cl := fun z => by rw [z, ecl6] at hna; cases hna
          have ntpd : tp ≠ d := ne_of etp ed5 (by intro z; cases z)
          have ntpcl : tp ≠ cl := ne_of etp ecl5 (by intro z; cases z)
          have etp7 := (p7.kp tp (by rw [c6.kp tp (by simpa using ntpd) (by rw [etp]; exact fun z => by cases z), etp]; exact fun z => by cases z)).trans ((c6.kp tp (by simpa using ntpd) (by rw [etp]; exact fun z => by cases z)).trans etp)
          have ecl7 := (p7.kp cl (by rw [ecl6]; exact fun z => by cases z)).trans ecl6
          have L7 : CapsAt U6 (upd H6 na (.lst [.int (70 + (k : Int)), .int ww, .int hh, .non, .bl false])) cl as cs := L6.frame (Same.refl _) (fun b hb hu _ => ⟨hu, p7.kp b hb⟩)
          have R7 := R6.frame (U' := U6) (Same.refl _) (fun b hb hu _ => ⟨hu, p7.kp b hb⟩)
          have C7 := C6.frame (U' := U6) (Same.refl _) (fun b hb hu _ => ⟨hu, p7.kp b hb⟩)
          have L8 := L7.push (c := ⟨70 + (k : Int), ww, hh, none, false⟩) ⟨.non, ena, una, rfl⟩ nnas nnacl
          generalize upd H6 na (.lst [.int (70 + (k : Int)), .int ww, .int hh, .non, .bl false]) = H7 at p7 ena etp7 ecl7 L7 R7 C7 L8 ⊢
          refine ⟨cl, _, _, rfl, rfl, ecl7, Nat.lt_of_lt_of_le (m := 100000) (by rw [List.length_map, L.len]; omega) (by decide), ?_⟩
          have c8 := Ch.poke (o := .lst (as.map V.ref ++ [.ref na])) p7.vh L7.u [d, cl] (by simp)
          have k8 : ∀ b, b ≠ cl → (upd H7 cl (.lst (as.map V.ref ++ [.ref na]))) b = H7 b := fun b hb => upd_ne hb
          have R8 : Rp A.CReply K U6 (upd H7 cl (.lst (as.map V.ref ++ [.ref na]))) o lt le lw [] [] [askD (70 + (k : Int)) 9 px py ww hh] := R7.frame (Same.refl _) (fun b hb hu hx => ⟨hu, k8 b (fun z => by
            subst z
            have h5 : H5 b ≠ none := by rw [ecl5]; exact fun z => by cases z
            rcases hx with z | z | z | z
            · obtain ⟨_, _, eo7⟩ := R7.ob
              rw [← z, ecl7] at eo7; cases eo7
            · exact h5 (by rw [z]; exact olt)
            · exact h5 (by rw [z]; exact ole)
            · exact h5 (by rw [z]; exact olw))⟩)
          have C8 : Cs A K U6 (upd H7 cl (.lst (as.map V.ref ++ [.ref na]))) cp d (pics cs ++ [(70 + (k : Int), none)]) := C7.frame (Same.refl _) (fun b hb hu hx => ⟨hu, k8 b (by rw [hx]; exact ncd.symm)⟩)
          have etp8 := (k8 tp ntpcl).trans etp7
          have e8 := c8.vh _ _ e6
          have s8 := c8.vh
          generalize upd H7 cl (.lst (as.map V.ref ++ [.ref na])) = H8 at c8 k8 R8 C8 etp8 e8 L8 s8 ⊢
          have cc : Ch U H U6 H8 [d, cl] := (P5.ch _).trans ((c6.mono (by simp)).trans ((p7.ch _).trans c8))
          clear k8 c8 p7 R7 C7 L7 c6 C6 R6 C5 L5 L6 P5 fres ert ela etp etp7 ecl5 ecl6 ecl7
          obtain ⟨dxo, wa, eo8⟩ := R8.ob
          obtain ⟨ys, ew8, dw8⟩ := R8.w
          walk_at "gf"
          refine ⟨o, A.CReply, dxo, _, _, rfl, eo8, T.clReply, T.nReply_wishes, by walk_at "lk", ?_⟩
          walk_at "gf"
          rename_i tq htq lq hlq
          have p9 := Pu.skip (o := .tup [.str "ask", .int (70 + (k : Int)), .int 9, .int px, .int py, .int ww, .int hh]) s8 htq
          have etq : (upd H8 tq (.tup [.str "ask", .int (70 + (k : Int)), .int 9, .int px, .int py, .int ww, .int hh])) tq = _ := upd_same
          have p10 := p9.trans (Pu.skip (o := .lst [.ref tq]) p9.vh hlq)
          have etq2 := same_upd (o := .lst [.ref tq]) hlq _ _ etq
          refine ⟨.list [askD (70 + (k : Int)) 9 px py ww hh], .list [askD (70 + (k : Int)) 9 px py ww hh], .lst (SqL.of ((p10.kp lw (by rw [ew8]; exact fun z => by cases z)).trans ew8)) (dw8.to p10.vh), .lst (SqL.of upd_same) (.cons (.tup (SqT.of etq2) (.cons (.str _) (.cons (.int _) (.cons (.int _) (.cons (.int _) (.cons (.int _) (.cons (.int _) (.cons (.int _) .nil)))))))) .nil), (sh_list (fun d hd => by rw [List.mem_singleton] at hd; rw [hd]; exact sh_ask _ _ _ _ _ _)).shaped, (sh_list (fun d hd => by rw [List.mem_singleton] at hd; rw [hd]; exact sh_ask _ _ _ _ _ _)).shaped, ?_⟩
          rw [(sh_list (n := 1) (fun d hd => by rw [List.mem_singleton] at hd; rw [hd]; exact sh_ask _ _ _ _ _ _) : Sh 2 (.list [askD (70 + (k : Int)) 9 px py ww hh])).self]
          refine q.go U6 _ (as ++ [na]) (cs ++ [⟨70 + (k : Int), ww, hh, none, false⟩]) (cc.trans (p10.ch _)) ?_ (L8.frame (Same.refl _) (fun b hb hu _ => ⟨hu, p10.kp b hb⟩)) (.inr ⟨ww, hh, hw0, ?_, hh0, ?_, ?_, ?_, rfl⟩)
          · have : pics (cs ++ [⟨70 + (k : Int), ww, hh, none, false⟩]) = pics cs ++ [(70 + (k : Int), none)] := by unfold pics; rw [List.map_append]; rfl
            rw [this]
            exact C8.frame (Same.refl _) (fun b hb hu _ => ⟨hu, p10.kp b hb⟩)
          · exact Int.not_lt.mp fun z => hnb (.inl z)
          · exact Int.not_lt.mp fun z => hnb (.inr (.inl z))
          · exact Int.not_lt.mp fun z => hnb (.inr (.inr (.inl z)))
          · exact Nat.not_le.mp fun z => hnb (.inr (.inr (.inr z)))
        · exact fun z => absurd z b
      · exact fun z => absurd z a
/-! ### _law_read -/
def sp__law_read (CE : Addr) (w : World) (A : Adr) (K : PySem.W.Frag) : Sp := fun vs H Q _ => ∃ (h cp d a : Addr) (row : Int) (c : Cap) (ps : List (Int × Option Pc)) (U : Hp), vs = [.ref h, .ref a, .int row] ∧ Evs CE w K ∧ HdC A U h cp d ∧ Same U H ∧ Cs A K U H cp d ps ∧ CapAt U H a c ∧ num c.n ∧ pFind ps c.n = some (c.o.map fun os => (c.w, c.h, os)) ∧ pcR (c.o.map fun os => (c.w, c.h, os)) ∧ 0 ≤ c.w ∧ c.w ≤ 256 ∧
  ∀ U' H', Ch U H U' H' [d] → Cs A K U' H' cp d ps → Q (.bl true) H'
theorem sc__law_read : FnScope ["holdings", "one", "row", "begin", "count", "told", "due"] ["holdings", "one", "row"] (defScope s__law_read) := ⟨rfl, rfl, rfl, by decide +kernel, rfl, by decide +kernel, by decide +kernel⟩
theorem ok__law_read (T : Txt0 P K mg A) : FnOk P w K mg base CX0 13 A.f_law_read A.d_law_read ["holdings", "one", "row"] (sp__law_read A.a_EVENTS w A K) := by
  refine T.F_law_read.ok sc__law_read (fun vs H Q E h => ?_) (fun cdv Ar outer st H vs Q E hr h => ?_)
  · obtain ⟨_, _, _, _, _, _, _, _, rfl, _⟩ := h
    rfl
  · obtain ⟨h, cp, d, a, row, c, ps, U, rfl, ev, hd, sU, C, ⟨vo, ea, ua, oa⟩, hn, hf, hp, hw0, hw1, q⟩ := h
    replace q := Hid.mk q
    obtain ⟨kvs, ed, _⟩ := id C.e
    have nad : a ≠ d := ne_of ea ed (by intro z; cases z)
    refine ⟨_, (pss_cons (ps_set (i := 3) sc__law_read.nd rfl (Or.inl rfl) (pe_op op_mod (pe_callTy call_int1 (by rfl) T.int (by decide +kernel) (pa_cons (pv 2) pa_nil)) pe_int))
      (pss_cons (ps_set (i := 4) sc__law_read.nd rfl (Or.inl rfl) (pe_op op_mod (pe_callTy call_int1 (by rfl) T.int (by decide +kernel) (pa_cons (pe_op op_fdiv (pv 2) pe_int) pa_nil)) pe_int))
      (pss_cons (ps_set (i := 5) sc__law_read.nd rfl (Or.inl rfl) (pe_call (ok__law_serve T) (hr.mono (by decide)) rfl T.g_law_serve T.k_law_serve T.b_law_serve .nil pass0 (pa_cons (pv 0) (pa_cons (pe_tup (pa_cons (pe_ix (r := rIxL K) ix_list (pv 1) pe_int (fun _ _ => rfl)) (pa_cons pe_str (pa_cons pe_str (pa_cons (pe_lst (pa_cons (pv 3) (pa_cons (pv 4) pa_nil))) pa_nil))))) (pa_cons pe_non (pa_cons pe_bl (pa_cons pe_bl pa_nil)))))))
      (pss_cons (ps_if (PW.pt (pw_or (pt_cmpR op_isN (pe_ix (r := rIxL K) ix_list (pv 1) pe_int (fun _ _ => rfl)) pe_non (nomark _)) (pw_or (pt_cmpR op_gt (pe_op op_add (pv 3) (pv 4)) (pe_ix (r := rIxL K) ix_list (pv 1) pe_int (fun _ _ => rfl)) (nomark _)) (pw_or1 (pt_cmpR op_gt (pe_op op_mul (pe_op op_mul pe_int (pe_ix (r := rIxL K) ix_list (pv 1) pe_int (fun _ _ => rfl))) (pv 4)) pe_int (nomark _))))))
      (pss_one (ps_ret (pe_cmpR (op_eqD hr.units) (pe_ix (r := rIxT K) ix_tup (pv 5) pe_int (fun _ _ => rfl)) (pe_tup (pa_cons (pe_ix (r := rIxL K) ix_list (pv 1) pe_int (fun _ _ => rfl)) (pa_cons pe_int (pa_cons pe_str pa_nil)))) (nomark _))))
      pss_nil)
      (pss_cons (ps_set (i := 6) sc__law_read.nd rfl (Or.inl rfl) (pe_slice (r := rSlL K) sl_list (pe_ix (r := rIxL K) ix_list (pv 1) pe_int (fun _ _ => rfl)) (po_some (pe_op op_mul (pe_op op_mul pe_int (pe_ix (r := rIxL K) ix_list (pv 1) pe_int (fun _ _ => rfl))) (pv 3))) (po_some (pe_op op_mul (pe_op op_mul pe_int (pe_ix (r := rIxL K) ix_list (pv 1) pe_int (fun _ _ => rfl))) (pe_op op_add (pv 3) (pv 4))))))
      (pss_one (ps_ret (pe_and (pe_cmpR op_isN (pe_ix (r := rIxT K) ix_tup (pv 5) pe_int (fun _ _ => rfl)) pe_non (nomark _)) (pe_one (pe_cmpR (op_eqD hr.units) (pe_fld (pe_ix (r := rIxT K) ix_tup (pv 5) pe_int (fun _ _ => rfl)) rfl) (pe_lst (pa_cons (pe_call (ok_event_octets T) (hr.mono (by decide)) rfl T.gevent_octets T.kevent_octets T.bevent_octets .nil passL (pa_cons (pe_ix (r := rIxL K) ix_list (pv 1) pe_int (fun _ _ => rfl)) (pa_cons pe_str (pa_cons pe_str (pa_cons (pe_lst (pa_cons (pv 3) (pa_cons (pv 6) pa_nil))) pa_nil))))) pa_nil)) (nomark _))))))))))), ?_⟩
    walk_at "gf"
    rename_i la hla rt hrt
    dsimp only
    replace hrt : upd H la (.lst [.int (row % 5), .int (row / 5 % 5)]) rt = none := hrt
    have hb0 : 0 ≤ row % 5 := by omega
    have hb1 : row % 5 ≤ 100 := by omega
    have hc0 : 0 ≤ row / 5 % 5 := by omega
    have hc1 : row / 5 % 5 ≤ 100 := by omega
    have hbe : row % 5 ≤ 4 := by omega
    have hce : row / 5 % 5 ≤ 4 := by omega
    generalize row % 5 = b at hb0 hb1 hbe hla hrt ⊢
    generalize row / 5 % 5 = e at hc0 hc1 hce hla hrt ⊢
    have P1 := Pu.skip (o := .lst [.int b, .int e]) sU hla
    have P2 := P1.trans (Pu.skip (o := .tup [.int c.n, .str "capture", .str "read", .ref la]) P1.vh hrt)
    have ert : (upd (upd H la (.lst [.int b, .int e])) rt (.tup [.int c.n, .str "capture", .str "read", .ref la])) rt = _ := upd_same
    have ela := same_upd (o := .tup [.int c.n, .str "capture", .str "read", .ref la]) hrt _ _ (upd_same (H := H) (a := la) (o := .lst [.int b, .int e]))
    generalize upd (upd H la (.lst [.int b, .int e])) rt (.tup [.int c.n, .str "capture", .str "read", .ref la]) = H2 at P2 ert ela ⊢
    clear P1 hrt hla
    have C2 : Cs A K U H2 cp d ps := C.frame (Same.refl _) (fun b hb hu _ => ⟨hu, P2.kp b hb⟩)
    have ea2 := (P2.kp a (by rw [ea]; exact fun z => by cases z)).trans ea
    refine .inr ⟨h, cp, d, rt, la, c.n, b, e, .non, .bl false, .bl false, _, ps, U, rfl, ev, hd, P2.vh, C2, ert, ela, hn, hf, hp, hb0, hb1, hc0, hc1, fun bad U6 H6 pt ee p6 e6 d6 => ?_, fun pw ph os eo nb U6 H6 pt o lt le lw c6 C6 olt ole olw R6 e6 => ?_⟩
    · have e6H := p6.vh _ _ e6
      have ea6 := (p6.kp a (by rw [ea2]; exact fun z => by cases z)).trans ea2
      walk_at "gf"
      apply useR (C := rdBad (c.o.map fun os => (c.w, c.h, os)) b e)
      · intro rr bb
        refine iteP (fun c1 => bb ?_) (fun c1 => ?_)
        · cases hco : c.o with
          | none => trivial
          | some os =>
            rw [hco] at oa
            obtain ⟨b', rfl, _⟩ := oa
            cases c1
        walk_at "gf"
        refine iteP (fun c2 => bb ?_) (fun c2 => ?_)
        · cases hco : c.o with
          | none => trivial
          | some os => exact .inl c2
        walk_at "gf"
        refine iteP (fun c3 => bb ?_) (fun c3 => rr ?_)
        · cases hco : c.o with
          | none => trivial
          | some os => exact .inr (by rw [Int.mul_comm]; exact c3)
        · cases hco : c.o with
          | none =>
            rw [hco] at oa
            exact absurd oa c1
          | some os =>
            rintro (z | z)
            · exact c2 z
            · rw [Int.mul_comm] at z; exact c3 z
      · exact fun z => absurd bad z
      · intro _
        walk_at "gf"
        rename_i t2 ht2
        have p7 := Pu.skip (o := .tup [.int c.n, .int 1, .str "place out of range"]) p6.vh ht2
        refine ⟨fD c.n 1 "place out of range", fD c.n 1 "place out of range", d6.to p7.vh, .tup (SqT.of upd_same) (.cons (.int _) (.cons (.int _) (.cons (.str _) .nil))), (sh_fD _ _ _ (by decide +kernel)).shaped, (sh_fD _ _ _ (by decide +kernel)).shaped, ?_⟩
        rw [(sh_fD _ _ _ (by decide +kernel)).self]
        have pp := P2.trans (p6.trans p7)
        exact q.go _ _ (pp.ch _) (C.frame pp.vv (fun b hb hu _ => ⟨pp.out b hu hb, pp.kp b hb⟩))
    · have e6H := c6.vh _ _ e6
      have ea6 := (c6.kp a (by simpa using nad) (by rw [ea2]; exact fun z => by cases z)).trans ea2
      walk_at "gf"
      apply useR (C := rdBad (c.o.map fun os => (c.w, c.h, os)) b e)
      · intro rr bb
        refine iteP (fun c1 => bb ?_) (fun c1 => ?_)
        · cases hco : c.o with
          | none => trivial
          | some os =>
            rw [hco] at oa
            obtain ⟨b', rfl, _⟩ := oa
            cases c1
        walk_at "gf"
        refine iteP (fun c2 => bb ?_) (fun c2 => ?_)
        · cases hco : c.o with
          | none => trivial
          | some os => exact .inl c2
        walk_at "gf"
        refine iteP (fun c3 => bb ?_) (fun c3 => rr ?_)
        · cases hco : c.o with
          | none => trivial
          | some os => exact .inr (by rw [Int.mul_comm]; exact c3)
        · cases hco : c.o with
          | none =>
            rw [hco] at oa
            exact absurd oa c1
          | some os =>
            rintro (z | z)
            · exact c2 z
            · rw [Int.mul_comm] at z; exact c3 z
      · intro _
        obtain ⟨os', hco, eq⟩ := Option.map_eq_some_iff.mp eo
        cases eq
        rw [hco] at oa nb hp
        obtain ⟨ob, rfl, eob⟩ := oa
        have eob6 := c6.vh _ _ (c6.vv _ _ (P2.vh _ _ eob |> fun _ => eob))
        have hoc := hp.2.2.2.2.2
        walk_at "gf"
        refine ⟨ob, os.map V.int, rfl, SqL.of eob6, fun t2 ht2 => ?_⟩
        dsimp only
        rw [cutV_ints, show cutI os (some (4 * c.w * b)) (some (4 * c.w * (b + e))) = rdCut c.w os b e from by unfold rdCut; rw [Int.mul_comm b, Int.mul_comm (b + e)]]
        have hcut := rdCut_ok (w := c.w) (b := b) (c := e) (os := os) hw0 hb0 hc0 (Int.not_lt.mp fun z => nb (.inr z)) hoc
        obtain ⟨dxo, wa, eo6⟩ := R6.ob
        obtain ⟨zt, ez, dzt⟩ := R6.t
        have p7 := Pu.skip (o := .lst ((rdCut c.w os b e).map V.int)) c6.vh ht2
        have et2 : (upd H6 t2 (.lst ((rdCut c.w os b e).map V.int))) t2 = _ := upd_same
        generalize upd H6 t2 (.lst ((rdCut c.w os b e).map V.int)) = H7 at p7 et2 ⊢
        have e7 := p7.vh _ _ e6
        have ea7 := (p7.kp a (by rw [ea6]; exact fun z => by cases z)).trans ea6
        have eo7 := (p7.kp o (by rw [eo6]; exact fun z => by cases z)).trans eo6
        walk_at "gf"
        refine ⟨o, A.CReply, dxo, _, _, rfl, eo7, T.clReply, T.nReply_told, by walk_at "lk", ?_⟩
        walk_at "gf"
        rename_i va hva
        walk_at "nl"
        have p8 := p7.trans (Pu.skip (o := .lst [.int b, .ref t2]) p7.vh hva)
        refine (ev.rwE hn (by unfold u32; omega) hcut.1 hcut.2 upd_same (same_upd (o := .lst [.int b, .ref t2]) hva _ _ et2)).go fun pp H9 n9 => ?_
        have n9n := n9.new
        have n9s := n9.same
        have n9a := n9.at_
        have s8 := p8.vh
        generalize upd H7 va (.lst [.int b, .ref t2]) = H8 at p8 s8 n9n n9s n9a n9
        have p9 : Pu U6 H8 (upd U6 pp (.lst ((rwO c.n b (rdCut c.w os b e)).map V.int))) H9 := ⟨by walk_at "h", by walk_at "h", by walk_at "h", by walk_at "h", by walk_at "h"⟩
        have epp : (upd U6 pp (.lst ((rwO c.n b (rdCut c.w os b e)).map V.int))) pp = _ := upd_same
        generalize upd U6 pp (.lst ((rwO c.n b (rdCut c.w os b e)).map V.int)) = U9 at p9 epp
        have p89 := p8.trans p9
        clear n9n n9s n9a n9 hva
        walk_at "gf"
        rename_i pl hpl
        have p10 := p89.trans (Pu.skip (o := .lst [.ref pp]) p89.vh hpl)
        refine ⟨tsD [rwO c.n b (rdCut c.w os b e)], tsD [rwO c.n b (rdCut c.w os b e)], .lst (SqL.of ((p10.kp lt (by rw [ez]; exact fun z => by cases z)).trans ez)) (dzt.to (p10.vv.trans p10.vh)), .lst (SqL.of upd_same) (.cons (dp_ints (SqL.of (p10.vh _ _ epp))) .nil), (sh_ts _).shaped, (sh_ts _).shaped, ?_⟩
        rw [(sh_ts _).self]
        exact q.go U9 _ ((P2.ch _).trans (c6.trans (p10.ch _))) (C6.frame p10.vv (fun b hb hu _ => ⟨p10.out b hu hb, p10.kp b hb⟩))
      · exact fun z => absurd z nb
/-! ### _law_answer -/
theorem CapsAt.set {U H : Hp} {cl a : Addr} {as : List Addr} {cs : List Cap} (h : CapsAt U H cl as cs) {i : Nat} (hi : as[i]? = some a) {c : Cap} {v : V} (hv : OctV U v c.o) : CapsAt U (upd H a (.lst [.int c.n, .int c.w, .int c.h, v, .bl c.f])) cl as (cs.set i c) := by
  have hia := (List.getElem?_eq_some_iff.mp hi).1
  have nac : cl ≠ a := fun z => h.ni (by rw [z]; exact List.mem_of_getElem? hi)
  have ua : U a = none := by obtain ⟨_, _, _, _, u, _⟩ := h.at_ i a hi; exact u
  refine ⟨(upd_ne nac).trans h.e, h.u, h.nd, h.ni, by rw [List.length_set]; exact h.len, fun j b hj => ?_⟩
  by_cases hij : i = j
  · subst hij
    rw [hi] at hj
    cases hj
    exact ⟨c, by rw [List.getElem?_set_self (by rw [← h.len]; exact hia)], v, upd_same, ua, hv⟩
  · obtain ⟨c', h1, v', e1, u1, o1⟩ := h.at_ j b hj
    have hba : b ≠ a := fun z => by
      subst z
      have hjb := (List.getElem?_eq_some_iff.mp hj).1
      exact hij ((List.getElem?_inj hia h.nd).mp (hi.trans hj.symm))
    exact ⟨c', by rw [List.getElem?_set_ne hij]; exact h1, v', (upd_ne hba).trans e1, u1, o1⟩
def pcOf (c : Cap) (q : Option (List Int)) : Option Pc := q.map fun os => (c.w, c.h, os)
def sp__law_answer (CE : Addr) (w : World) (A : Adr) (K : PySem.W.Frag) : Sp := fun vs H Q _ => ∃ (h cp d a : Addr) (row : Int) (c : Cap) (ps : List (Int × Option Pc)) (U : Hp), vs = [.ref h, .ref a, .int row] ∧ Evs CE w K ∧ HdC A U h cp d ∧ Same U H ∧ Cs A K U H cp d ps ∧ CapAt U H a c ∧ c.o = none ∧ num c.n ∧ pFind ps c.n ≠ none ∧ 0 ≤ c.w ∧ c.w ≤ 256 ∧ 0 ≤ c.h ∧ c.h ≤ 256 ∧ c.w * c.h ≤ 4096 ∧ ps.length ≤ 2 ∧
  ∀ U' H' v q, Ch U H U' H' [d, a] → H' a = some (.lst [.int c.n, .int c.w, .int c.h, v, .bl true]) → OctV U' v q → (∀ os, q = some os → os.length ≤ 20000 ∧ ∀ x ∈ os, 0 ≤ x ∧ x ≤ 255) → Cs A K U' H' cp d (ansP ps c.n (pcOf c q)) → Q (.bl true) H'
theorem sc__law_answer : FnScope ["holdings", "one", "row", "reply", "octets", "k"] ["holdings", "one", "row"] (defScope s__law_answer) := ⟨rfl, rfl, rfl, by decide +kernel, rfl, by decide +kernel, by decide +kernel⟩
theorem ok__law_answer (T : Txt0 P K mg A) : FnOk P w K mg base CX0 12 A.f_law_answer A.d_law_answer ["holdings", "one", "row"] (sp__law_answer A.a_EVENTS w A K) := by
  refine T.F_law_answer.ok sc__law_answer (fun vs H Q E h => ?_) (fun cdv Ar outer st H vs Q E hr h => ?_)
  · obtain ⟨_, _, _, _, _, _, _, _, rfl, _⟩ := h
    rfl
  · obtain ⟨h, cp, d, a, row, c, ps, U, rfl, ev, hd, sU, C, ⟨vo, ea, ua, oa⟩, hco, hn, hf, hw0, hw1, hh0, hh1, hwh, hpl, q⟩ := h
    replace q := Hid.mk q
    rw [hco] at oa
    obtain rfl : vo = .non := oa
    obtain ⟨kvs, ed, _⟩ := id C.e
    have nad : a ≠ d := ne_of ea ed (by intro z; cases z)
    refine ⟨_, (pss_cons (ps_set (i := 3) sc__law_answer.nd rfl (Or.inl rfl) (pe_make0 T.MReply (ok_Reply___init__ T) (hr.mono (by decide)) rfl T.gReply T.bReply___init__ .nil pass0))
      (pss_cons (ps_asg pe_bl (pg_sub (pv 1) pe_int set_list))
      (pss_cons (ps_if (pt_cmpR op_eq (pe_op op_mod (pe_callTy call_int1 (by rfl) T.int (by decide +kernel) (pa_cons (pv 2) pa_nil)) pe_int) pe_int (nomark _))
      (pss_cons (ps_expr (pe_meth (pv 0) T.clHoldings T.mHoldings_answered (ok_Holdings_answered T) (hr.mono (by decide)) T.bHoldings_answered .nil pass0 (pa_cons (pe_ix (r := rIxL K) ix_list (pv 1) pe_int (fun _ _ => rfl)) (pa_cons pe_non (pa_cons (pv 3) pa_nil)))))
      (pss_one (ps_ret (pe_cmpR (op_eqD hr.units) (pe_fldC T.clReply T.nReply_told (pv 3) rfl) (pe_lst (pa_cons (pe_call (ok_event_octets T) (hr.mono (by decide)) rfl T.gevent_octets T.kevent_octets T.bevent_octets .nil passL (pa_cons (pe_ix (r := rIxL K) ix_list (pv 1) pe_int (fun _ _ => rfl)) (pa_cons pe_str (pa_cons pe_str (pa_cons (pe_lst pa_nil) pa_nil))))) pa_nil)) (nomark _)))))
      pss_nil)
      (pss_cons (ps_setLc (i := 4) (own := [("k", 5)]) (g := (gName 5)) (tt := tYes) rfl sc__law_answer.nd rfl rfl (sw_true rfl rfl rfl (by decide +kernel)) (pi_range1 (by rfl) T.range (pa_cons (pe_op op_mul (pe_op op_mul pe_int (pe_ix (r := rIxL K) ix_list (pv 1) pe_int (fun _ _ => rfl))) (pe_ix (r := rIxL K) ix_list (pv 1) pe_int (fun _ _ => rfl))) pa_nil)) (blkOk_by (own := [("k", 5)]) (N := ["holdings", "one", "row", "reply", "octets", "k"]) (sc := defScope s__law_answer) (by decide +kernel)) (fun _ _ _ _ _ => (pg_name (i := 5) sc__law_answer.nd rfl (Or.inl rfl))) (fun _ _ _ _ _ => pts_nil) (fun _ _ _ _ _ => by exact (pe_op op_mod (pe_callTy call_int1 (by rfl) T.int (by decide +kernel) (pa_cons (pe_op op_add (pe_op op_fdiv (pv 2) pe_int) (pe_op op_mul pe_int (pv 5))) pa_nil)) pe_int)))
      (pss_cons (ps_asg (pv 4) (pg_sub (pv 1) pe_int set_list))
      (pss_cons (ps_expr (pe_meth (pv 0) T.clHoldings T.mHoldings_answered (ok_Holdings_answered T) (hr.mono (by decide)) T.bHoldings_answered .nil pass0 (pa_cons (pe_ix (r := rIxL K) ix_list (pv 1) pe_int (fun _ _ => rfl)) (pa_cons (pe_tup (pa_cons (pe_ix (r := rIxL K) ix_list (pv 1) pe_int (fun _ _ => rfl)) (pa_cons (pe_ix (r := rIxL K) ix_list (pv 1) pe_int (fun _ _ => rfl)) (pa_cons (pv 4) pa_nil)))) (pa_cons (pv 3) pa_nil)))))
      (pss_one (ps_ret (pe_cmpR (op_eqD hr.units) (pe_fldC T.clReply T.nReply_told (pv 3) rfl) (pe_lst (pa_cons (pe_call (ok_event_octets T) (hr.mono (by decide)) rfl T.gevent_octets T.kevent_octets T.bevent_octets .nil passL (pa_cons (pe_ix (r := rIxL K) ix_list (pv 1) pe_int (fun _ _ => rfl)) (pa_cons pe_str (pa_cons pe_str (pa_cons (pe_lst (pa_cons (pe_ix (r := rIxL K) ix_list (pv 1) pe_int (fun _ _ => rfl)) (pa_cons (pe_ix (r := rIxL K) ix_list (pv 1) pe_int (fun _ _ => rfl)) pa_nil))) pa_nil))))) pa_nil)) (nomark _)))))))))), ?_⟩
    walk_at "gf"
    intro o dxo ho hdxo nod
    refine ⟨o, dxo, U, rfl, upd_same, by walk_at "h", sU.free ho, fun lt le lw H1 s1 k1 m1 f1 f2 f3 R1 => ⟨rfl, ?_⟩⟩
    have P1 : Pu U H U H1 := ⟨Same.refl _, s1, fun _ h _ => h, by walk_at "h", by walk_at "h"⟩
    have ea1 := (P1.kp a (by rw [ea]; exact fun z => by cases z)).trans ea
    have nalt : a ≠ lt := by walk_at "h"
    have nale : a ≠ le := by walk_at "h"
    have nalw : a ≠ lw := by walk_at "h"
    have nao : a ≠ o := by walk_at "h"
    have olt : H lt = none := by walk_at "h"
    clear k1 m1 f1 f2 f3 ho hdxo nod
    walk_at "gf"
    refine ⟨a, _, 4, 4, rfl, rfl, ea1, rfl, ?_⟩
    have e2 : (upd H1 a (.lst [.int c.n, .int c.w, .int c.h, .non, .bl true])) a = _ := upd_same
    have c2 := Ch.poke (o := .lst [.int c.n, .int c.w, .int c.h, .non, .bl true]) P1.vh ua [d, a] (by simp)
    have C1 : Cs A K U H1 cp d ps := C.frame (Same.refl _) (fun b hb hu _ => ⟨hu, P1.kp b hb⟩)
    have k2 : ∀ b, b ≠ a → (upd H1 a (.lst [.int c.n, .int c.w, .int c.h, .non, .bl true])) b = H1 b := fun b hb => upd_ne hb
    have C2 : Cs A K U (upd H1 a (.lst [.int c.n, .int c.w, .int c.h, .non, .bl true])) cp d ps := C1.frame (Same.refl _) (fun b hb hu hx => ⟨hu, k2 b (by rw [hx]; exact nad.symm)⟩)
    have R2 : Rp A.CReply K U (upd H1 a (.lst [.int c.n, .int c.w, .int c.h, .non, .bl true])) o lt le lw [] [] [] := R1.frame (Same.refl _) (fun b hb hu hx => ⟨hu, k2 b (fun z => by
      rcases hx with y | y | y | y
      · exact nao (z.symm.trans y)
      · exact nalt (z.symm.trans y)
      · exact nale (z.symm.trans y)
      · exact nalw (z.symm.trans y))⟩)
    have s2 := c2.vh
    dsimp only [List.set]
    generalize upd H1 a (.lst [.int c.n, .int c.w, .int c.h, .non, .bl true]) = H2 at e2 c2 C2 R2 s2 ⊢
    have c02 : Ch U H U H2 [d, a] := (P1.ch _).trans c2
    clear k2 C1 R1 ea1 c2
    obtain ⟨dx, a1, f, a3, d1, tr, kd, d3, d4, x1, xf, xc, x3, v, z1, z2, z3, z4, z5, z6, z7, z8, z9, z10⟩ := (hd.to s2).ex
    walk_at "gf"
    refine iteEq (fun c0 => ?_) (fun c0 => ?_)
    · walk_at "gf"
      refine ⟨h, cp, d, o, c.n, .non, U, rfl, hd, s2, ?_⟩
      refine ⟨cp, d, o, lt, le, lw, c.n, .non, none, ps, [], U, rfl, s2, ev, hn, C2, hf, rfl, trivial, R2, hpl, fun U4 H4 c4 C4 R4 => ?_⟩
      obtain ⟨dxo4, wa4, eo4⟩ := R4.ob
      obtain ⟨zt, ez, dzt⟩ := R4.t
      have nad2 : a ≠ d := nad
      have e4 := (c4.kp a (by simp [nad, nalt]) (by rw [e2]; exact fun z => by cases z)).trans e2
      walk_at "gf"
      rename_i va hva
      walk_at "nl"
      have p5 := Pu.skip (o := .lst []) c4.vh hva
      refine (ev.rfE hn upd_same).go fun pp H9 n9 => ?_
      have n9n := n9.new
      have n9s := n9.same
      have n9a := n9.at_
      have s8 := p5.vh
      generalize upd H4 va (.lst []) = H8 at p5 s8 n9n n9s n9a n9
      have p9 : Pu U4 H8 (upd U4 pp (.lst ((rfO c.n).map V.int))) H9 := ⟨by walk_at "h", by walk_at "h", by walk_at "h", by walk_at "h", by walk_at "h"⟩
      have epp : (upd U4 pp (.lst ((rfO c.n).map V.int))) pp = _ := upd_same
      generalize upd U4 pp (.lst ((rfO c.n).map V.int)) = U9 at p9 epp
      have p59 := p5.trans p9
      clear n9n n9s n9a n9 hva
      walk_at "gf"
      rename_i pl hpl2
      have p10 := p59.trans (Pu.skip (o := .lst [.ref pp]) p59.vh hpl2)
      refine ⟨tsD [rfO c.n], tsD [rfO c.n], .lst (SqL.of ((p10.kp lt (by rw [ez]; exact fun z => by cases z)).trans ez)) (dzt.to (p10.vv.trans p10.vh)), .lst (SqL.of upd_same) (.cons (dp_ints (SqL.of (p10.vh _ _ epp))) .nil), (sh_ts _).shaped, (sh_ts _).shaped, ?_⟩
      rw [(sh_ts _).self]
      have cc : Ch U H U4 H4 [d, a] := by
        obtain ⟨a1, a2, a3, a4, a5⟩ := c02
        obtain ⟨b1, b2, b3, b4, b5⟩ := c4
        refine ⟨a1.trans b1, b2, by walk_at "h", by walk_at "h", fun b hb hn' => ?_⟩
        have hb1 : b ≠ d := fun z => hb (by rw [z]; simp)
        have hbl : b ≠ lt := fun z => hn' (by rw [z]; exact olt)
        rw [b5 b (by simp [hb1, hbl]) (by rw [a5 b hb hn']; exact hn'), a5 b hb hn']
      exact q.go U9 _ .non none (cc.trans (p10.ch _)) ((p10.kp a (by rw [e4]; exact fun z => by cases z)).trans e4) rfl (fun os z => nomatch z) (C4.frame p10.vv (fun b hb hu _ => ⟨p10.out b hu hb, p10.kp b hb⟩))
    · walk_at "gf"
      obtain ⟨n, hnn, hn4⟩ : ∃ n : Nat, 4 * c.w * c.h = (n : Int) ∧ n ≤ 16384 := by
        have h0 : 0 ≤ c.w * c.h := Int.mul_nonneg hw0 hh0
        have h1 : 4 * c.w * c.h = 4 * (c.w * c.h) := Int.mul_assoc ..
        exact ⟨(4 * c.w * c.h).toNat, by omega, by omega⟩
      rw [hnn]
      refine ⟨by omega, by omega, fun D hD => ?_⟩
      refine lc_dp (walk_range (lo := 0) (n := (n : Int).toNat)) (K := K) (V0 := U) (H0 := H2) (fun k => some (PyData.int ((row / 3 + 7 * (k : Int)) % 256))) _ rfl s2 hD (by omega) (fun _ _ => trivial) (fun i x H H' y => y.1) ?_ ?_
      · rintro i x U5 H5 hi xx ⟨_, rfl⟩ Qy Qn hy _
        walk_at "gf"
        rw [Int.zero_add]
        exact hy _ _ _ _ rfl (Ext.refl xx.vh) (.int _)
      · rintro U5 H5 xs xx hDU dl dl2
        rw [show (n : Int).toNat = n by omega, fm_some, show ((List.range n).map fun k : Nat => PyData.int ((row / 3 + 7 * (k : Int)) % 256)) = (((List.range n).map fun k : Nat => (row / 3 + 7 * (k : Int)) % 256)).map PyData.int from by rw [List.map_map]; rfl] at dl
        have e := dp_intsV dl
        subst e
        obtain ⟨os, hos⟩ : ∃ os, os = (List.range n).map fun k : Nat => (row / 3 + 7 * (k : Int)) % 256 := ⟨_, rfl⟩
        have hol : os.length = n := by rw [hos, List.length_map, List.length_range]
        have hoo : ∀ x ∈ os, 0 ≤ x ∧ x ≤ 255 := fun x hx => by
          rw [hos] at hx
          obtain ⟨k, _, rfl⟩ := List.mem_map.mp hx
          omega
        rw [← hos] at hDU
        have p5 := xx.pu
        have ea5 := (p5.kp a (by rw [e2]; exact fun z => by cases z)).trans e2
        have ua5 := p5.out a ua (by rw [e2]; exact fun z => by cases z)
        have C5 := C2.frame p5.vv (fun b hb hu _ => ⟨p5.out b hu hb, p5.kp b hb⟩)
        have R5 := R2.frame p5.vv (fun b hb hu _ => ⟨p5.out b hu hb, p5.kp b hb⟩)
        have c05 := c02.trans (p5.ch _)
        have s5 := xx.vh
        clear dl xx
        walk_at "gf"
        refine ⟨a, _, 3, 3, rfl, rfl, ea5, rfl, ?_⟩
        have e6 : (upd H5 a (.lst [.int c.n, .int c.w, .int c.h, .ref D, .bl true])) a = _ := upd_same
        have c6 := Ch.poke (o := .lst [.int c.n, .int c.w, .int c.h, .ref D, .bl true]) s5 ua5 [d, a] (by simp)
        have k6 : ∀ b, b ≠ a → (upd H5 a (.lst [.int c.n, .int c.w, .int c.h, .ref D, .bl true])) b = H5 b := fun b hb => upd_ne hb
        have C6 : Cs A K U5 (upd H5 a (.lst [.int c.n, .int c.w, .int c.h, .ref D, .bl true])) cp d ps := C5.frame (Same.refl _) (fun b hb hu hx => ⟨hu, k6 b (by rw [hx]; exact nad.symm)⟩)
        have R6 : Rp A.CReply K U5 (upd H5 a (.lst [.int c.n, .int c.w, .int c.h, .ref D, .bl true])) o lt le lw [] [] [] := R5.frame (Same.refl _) (fun b hb hu hx => ⟨hu, k6 b (fun z => by
          rcases hx with y | y | y | y
          · exact nao (z.symm.trans y)
          · exact nalt (z.symm.trans y)
          · exact nale (z.symm.trans y)
          · exact nalw (z.symm.trans y))⟩)
        have s6 := c6.vh
        dsimp only [List.set]
        generalize upd H5 a (.lst [.int c.n, .int c.w, .int c.h, .ref D, .bl true]) = H6 at e6 c6 C6 R6 s6 ⊢
        have c06 : Ch U H U5 H6 [d, a] := c05.trans c6
        clear k6 C5 R5 c6
        clear z1 z2 z3 z4 z5 z6 z7 z8 z9 z10
        obtain ⟨dy, b1, g, b3, e1', tr', kd', d3', d4', y1, yf, yc, y3, vv, w1, w2, w3, w4, w5, w6, w7, w8, w9, w10⟩ := (hd.to (p5.vv.trans s6)).ex
        walk_at "gf"
        rename_i tp htp
        have p7 := Pu.new (o := .tup [.int c.w, .int c.h, .ref D]) s6 htp
        have etp : (upd U5 tp (.tup [.int c.w, .int c.h, .ref D])) tp = _ := upd_same
        have v67 := p7.vv
        generalize upd U5 tp (.tup [.int c.w, .int c.h, .ref D]) = U7 at p7 etp v67
        have e6t := (p7.kp a (by rw [e6]; exact fun z => by cases z)).trans e6
        have c07 := c06.trans (p7.ch _)
        refine ⟨h, cp, d, o, c.n, .ref tp, U7, rfl, hd.to (p5.vv.trans v67), p7.vh, ?_⟩
        refine ⟨cp, d, o, lt, le, lw, c.n, .ref tp, some (c.w, c.h, os), ps, [], U7, rfl, p7.vh, ev, hn, C6.frame v67 (fun b hb hu _ => ⟨p7.out b hu hb, p7.kp b hb⟩), hf, ⟨tp, D, rfl, SqT.of (p7.vh _ _ etp), p7.vh _ _ (v67 _ _ hDU), by omega⟩, ⟨⟨hw0, by omega⟩, ⟨hh0, by omega⟩, by omega⟩, R6.frame v67 (fun b hb hu _ => ⟨p7.out b hu hb, p7.kp b hb⟩), hpl, fun U4 H4 c4 C4 R4 => ?_⟩
        obtain ⟨dxo4, wa4, eo4⟩ := R4.ob
        obtain ⟨zt, ez, dzt⟩ := R4.t
        have nad2 : a ≠ d := nad
        have e4 := (c4.kp a (by simp [nad, nalt]) (by rw [e6t]; exact fun z => by cases z)).trans e6t
        walk_at "gf"
        rename_i va hva
        walk_at "nl"
        have p5 := Pu.skip (o := .lst [.int c.w, .int c.h]) c4.vh hva
        refine (ev.alE hn ⟨hw0, by omega⟩ ⟨hh0, by omega⟩ upd_same).go fun pp H9 n9 => ?_
        have n9n := n9.new
        have n9s := n9.same
        have n9a := n9.at_
        have s8 := p5.vh
        generalize upd H4 va (.lst [.int c.w, .int c.h]) = H8 at p5 s8 n9n n9s n9a n9
        have p9 : Pu U4 H8 (upd U4 pp (.lst ((alO c.n c.w c.h).map V.int))) H9 := ⟨by walk_at "h", by walk_at "h", by walk_at "h", by walk_at "h", by walk_at "h"⟩
        have epp : (upd U4 pp (.lst ((alO c.n c.w c.h).map V.int))) pp = _ := upd_same
        generalize upd U4 pp (.lst ((alO c.n c.w c.h).map V.int)) = U9 at p9 epp
        have p59 := p5.trans p9
        clear n9n n9s n9a n9 hva
        walk_at "gf"
        rename_i pl hpl2
        have p10 := p59.trans (Pu.skip (o := .lst [.ref pp]) p59.vh hpl2)
        refine ⟨tsD [alO c.n c.w c.h], tsD [alO c.n c.w c.h], .lst (SqL.of ((p10.kp lt (by rw [ez]; exact fun z => by cases z)).trans ez)) (dzt.to (p10.vv.trans p10.vh)), .lst (SqL.of upd_same) (.cons (dp_ints (SqL.of (p10.vh _ _ epp))) .nil), (sh_ts _).shaped, (sh_ts _).shaped, ?_⟩
        rw [(sh_ts _).self]
        have U9s : Same U5 U9 := v67.trans (c4.vv.trans p10.vv)
        have cc : Ch U H U4 H4 [d, a] := by
          obtain ⟨a1, a2, a3, a4, a5⟩ := c07
          obtain ⟨b1, b2, b3, b4, b5⟩ := c4
          refine ⟨a1.trans b1, b2, by walk_at "h", by walk_at "h", fun b hb hn' => ?_⟩
          have hb1 : b ≠ d := fun z => hb (by rw [z]; simp)
          have hbl : b ≠ lt := fun z => hn' (by rw [z]; exact olt)
          rw [b5 b (by simp [hb1, hbl]) (by rw [a5 b hb hn']; exact hn'), a5 b hb hn']
        exact q.go U9 _ (.ref D) (some os) (cc.trans (p10.ch _)) ((p10.kp a (by rw [e4]; exact fun z => by cases z)).trans e4) ⟨D, rfl, U9s _ _ hDU⟩ (fun os z => by cases z; exact ⟨by omega, hoo⟩) (C4.frame p10.vv (fun b hb hu _ => ⟨p10.out b hu hb, p10.kp b hb⟩))
/-! ### the law -/
theorem CapsAt.put {U H U' H' : Hp} {cl a : Addr} {as : List Addr} {cs : List Cap} (h : CapsAt U H cl as cs) {i : Nat} (hi : as[i]? = some a) {c' : Cap} (s : Same U U') (hc : CapAt U' H' a c') (k : ∀ b, H b ≠ none → U b = none → (b = cl ∨ b ∈ as) → b ≠ a → U' b = none ∧ H' b = H b) : CapsAt U' H' cl as (cs.set i c') := by
  have hia := (List.getElem?_eq_some_iff.mp hi).1
  have nac : cl ≠ a := fun z => h.ni (by rw [z]; exact List.mem_of_getElem? hi)
  have k1 := k cl (by rw [h.e]; exact fun z => by cases z) h.u (.inl rfl) nac
  refine ⟨k1.2.trans h.e, k1.1, h.nd, h.ni, by rw [List.length_set]; exact h.len, fun j b hj => ?_⟩
  by_cases hij : i = j
  · subst hij
    rw [hi] at hj
    cases hj
    exact ⟨c', by rw [List.getElem?_set_self (by rw [← h.len]; exact hia)], hc⟩
  · obtain ⟨c2, h1, v, e1, u1, o1⟩ := h.at_ j b hj
    have hba : b ≠ a := fun z => by
      subst z
      exact hij ((List.getElem?_inj hia h.nd).mp (hi.trans hj.symm))
    have k2 := k b (by rw [e1]; exact fun z => by cases z) u1 (.inr (List.mem_of_getElem? hj)) hba
    exact ⟨c2, by rw [List.getElem?_set_ne hij]; exact h1, v, k2.2.trans e1, k2.1, o1.to s⟩
theorem pics_id {n : Int} {q : Option Pc} : ∀ {cs : List Cap}, (∀ c ∈ cs, c.n ≠ n) → ((pics cs).map fun p => if p.1 = n then (p.1, q) else p) = pics cs
  | [], _ => rfl
  | c :: r, h => by
    show (if c.n = n then _ else _) :: ((pics r).map _) = _
    rw [if_neg (h c (List.mem_cons_self ..)), pics_id (fun x hx => h x (List.mem_cons_of_mem _ hx))]
    rfl
theorem pics_ans {c : Cap} (hc : c.o = none) (q : Option (List Int)) : ∀ {cs : List Cap} {j : Nat}, cs[j]? = some c → (cs.map Cap.n).Nodup → pics (cs.set j ⟨c.n, c.w, c.h, q, true⟩) = ansP (pics cs) c.n (pcOf c q)
  | [], _, h, _ => by cases h
  | x :: r, j, hj, nd => by
    rw [List.map_cons, List.nodup_cons] at nd
    cases j with
    | zero =>
      cases hj
      have hne : ∀ y ∈ r, y.n ≠ c.n := fun y hy z => nd.1 (by rw [← z]; exact List.mem_map_of_mem hy)
      cases q with
      | none =>
        show (c.n, none) :: pics r = (c.n, c.o.map _) :: pics r
        rw [hc]; rfl
      | some os =>
        show (c.n, some (c.w, c.h, os)) :: pics r = (if c.n = c.n then _ else _) :: ((pics r).map fun p => if p.1 = c.n then (p.1, some (c.w, c.h, os)) else p)
        rw [if_pos rfl, pics_id hne]; rfl
    | succ j =>
      have ih := pics_ans hc q (cs := r) (j := j) hj nd.2
      have hcr : c ∈ r := List.mem_of_getElem? (i := j) hj
      have hne : x.n ≠ c.n := fun z => nd.1 (by rw [z]; exact List.mem_map_of_mem hcr)
      show (x.n, x.o.map _) :: pics (r.set j _) = _
      rw [ih]
      cases q with
      | none => rfl
      | some os =>
        show _ = (if x.n = c.n then _ else _) :: ((pics r).map fun p => if p.1 = c.n then (p.1, some (c.w, c.h, os)) else p)
        rw [if_neg hne]; rfl
theorem pics_find {c : Cap} : ∀ {cs : List Cap} {j : Nat}, cs[j]? = some c → (cs.map Cap.n).Nodup → pFind (pics cs) c.n = some (c.o.map fun os => (c.w, c.h, os))
  | [], _, h, _ => by cases h
  | x :: r, j, hj, nd => by
    rw [List.map_cons, List.nodup_cons] at nd
    cases j with
    | zero =>
      cases hj
      unfold pFind pics
      rw [List.map_cons, List.find?_cons_of_pos (by exact decide_eq_true rfl)]; rfl
    | succ j =>
      have ih := pics_find (cs := r) (j := j) hj nd.2
      have hcr : c ∈ r := List.mem_of_getElem? (i := j) hj
      have hne : x.n ≠ c.n := fun z => nd.1 (by rw [z]; exact List.mem_map_of_mem hcr)
      unfold pFind pics at ih ⊢
      rw [List.map_cons, List.find?_cons_of_neg (by simpa using hne)]
      exact ih
theorem pics_filter (n : Int) (cs : List Cap) : ((pics cs).filter fun p => decide (p.1 ≠ n)) = pics (cs.filter fun c => decide (c.n ≠ n)) := by
  unfold pics
  rw [List.filter_map]; rfl
def zc (as : List Addr) (cs : List Cap) (n : Int) : List (Addr × Cap) := (as.zip cs).filter fun p => decide (p.2.n ≠ n)
theorem CapsAt.keep {U H U' H' : Hp} {cl D : Addr} {as : List Addr} {cs : List Cap} (h : CapsAt U H cl as cs) (n : Int) (s : Same U U') (uD : U' D = none) (hD : D ∉ as) (eD : H' D = some (.lst ((zc as cs n).map fun p => V.ref p.1))) (k : ∀ b, H b ≠ none → U b = none → b ∈ as → U' b = none ∧ H' b = H b) : CapsAt U' H' D ((zc as cs n).map Prod.fst) (cs.filter fun c => decide (c.n ≠ n)) := by
  have hs : ((zc as cs n).map Prod.fst).Sublist as := by
    have := (List.filter_sublist (l := as.zip cs) (p := fun p => decide (p.2.n ≠ n))).map Prod.fst
    rwa [List.map_fst_zip (by rw [h.len]; exact Nat.le_refl _)] at this
  have hc : (cs.filter fun c => decide (c.n ≠ n)) = (zc as cs n).map Prod.snd := by
    unfold zc
    have := List.map_snd_zip (l₁ := as) (l₂ := cs) (by rw [h.len]; exact Nat.le_refl _)
    conv => lhs; rw [← this]
    rw [List.filter_map]; rfl
  refine ⟨by rw [eD, List.map_map]; rfl, uD, hs.nodup h.nd, fun z => hD (hs.subset z), by rw [hc, List.length_map, List.length_map], fun i a ha => ?_⟩
  rw [List.getElem?_map] at ha
  obtain ⟨⟨a', c⟩, hz, rfl⟩ := Option.map_eq_some_iff.mp ha
  have hm := (List.mem_filter.mp (List.mem_of_getElem? hz)).1
  obtain ⟨j, hj⟩ := List.getElem?_of_mem hm
  rw [List.getElem?_zip_eq_some] at hj
  obtain ⟨c', hc', v, e1, u1, o1⟩ := h.at_ j a' hj.1
  have hcc : c' = c := Option.some.inj (hc'.symm.trans hj.2)
  subst hcc
  have k2 := k a' (by rw [e1]; exact fun z => by cases z) u1 (List.mem_of_getElem? hj.1)
  exact ⟨c', by rw [hc, List.getElem?_map, hz]; rfl, v, k2.2.trans e1, k2.1, o1.to s⟩
/-- a comprehension that keeps some of a list's items, whatever they are -/
theorem lc_keep {K : PySem.W.Frag} {a : Addr} {xs : List V} {α : Type} (zs : List α) (f : α → V) (p : α → Bool) {H0 : Hp} {D : Addr} {g : TG} {tt : TT} {te : TE} {vs : List Nat} {σ : St} {Qd : Hp → Prop} (σ0 : St) (hσ : wipe σ vs = σ0) (hD : H0 D = none) (e : H0 a = some (.lst xs)) (hx : xs = zs.map f) (hn : zs.length < 100000)
    (hs : ∀ (i : Nat) (z : α) (H : Hp), zs[i]? = some z → (∀ b, b ≠ D → H b = H0 b) → ∀ (Qy : VK) (Qn : Hp → Prop), (p z = true → Qy (f z) H) → (p z = false → Qn H) →
      g (f z) σ0 H fun σ2 H2 => wipe σ2 vs = σ0 ∧ tt σ2 H2 fun b H3 => if b = true then te σ2 H3 Qy else Qn H3)
    (hd : ∀ H, H D = some (.lst ((zs.filter p).map f)) → (∀ b, b ≠ D → H b = H0 b) → Qd H) :
    ∃ W : Nat → Nat → Hp → Prop, (∃ m, W 0 m (upd H0 D (.lst []))) ∧ ∀ i m H, W i m H →
      ((Itl K a).stop i H ∧ Qd H) ∨ ((Itl K a).go i H ∧ ∃ Nx : Hp → Prop, (∀ H', Nx H' → ∃ m', m' < m ∧ W (i + 1) m' H') ∧ ∀ x H', (Itl K a).yld i H x H' → g x (wipe σ vs) H' fun σ2 H2 => wipe σ2 vs = wipe σ vs ∧ tt σ2 H2 fun b H3 =>
        if b = true then te σ2 H3 fun y H4 => ∃ acc, H4 D = some (.lst acc) ∧ acc.length < sizeLine ∧ Nx (upd H4 D (.lst (acc ++ [y]))) else Nx H3) := by
  subst hσ
  have haD : a ≠ D := fun z => by rw [← z, e] at hD; cases hD
  refine lc_it (walk_list (K := K) (a := a) (xs := xs)) (fun i H => H D = some (.lst (((zs.take i).filter p).map f)) ∧ ∀ b, b ≠ D → H b = H0 b) ⟨upd_same, fun b hb => upd_ne hb⟩ (fun i H _ ⟨_, h⟩ => SqL.of ((h a haD).trans e)) (fun i x H H' hi ⟨h1, h2⟩ y => ?_) (fun H ⟨h1, h2⟩ => ?_)
  · obtain ⟨rfl, hy⟩ := y
    rw [hx, List.getElem?_map] at hy
    obtain ⟨z, hz, rfl⟩ := Option.map_eq_some_iff.mp hy
    have htk : zs.take (i + 1) = zs.take i ++ [z] := by
      obtain ⟨g1, g2⟩ := List.getElem?_eq_some_iff.mp hz
      rw [List.take_succ_eq_append_getElem g1, g2]
    refine hs i z H' hz h2 _ _ (fun hp => ⟨_, h1, ?_, ?_, fun b hb => (upd_ne hb).trans (h2 b hb)⟩) (fun hp => ⟨?_, h2⟩)
    · refine lt_line (Nat.lt_of_le_of_lt ?_ hn)
      rw [List.length_map]
      exact Nat.le_trans (List.length_filter_le _ _) (by rw [List.length_take]; omega)
    · rw [upd_same, htk, List.filter_append, List.filter_cons_of_pos hp, List.map_append]; rfl
    · rw [htk, List.filter_append, List.filter_cons_of_neg (by rw [hp]; exact fun z => by cases z), List.filter_nil, List.append_nil]; exact h1
  · rw [hx, List.length_map, List.take_length] at h1
    exact hd H h1 h2
theorem set_id {α : Type} {l : List α} {i : Nat} {x : α} (h : l[i]? = some x) : l.set i x = l := by
  obtain ⟨h1, h2⟩ := List.getElem?_eq_some_iff.mp h
  subst h2
  exact List.set_getElem_self h1
def capOk (i : Nat) (c : Cap) : Prop := 70 ≤ c.n ∧ c.n < 70 + (i : Int) ∧ 0 ≤ c.w ∧ c.w ≤ 256 ∧ 0 ≤ c.h ∧ c.h ≤ 256 ∧ c.w * c.h ≤ 4096 ∧ (c.f = false → c.o = none) ∧ ∀ os, c.o = some os → os.length ≤ 20000 ∧ ∀ x ∈ os, 0 ≤ x ∧ x ≤ 255
theorem capOk.up {i : Nat} {c : Cap} (h : capOk i c) : capOk (i + 1) c := by
  obtain ⟨h1, h2, h3⟩ := h
  exact ⟨h1, by omega, h3⟩
structure LwC (A : Adr) (K : PySem.W.Frag) (H : Hp) (a h cp d cl : Addr) (ns : List Int) (U : Hp) (as : List Addr) (cs : List Cap) (i : Nat) : Prop where
  sU : Same U H
  sc : SqL K U a (ns.map V.int)
  hd : HdC A U h cp d
  C : Cs A K U H cp d (pics cs)
  L : CapsAt U H cl as cs
  nd : (cs.map Cap.n).Nodup
  ok : ∀ c ∈ cs, capOk i c
  len : cs.length ≤ 2
theorem sc_law : FnScope ["script", "holdings", "captures", "k", "row", "deed", "good", "one", "other"] ["script"] (defScope s_law) := ⟨rfl, rfl, rfl, by decide +kernel, rfl, by decide +kernel, by decide +kernel⟩
theorem ok_lawE (T : Txt0 P K mg A) (ev : Evs A.a_EVENTS w K) : FnOk P w K mg base CX0 14 A.flaw A.dlaw ["script"] (sp_law K) := by
  refine T.Flaw.ok sc_law (fun vs H Q E h => ?_) (fun cdv Ar outer s H vs Q E hr h => ?_)
  · obtain ⟨a, ns, rfl, _⟩ := h
    rfl
  · obtain ⟨a, ns, rfl, hS, hlen, q⟩ := h
    replace q := Hid.mk q
    refine ⟨_, (pss_cons (ps_set (i := 1) sc_law.nd rfl (Or.inl rfl) (pe_make0 T.MHoldings (ok_Holdings___init__ T) (hr.mono (by decide)) rfl T.gHoldings T.bHoldings___init__ .nil pass0))
      (pss_cons (ps_set (i := 2) sc_law.nd rfl (Or.inl rfl) (pe_lst pa_nil))
      (pss_cons (ps_for PassesOwn.never rfl (pi_range1 (by rfl) T.range (pa_cons (pe_op op_add (pe_callB (call_min2 rfl) (by rfl) T.min (by decide +kernel) (pa_cons pe_int (pa_cons (pe_callB call_len_seq (by rfl) T.len PySem.boot_len (pa_cons (pv 0) pa_nil)) pa_nil))) pe_int) pa_nil)) (pg_name (i := 3) sc_law.nd rfl (Or.inl rfl))
      (pss_cons (ps_set (i := 4) sc_law.nd rfl (Or.inl rfl) (pe_call (ok__law_row T) (hr.mono (by decide)) rfl T.g_law_row T.k_law_row T.b_law_row .nil pass0 (pa_cons (pv 0) (pa_cons (pv 3) pa_nil))))
      (pss_cons (ps_set (i := 5) sc_law.nd rfl (Or.inl rfl) (pe_op op_mod (pe_callTy call_int1 (by rfl) T.int (by decide +kernel) (pa_cons (pv 4) pa_nil)) pe_int))
      (pss_cons (ps_set (i := 6) sc_law.nd rfl (Or.inl rfl) pe_bl)
      (C8.pss_cut (ps_if (PW.pt (pw_or (pt_cmpR op_lt (pv 5) pe_int (nomark _)) (pw_or1 (pt_cmpR op_eq (pe_callB call_len_seq (by rfl) T.len PySem.boot_len (pa_cons (pv 2) pa_nil)) pe_int (nomark _)))))
      (pss_one (ps_set (i := 6) sc_law.nd rfl (Or.inl rfl) (pe_call (ok__law_ask T) (hr.mono (by decide)) rfl T.g_law_ask T.k_law_ask T.b_law_ask .nil pass0 (pa_cons (pv 1) (pa_cons (pv 2) (pa_cons (pv 3) (pa_cons (pe_op op_fdiv (pv 4) pe_int) pa_nil)))))))
      (pss_cons (ps_set (i := 7) sc_law.nd rfl (Or.inr rfl) (pe_ix (r := rIxL K) ix_list (pv 2) (pe_op op_mod (pe_callTy call_int1 (by rfl) T.int (by decide +kernel) (pa_cons (pe_op op_fdiv (pv 4) pe_int) pa_nil)) (pe_callB call_len_seq (by rfl) T.len PySem.boot_len (pa_cons (pv 2) pa_nil))) (fun _ _ => rfl)))
      (pss_one (ps_if (PW.pt (pw_and (pt_cmpR op_eq (pv 5) pe_int (nomark _)) (pw_and1 (pt_not (pt_truth (pe_ix (r := rIxL K) ix_list (pv 7) pe_int (fun _ _ => rfl)) (by intro _; rfl))))))
      (pss_one (ps_set (i := 6) sc_law.nd rfl (Or.inl rfl) (pe_call (ok__law_answer T) (hr.mono (by decide)) rfl T.g_law_answer T.k_law_answer T.b_law_answer .nil pass0 (pa_cons (pv 1) (pa_cons (pv 7) (pa_cons (pe_op op_fdiv (pv 4) pe_int) pa_nil))))))
      (pss_one (ps_if (pt_cmpR op_eq (pv 5) pe_int (nomark _))
      (pss_cons (ps_expr (pe_meth (pv 1) T.clHoldings T.mHoldings_ended (ok_Holdings_ended T) (hr.mono (by decide)) T.bHoldings_ended .nil pass0 (pa_cons (pe_ix (r := rIxL K) ix_list (pv 7) pe_int (fun _ _ => rfl)) pa_nil)))
      (pss_one (ps_setLc (i := 2) (own := [("other", 8)]) (g := (gName 8)) rfl sc_law.nd rfl rfl (sw_true rfl rfl rfl (by decide +kernel)) (pi_list (pv 2)) (blkOk_by (own := [("other", 8)]) (N := ["script", "holdings", "captures", "k", "row", "deed", "good", "one", "other"]) (sc := defScope s_law) (by decide +kernel)) (fun _ _ _ _ _ => (pg_name (i := 8) sc_law.nd rfl (Or.inl rfl))) (fun _ _ _ _ _ => (pts_one (pt_cmpR op_ne (pe_ix (r := rIxL K) ix_list (pv 8) pe_int (fun _ _ => rfl)) (pe_ix (r := rIxL K) ix_list (pv 7) pe_int (fun _ _ => rfl)) (nomark _)))) (fun _ _ _ _ _ => by exact (pv 8)))))
      (pss_one (ps_set (i := 6) sc_law.nd rfl (Or.inl rfl) (pe_call (ok__law_read T) (hr.mono (by decide)) rfl T.g_law_read T.k_law_read T.b_law_read .nil pass0 (pa_cons (pv 1) (pa_cons (pv 7) (pa_cons (pe_op op_fdiv (pv 4) pe_int) pa_nil))))))))))))
      (pss_one (ps_if (pt_not (pt_val (pv 6)))
      (pss_one (ps_ret pe_bl))
      pss_nil)))))))
      (pss_one (ps_ret pe_bl))))), ?_⟩
    walk_at "go"
    intro h dxh hh hdh ndh
    refine ⟨h, dxh, rfl, upd_same, fun cp d H1 nd0 hdC ed k1 m1 => ⟨rfl, ?_⟩⟩
    have s1 : Same H H1 := by walk_at "h"
    have U1s : Same (hide H1 d) H1 := fun b u e => by
      unfold hide at e; split at e
      · cases e
      · exact e
    have hs1 : SqL K (hide H1 d) a (ns.map V.int) := by
      have hdn : H d = none := by walk_at "h"
      have : Same H (hide H1 d) := fun b u e => by
        have e' := s1 b u e
        unfold hide
        rw [if_neg (fun z => by rw [z, hdn] at e; cases e)]
        exact e'
      exact this.seq hS
    have C1 : Cs A K (hide H1 d) H1 cp d (pics []) := by
      obtain ⟨dx, a1, f, a3, d1, tr, kd, d3, d4, x1, xf, xc, x3, v, z1, z2, z3, z4, z5, z6, z7, _⟩ := hdC.ex
      exact ⟨⟨_, z7⟩, ⟨[], ed, trivial⟩, if_pos rfl⟩
    generalize hide H1 d = U1 at U1s hs1 hdC C1
    clear k1 m1 hh hdh ndh nd0 s1
    walk_at "gf"
    rename_i cl hcl
    have ncd : cl ≠ d := fun z => by rw [z, ed] at hcl; cases hcl
    have p1 := Pu.skip (o := .lst []) U1s hcl
    have C2 : Cs A K U1 (upd H1 cl (.lst [])) cp d (pics []) := C1.frame (Same.refl _) (fun b hb hu _ => ⟨hu, p1.kp b hb⟩)
    have L2 : CapsAt U1 (upd H1 cl (.lst [])) cl [] [] := ⟨upd_same, U1s.free hcl, List.nodup_nil, fun z => (by cases z), rfl, fun i a h => by cases h⟩
    have LW : LwC A K (upd H1 cl (.lst [])) a h cp d cl ns U1 [] [] 0 := ⟨p1.vh, hs1, hdC, C2, L2, List.nodup_nil, fun c hc => (by cases hc), Nat.zero_le _⟩
    have hs2 := p1.vh.seq hs1
    clear C1 C2 L2 p1 hcl
    walk_at "gf"
    rw [List.length_map]
    refine ⟨by split <;> omega, by split <;> omega, ?_⟩
    have hn : ((if (30 : Int) < (ns.length : Int) then (30 : Int) else (ns.length : Int)) + 1).toNat ≤ 31 := by split <;> omega
    generalize ((if (30 : Int) < (ns.length : Int) then (30 : Int) else (ns.length : Int)) + 1).toNat = nn at hn ⊢
    refine for_range (lo := 0) (fun i σ H' => ∃ (U : Hp) (cl : Addr) (as : List Addr) (cs : List Cap) (v3 v4 v5 v6 v7 v8 : Option V), σ = [some (.ref a), some (.ref h), some (.ref cl), v3, v4, v5, v6, v7, v8] ∧ LwC A K H' a h cp d cl ns U as cs i)
      ⟨U1, cl, [], [], _, _, _, _, _, _, rfl, LW⟩ ?_ ?_
    · clear LW hs2 ncd cl hs1 hdC U1s ed
      rintro i σ H2 hi ⟨U, cl, as, cs, v3, v4, v5, v6, v7, v8, rfl, L⟩
      walk_at "gf"
      refine ⟨a, ns, i, by rw [Int.zero_add]; rfl, L.sU.seq L.sc, ?_⟩
      have hr0 := lawRow_nn ns i
      generalize lawRow ns i = row at hr0 ⊢
      walk_at "gf"
      refine ⟨fun σ H' => Stop (∃ (U : Hp) (cl : Addr) (as : List Addr) (cs : List Cap) (v7 v8 : Option V), σ = [some (.ref a), some (.ref h), some (.ref cl), some (.int (0 + (i : Int))), some (.int row), some (.int (row % 6)), some (.bl true), v7, v8] ∧ LwC A K H' a h cp d cl ns U as cs (i + 1)), ?_, ?_⟩
      · have ecl := L.L.e
        have hal := L.L.len
        have hcl := L.len
        have ok1 : ∀ c ∈ cs, capOk (i + 1) c := fun c hc => (L.ok c hc).up
        apply useR (C := row % 6 < 2 ∨ cs.length = 0)
        · intro rr bb
          walk_at "gf"
          refine iteP (fun c1 => bb (.inl c1)) (fun c1 => ?_)
          walk_at "gf"
          rw [List.length_map, hal]
          refine iteEq (fun c2 => bb (.inr (by omega))) (fun c2 => rr (fun z => z.elim c1 (fun z => c2 (by omega))))
        · intro hc
          walk_at "gf"
          rw [List.length_map, hal]
          have hcs : (cs.length : Int) ≠ 0 := fun z => hc (.inr (by omega))
          obtain ⟨j, hj⟩ : ∃ j : Nat, row / 6 % (cs.length : Int) = j := ⟨_, (Int.toNat_of_nonneg (Int.emod_nonneg _ hcs)).symm⟩
          have hjl : j < cs.length := by have := Int.emod_lt_of_pos (row / 6) (show (0 : Int) < cs.length by omega); omega
          obtain ⟨a1, ha1⟩ : ∃ x, as[j]? = some x := ⟨_, List.getElem?_eq_getElem (by omega)⟩
          obtain ⟨c, hc1, ca⟩ := L.L.at_ j a1 ha1
          obtain ⟨vo, ea, ua, oa⟩ := id ca
          have hcm : c ∈ cs := List.mem_of_getElem? hc1
          obtain ⟨o1, o2, o3, o4, o5, o6, o7, o8, o9⟩ := L.ok c hcm
          obtain ⟨kvs, ed, _⟩ := id L.C.e
          have hnum : num c.n := ⟨by omega, by omega⟩
          refine ⟨by show (0 : Int) < _; omega, ?_⟩
          refine ⟨cl, _, _, .ref a1, rfl, rfl, SqL.of ecl, L2.at_of (j := j) hj (by rw [List.getElem?_map, ha1]; rfl), ?_⟩
          walk_at "gf"
          apply useR (C := row % 6 = 2 ∧ c.f = false)
          · intro rr bb
            refine iteEq (fun c1 => ?_) (fun c1 => rr fun z => c1 z.1)
            walk_at "gf"
            exact if_b (fun hb => bb ⟨c1, by cases hcf : c.f <;> simp_all⟩) (fun hb => rr fun z => by cases hcf : c.f <;> simp_all)
          · intro hc2
            walk_at "gf"
            refine iteEq (fun c3 => ?_) (fun c3 => ?_)
            · obtain ⟨dx, b1, f, b3, d1, tr, kd, d3, d4, x1, xf, xc, x3, v, z1, _⟩ := (L.hd.to L.sU).ex
              walk_at "gf"
              refine ⟨h, cp, d, c.n, pics cs, U, rfl, L.hd, L.sU, L.C, fun H3 c3 C3 => ?_⟩
              rw [pics_filter] at C3
              have kl : ∀ b, (b = cl ∨ b ∈ as) → H2 b ≠ none → H3 b = H2 b := fun b hb hn => c3.kp b (by simpa using L.L.ne ed hb) hn
              have ecl3 := (kl cl (.inl rfl) (by rw [ecl]; exact fun z => by cases z)).trans ecl
              have ea3 := (kl a1 (.inr (List.mem_of_getElem? ha1)) (by rw [ea]; exact fun z => by cases z)).trans ea
              walk_at "gf"
              refine ⟨⟨_, SqL.of ecl3⟩, fun D hD => ?_⟩
              refine lc_keep (K := K) (a := cl) (as.zip cs) (fun p => V.ref p.1) (fun p => decide (p.2.n ≠ c.n)) _ rfl hD ecl3 ?_ ?_ ?_ ?_
              · conv => lhs; rw [← List.map_fst_zip (l₁ := as) (l₂ := cs) (by omega)]
                rw [List.map_map]; rfl
              · rw [List.length_zip]; omega
              · rintro m ⟨b, c'⟩ H4 hz k4 Qy Qn hy hno
                rw [List.getElem?_zip_eq_some] at hz
                obtain ⟨c2', hc2', v', e', u', o'⟩ := L.L.at_ m b hz.1
                obtain rfl : c2' = c' := Option.some.inj (hc2'.symm.trans hz.2)
                have eb3 := (kl b (.inr (List.mem_of_getElem? hz.1)) (by rw [e']; exact fun z => by cases z)).trans e'
                have eb4 := (k4 b (fun z => by rw [z, hD] at eb3; cases eb3)).trans eb3
                have ea4 := (k4 a1 (fun z => by rw [z, hD] at ea3; cases ea3)).trans ea3
                walk_at "gf"
                rw [show (!decide (V.int c2'.n = V.int c.n)) = decide (c2'.n ≠ c.n) from by simp]
                show if decide (c2'.n ≠ c.n) = true then _ else _
                by_cases cn : c2'.n = c.n
                · rw [if_neg (by simp [cn])]
                  exact hno (by simp [cn])
                · rw [if_pos (by simp [cn])]
                  exact ⟨_, rfl, hy (by simp [cn])⟩
              · intro H4 eD k4
                have uD : U D = none := c3.vh.free hD
                have s3 := c3.vh
                have p4 : Pu U H3 U H4 := ⟨Same.refl U, by walk_at "h", fun _ h _ => h, by walk_at "h", by walk_at "h"⟩
                have cc := c3.trans (p4.ch [d])
                walk_at "gf"
                refine stop ⟨U, D, (zc as cs c.n).map Prod.fst, cs.filter fun x => decide (x.n ≠ c.n), _, _, rfl, p4.vh, L.sc, L.hd, C3.frame (Same.refl _) (fun b hb hu _ => ⟨hu, p4.kp b hb⟩), L.L.keep c.n (Same.refl U) uD (fun z => ?_) eD (fun b hb hu hx => ⟨hu, cc.kp b (by simpa using L.L.ne ed (.inr hx)) hb⟩), ?_, fun x hx => ok1 x (List.mem_filter.mp hx).1, Nat.le_trans (List.length_filter_le _ _) hcl⟩
                · obtain ⟨m, hm⟩ := List.getElem?_of_mem z
                  obtain ⟨c2', hc2', v', e', u', o'⟩ := L.L.at_ m D hm
                  have := (kl D (.inr z) (by rw [e']; exact fun z => by cases z)).trans e'
                  rw [hD] at this; cases this
                · exact (List.filter_sublist.map Cap.n).nodup L.nd
            · walk_at "gf"
              refine ⟨h, cp, d, a1, row / 12, c, pics cs, U, rfl, ev, L.hd, L.sU, L.C, ca, hnum, pics_find hc1 L.nd, ?_, o3, o4, fun U' H' ch C' => ?_⟩
              · cases hco : c.o with
                | none => trivial
                | some os => exact ⟨o3, o4, o5, o6, o9 os hco⟩
              · walk_at "gf"
                exact stop ⟨U', cl, as, cs, _, _, rfl, ch.vh, ch.vv.seq L.sc, L.hd.to ch.vv, C', L.L.frame ch.vv (fun b hb hu hx => ⟨ch.out b hu hb, ch.kp b (by simpa using L.L.ne ed hx) hb⟩), L.nd, ok1, hcl⟩
          · rintro ⟨c2, cf⟩
            have hco := o8 cf
            walk_at "gf"
            refine ⟨h, cp, d, a1, row / 12, c, pics cs, U, rfl, ev, L.hd, L.sU, L.C, ca, hco, hnum, by rw [pics_find hc1 L.nd]; exact fun z => (by cases z), o3, o4, o5, o6, o7, by unfold pics; rw [List.length_map]; exact hcl, fun U' H' v pq ch e' ov hq C' => ?_⟩
            walk_at "gf"
            refine stop ⟨U', cl, as, cs.set j ⟨c.n, c.w, c.h, pq, true⟩, _, _, rfl, ch.vh, ch.vv.seq L.sc, L.hd.to ch.vv, by rw [pics_ans hco pq hc1 L.nd]; exact C', L.L.put ha1 ch.vv ⟨v, e', ch.out a1 ua (by rw [ea]; exact fun z => by cases z), ov⟩ (fun b hb hu hx hne => ⟨ch.out b hu hb, ch.kp b (by simp [hne, L.L.ne ed hx]) hb⟩), ?_, fun x hx => ?_, by rw [List.length_set]; exact hcl⟩
            · rw [List.map_set, set_id (by rw [List.getElem?_map, hc1]; rfl)]
              exact L.nd
            · rcases List.mem_or_eq_of_mem_set hx with hx | rfl
              · exact ok1 x hx
              · obtain ⟨y1, y2, _⟩ := ok1 c hcm
                exact ⟨y1, y2, o3, o4, o5, o6, o7, fun z => (by cases z), fun os z => hq os z⟩
        · intro _
          walk_at "gf"
          refine ⟨h, cp, d, cl, i, row / 6, as, cs, U, by rw [Int.zero_add]; rfl, by omega, L.hd, L.sU, L.C, L.L, fun c hc => (L.ok c hc).2.1, L.len, fun U' H' as' cs' ch C' L' hcs => ?_⟩
          walk_at "gf"
          have sc' := ch.vv.seq L.sc
          rcases hcs with rfl | ⟨w', h', g1, g2, g3, g4, g5, g6, rfl⟩
          · exact stop ⟨U', cl, as', cs', _, _, rfl, ch.vh, sc', L.hd.to ch.vv, C', L', L.nd, ok1, hcl⟩
          · refine stop ⟨U', cl, as', _, _, _, rfl, ch.vh, sc', L.hd.to ch.vv, C', L', ?_, fun c hc => ?_, by rw [List.length_append]; show cs.length + 1 ≤ 2; omega⟩
            · rw [List.map_append, List.nodup_append]
              refine ⟨L.nd, List.nodup_cons.mpr ⟨by simp, List.nodup_nil⟩, fun x hx y hy => ?_⟩
              obtain ⟨c, hc, rfl⟩ := List.mem_map.mp hx
              have hy' : y = 70 + (i : Int) := by simpa using hy
              have := (L.ok c hc).2.1
              omega
            · rcases List.mem_append.mp hc with hc | hc
              · exact ok1 c hc
              · rw [List.mem_singleton] at hc
                subst hc
                exact ⟨by show 70 ≤ 70 + (i : Int); omega, by show 70 + (i : Int) < 70 + ((i + 1 : Nat) : Int); omega, g1, g2, g3, g4, g5, fun _ => rfl, fun os z => nomatch z⟩
      · rintro σ H4 ⟨⟨U4, cl4, as4, cs4, v7, v8, rfl, L4⟩, -⟩
        walk_at "gf"
        exact ⟨U4, cl4, as4, cs4, _, _, _, _, _, _, rfl, L4⟩
    · rintro σ H2 ⟨U, cl, as, cs, v3, v4, v5, v6, v7, v8, rfl, L⟩
      walk_at "gf"
      exact q.go H2
theorem evsT (T : Txt0 P K mg A) (D : Dic w K A) : Evs A.a_EVENTS w K := by
  have dp : ∀ H, Dp K H (.ref A.a_EVENTS_k11) (evD [("allowed", ["uint", "uint"]), ("refused", []), ("rows", ["uint", "octets"])]) := fun H => .tup (T.w_EVENTS_k11 H) (.cons (.tup (T.w_EVENTS_k11_0 H) (.cons (.str _) (.cons (.tup (T.w_EVENTS_k11_0_1 H) (.cons (.str _) (.cons (.str _) .nil))) .nil))) (.cons (.tup (T.w_EVENTS_k11_1 H) (.cons (.str _) (.cons (.tup (T.w_EVENTS_k11_1_1 H) .nil) .nil))) (.cons (.tup (T.w_EVENTS_k11_2 H) (.cons (.str _) (.cons (.tup (T.w_EVENTS_k11_2_1 H) (.cons (.str _) (.cons (.str _) .nil))) .nil))) .nil)))
  exact ⟨evRow_of _ 0 D.d_EVENTS_k11 dp (by decide) rfl (by decide +kernel), evRow_of _ 1 D.d_EVENTS_k11 dp (by decide) rfl (by decide +kernel), evRow_of _ 2 D.d_EVENTS_k11 dp (by decide) rfl (by decide +kernel)⟩
theorem ok_law (T : Txt0 P K mg A) (D : Dic w K A) : FnOk P w K mg base CX0 14 A.flaw A.dlaw ["script"] (sp_law K) := ok_lawE T (evsT T D)
end
theorem all_mk {P : Program} (hP : Prg P) {w : World} {K : PySem.W.Frag} {h : Heap} {mg : Str → Option Value} {fa : Addr} (X : K.In h) (G : h.Ns mainGlobals mg) (hfa : mg "law" = some (.ref fa))
    {f_check_new : Addr} {od1 an1 : Option Addr} {sl1 : Array (Option Value)} {oc1 kV1 dc1 pm1 cd1 ct1 : Value}
    {fis_integer : Addr} {od2 an2 : Option Addr} {sl2 : Array (Option Value)} {oc2 kV2 dc2 pm2 cd2 ct2 : Value}
    {fis_text : Addr} {od3 an3 : Option Addr} {sl3 : Array (Option Value)} {oc3 kV3 dc3 pm3 cd3 ct3 : Value}
    {fnumber_octets : Addr} {od4 an4 : Option Addr} {sl4 : Array (Option Value)} {oc4 kV4 dc4 pm4 cd4 ct4 : Value}
    {ffield_octets : Addr} {od5 an5 : Option Addr} {sl5 : Array (Option Value)} {oc5 kV5 dc5 pm5 cd5 ct5 : Value}
    {f_is_code : Addr} {od6 an6 : Option Addr} {sl6 : Array (Option Value)} {oc6 kV6 dc6 pm6 cd6 ct6 : Value}
    {f_is_of : Addr} {od7 an7 : Option Addr} {sl7 : Array (Option Value)} {oc7 kV7 dc7 pm7 cd7 ct7 : Value}
    {f_are_octets : Addr} {od8 an8 : Option Addr} {sl8 : Array (Option Value)} {oc8 kV8 dc8 pm8 cd8 ct8 : Value}
    {f_is_bound : Addr} {od9 an9 : Option Addr} {sl9 : Array (Option Value)} {oc9 kV9 dc9 pm9 cd9 ct9 : Value}
    {f_text_octets : Addr} {od10 an10 : Option Addr} {sl10 : Array (Option Value)} {oc10 kV10 dc10 pm10 cd10 ct10 : Value}
    {f_padded : Addr} {od11 an11 : Option Addr} {sl11 : Array (Option Value)} {oc11 kV11 dc11 pm11 cd11 ct11 : Value}
    {fencode_message : Addr} {od12 an12 : Option Addr} {sl12 : Array (Option Value)} {oc12 kV12 dc12 pm12 cd12 ct12 : Value}
    {fevent_octets : Addr} {od13 an13 : Option Addr} {sl13 : Array (Option Value)} {oc13 kV13 dc13 pm13 cd13 ct13 : Value}
    {f_opcode_of : Addr} {od14 an14 : Option Addr} {sl14 : Array (Option Value)} {oc14 kV14 dc14 pm14 cd14 ct14 : Value}
    {f_law_cell : Addr} {od15 an15 : Option Addr} {sl15 : Array (Option Value)} {oc15 kV15 dc15 pm15 cd15 ct15 : Value}
    {f_law_row : Addr} {od16 an16 : Option Addr} {sl16 : Array (Option Value)} {oc16 kV16 dc16 pm16 cd16 ct16 : Value}
    {f_law_serve : Addr} {od17 an17 : Option Addr} {sl17 : Array (Option Value)} {oc17 kV17 dc17 pm17 cd17 ct17 : Value}
    {f_law_size : Addr} {od18 an18 : Option Addr} {sl18 : Array (Option Value)} {oc18 kV18 dc18 pm18 cd18 ct18 : Value}
    {f_law_ask : Addr} {od19 an19 : Option Addr} {sl19 : Array (Option Value)} {oc19 kV19 dc19 pm19 cd19 ct19 : Value}
    {f_law_answer : Addr} {od20 an20 : Option Addr} {sl20 : Array (Option Value)} {oc20 kV20 dc20 pm20 cd20 ct20 : Value}
    {f_law_read : Addr} {od21 an21 : Option Addr} {sl21 : Array (Option Value)} {oc21 kV21 dc21 pm21 cd21 ct21 : Value}
    {flaw : Addr} {od22 an22 : Option Addr} {sl22 : Array (Option Value)} {oc22 kV22 dc22 pm22 cd22 ct22 : Value}
    {fFault___init__ : Addr} {od23 an23 : Option Addr} {sl23 : Array (Option Value)} {oc23 kV23 dc23 pm23 ct23 : Value}
    {cc23 cda23 : Addr} {cl23 ccl23 : Value} {cld23 cdd23 : Option Addr} {csl23 ccs23 : Array (Option Value)} {fvs23 : Array Value} {tf23 : Tok} {cdD23 : ClassData}
    {fCaptures___init__ : Addr} {od24 an24 : Option Addr} {sl24 : Array (Option Value)} {oc24 kV24 dc24 pm24 cd24 ct24 : Value}
    {fCaptures_make : Addr} {od25 an25 : Option Addr} {sl25 : Array (Option Value)} {oc25 kV25 dc25 pm25 cd25 ct25 : Value}
    {fCaptures_answered : Addr} {od26 an26 : Option Addr} {sl26 : Array (Option Value)} {oc26 kV26 dc26 pm26 cd26 ct26 : Value}
    {fCaptures_read : Addr} {od27 an27 : Option Addr} {sl27 : Array (Option Value)} {oc27 kV27 dc27 pm27 cd27 ct27 : Value}
    {fCaptures_forget : Addr} {od28 an28 : Option Addr} {sl28 : Array (Option Value)} {oc28 kV28 dc28 pm28 cd28 ct28 : Value}
    {fFetch___init__ : Addr} {od29 an29 : Option Addr} {sl29 : Array (Option Value)} {oc29 kV29 dc29 pm29 cd29 ct29 : Value}
    {fWatch___init__ : Addr} {od30 an30 : Option Addr} {sl30 : Array (Option Value)} {oc30 kV30 dc30 pm30 cd30 ct30 : Value}
    {fFetches___init__ : Addr} {od31 an31 : Option Addr} {sl31 : Array (Option Value)} {oc31 kV31 dc31 pm31 cd31 ct31 : Value}
    {fFetches_make_fetch : Addr} {od32 an32 : Option Addr} {sl32 : Array (Option Value)} {oc32 kV32 dc32 pm32 cd32 ct32 : Value}
    {fFetches_make_watch : Addr} {od33 an33 : Option Addr} {sl33 : Array (Option Value)} {oc33 kV33 dc33 pm33 cd33 ct33 : Value}
    {fFetches_read : Addr} {od34 an34 : Option Addr} {sl34 : Array (Option Value)} {oc34 kV34 dc34 pm34 cd34 ct34 : Value}
    {fFetches_forget : Addr} {od35 an35 : Option Addr} {sl35 : Array (Option Value)} {oc35 kV35 dc35 pm35 cd35 ct35 : Value}
    {fOffers___init__ : Addr} {od36 an36 : Option Addr} {sl36 : Array (Option Value)} {oc36 kV36 dc36 pm36 cd36 ct36 : Value}
    {fOffers_forget : Addr} {od37 an37 : Option Addr} {sl37 : Array (Option Value)} {oc37 kV37 dc37 pm37 cd37 ct37 : Value}
    {fOffers_read : Addr} {od38 an38 : Option Addr} {sl38 : Array (Option Value)} {oc38 kV38 dc38 pm38 cd38 ct38 : Value}
    {fSource___init__ : Addr} {od39 an39 : Option Addr} {sl39 : Array (Option Value)} {oc39 kV39 dc39 pm39 cd39 ct39 : Value}
    {fSources___init__ : Addr} {od40 an40 : Option Addr} {sl40 : Array (Option Value)} {oc40 kV40 dc40 pm40 cd40 ct40 : Value}
    {fSources_make : Addr} {od41 an41 : Option Addr} {sl41 : Array (Option Value)} {oc41 kV41 dc41 pm41 cd41 ct41 : Value}
    {fSources_write : Addr} {od42 an42 : Option Addr} {sl42 : Array (Option Value)} {oc42 kV42 dc42 pm42 cd42 ct42 : Value}
    {fSources_is_used : Addr} {od43 an43 : Option Addr} {sl43 : Array (Option Value)} {oc43 kV43 dc43 pm43 cd43 ct43 : Value}
    {fSources_use_up : Addr} {od44 an44 : Option Addr} {sl44 : Array (Option Value)} {oc44 kV44 dc44 pm44 cd44 ct44 : Value}
    {fSources_forget : Addr} {od45 an45 : Option Addr} {sl45 : Array (Option Value)} {oc45 kV45 dc45 pm45 cd45 ct45 : Value}
    {fSources__fresh : Addr} {od46 an46 : Option Addr} {sl46 : Array (Option Value)} {oc46 kV46 dc46 pm46 cd46 ct46 : Value}
    {fHoldings___init__ : Addr} {od47 an47 : Option Addr} {sl47 : Array (Option Value)} {oc47 kV47 dc47 pm47 cd47 ct47 : Value}
    {fHoldings_serve : Addr} {od48 an48 : Option Addr} {sl48 : Array (Option Value)} {oc48 kV48 dc48 pm48 cd48 ct48 : Value}
    {fHoldings_ended : Addr} {od49 an49 : Option Addr} {sl49 : Array (Option Value)} {oc49 kV49 dc49 pm49 cd49 ct49 : Value}
    {fHoldings_answered : Addr} {od50 an50 : Option Addr} {sl50 : Array (Option Value)} {oc50 kV50 dc50 pm50 cd50 ct50 : Value}
    {fHoldings__serve_transfer : Addr} {od51 an51 : Option Addr} {sl51 : Array (Option Value)} {oc51 kV51 dc51 pm51 cd51 ct51 : Value}
    {fHoldings__give : Addr} {od52 an52 : Option Addr} {sl52 : Array (Option Value)} {oc52 kV52 dc52 pm52 cd52 ct52 : Value}
    {fHoldings__send : Addr} {od53 an53 : Option Addr} {sl53 : Array (Option Value)} {oc53 kV53 dc53 pm53 cd53 ct53 : Value}
    {fHoldings__unsend : Addr} {od54 an54 : Option Addr} {sl54 : Array (Option Value)} {oc54 kV54 dc54 pm54 cd54 ct54 : Value}
    {fReply___init__ : Addr} {od55 an55 : Option Addr} {sl55 : Array (Option Value)} {oc55 kV55 dc55 pm55 cd55 ct55 : Value}
    {fReply_tell : Addr} {od56 an56 : Option Addr} {sl56 : Array (Option Value)} {oc56 kV56 dc56 pm56 cd56 ct56 : Value}
    {fReply_wish : Addr} {od57 an57 : Option Addr} {sl57 : Array (Option Value)} {oc57 kV57 dc57 pm57 cd57 ct57 : Value}
    {fRequest___init__ : Addr} {od58 an58 : Option Addr} {sl58 : Array (Option Value)} {oc58 kV58 dc58 pm58 cd58 ct58 : Value}
    {tLONGEST_SIDE : Tok}
    {tMOST_PIXELS : Tok}
    {tMOST_CAPTURES : Tok}
    {tMOST_READ_captures : Tok}
    {tLONGEST_TEXT_fetches : Tok}
    {tMOST_FETCHES : Tok}
    {tMOST_WATCHES : Tok}
    {tMOST_READ_fetches : Tok}
    {tMOST_READ_offers : Tok}
    {tMOST_SOURCES : Tok}
    {tMOST_KINDS : Tok}
    {tMOST_OCTETS_sources : Tok}
    {tLONGEST_TEXT_sources : Tok}
    {tMOST_SENT_OCTETS : Tok}
    {tMOST_SENT_NAMES : Tok}
    {tGREATEST_NUMBER : Tok}
    {tLEAST_INT : Tok}
    {tGREATEST_INT : Tok}
    {tLONGEST_TEXT_fields : Tok}
    {tMOST_OCTETS_fields : Tok}
    {t_FIRST_CODE : Tok}
    {t_LAST_CODE : Tok}
    {t_PERCENT_CODE : Tok}
    {tHEADER_SIZE : Tok}
    {tGREATEST_SIZE : Tok}
    {tGREATEST_OPCODE : Tok}
    {tMOST_ARGUMENTS : Tok}
    {a_EVENTS : Addr}
    {es_EVENTS : Array DictEntry} {nn_EVENTS : Nat}
    {a_EVENTS_k11 : Addr}
    {ow_EVENTS_k11 : Option Addr} {nw_EVENTS_k11 : Nat} {sw_EVENTS_k11 : Array (Option Value)}
    {a_EVENTS_k11_0 : Addr}
    {tk_EVENTS_k11_0_0 : Tok}
    {ow_EVENTS_k11_0 : Option Addr} {nw_EVENTS_k11_0 : Nat} {sw_EVENTS_k11_0 : Array (Option Value)}
    {a_EVENTS_k11_0_1 : Addr}
    {tk_EVENTS_k11_0_1_0 tk_EVENTS_k11_0_1_1 : Tok}
    {ow_EVENTS_k11_0_1 : Option Addr} {nw_EVENTS_k11_0_1 : Nat} {sw_EVENTS_k11_0_1 : Array (Option Value)}
    {a_EVENTS_k11_1 : Addr}
    {tk_EVENTS_k11_1_0 : Tok}
    {ow_EVENTS_k11_1 : Option Addr} {nw_EVENTS_k11_1 : Nat} {sw_EVENTS_k11_1 : Array (Option Value)}
    {a_EVENTS_k11_1_1 : Addr}
    {ow_EVENTS_k11_1_1 : Option Addr} {nw_EVENTS_k11_1_1 : Nat} {sw_EVENTS_k11_1_1 : Array (Option Value)}
    {a_EVENTS_k11_2 : Addr}
    {tk_EVENTS_k11_2_0 : Tok}
    {ow_EVENTS_k11_2 : Option Addr} {nw_EVENTS_k11_2 : Nat} {sw_EVENTS_k11_2 : Array (Option Value)}
    {a_EVENTS_k11_2_1 : Addr}
    {tk_EVENTS_k11_2_1_0 tk_EVENTS_k11_2_1_1 : Tok}
    {ow_EVENTS_k11_2_1 : Option Addr} {nw_EVENTS_k11_2_1 : Nat} {sw_EVENTS_k11_2_1 : Array (Option Value)}
    {CCaptures : Addr}
    {CFetch : Addr}
    {CWatch : Addr}
    {CFetches : Addr}
    {COffers : Addr}
    {CSource : Addr}
    {CSources : Addr}
    {CHoldings : Addr}
    {CReply : Addr}
    {CRequest : Addr}
    {CBadMessage : Addr}
    {CMessageTooLong : Addr}
    {CFault : Addr}
    {nmFault qnFault : Str} {NFault : Addr} {bsFault bmFault : List Value} {snFault : List Str} {sbFault : List Value} {abFault : Bool} {coFault : Option Bool} {ddFault : Option Addr} {k0Fault k1Fault k2Fault k3Fault k5Fault : Option Value}
    (a1 : PySem.W.nsIn K mainGlobals "_check_new" = some (some (.ref f_check_new)))
    (l1 : K.lookup f_check_new = some ⟨oc1, od1, .func (PySem.W.fnOf "_check_new" "_check_new" (defArgs s__check_new) (defBody s__check_new) (defScope s__check_new) .none kV1 dc1 pm1 an1 cd1 ct1), sl1⟩) (c1 : PySem.W.codeIn K cd1 "_check_new" = true) (k1 : PySem.W.keepIn K (.ref f_check_new) = true)
    (a2 : PySem.W.nsIn K mainGlobals "is_integer" = some (some (.ref fis_integer)))
    (l2 : K.lookup fis_integer = some ⟨oc2, od2, .func (PySem.W.fnOf "is_integer" "is_integer" (defArgs s_is_integer) (defBody s_is_integer) (defScope s_is_integer) .none kV2 dc2 pm2 an2 cd2 ct2), sl2⟩) (c2 : PySem.W.codeIn K cd2 "is_integer" = true) (k2 : PySem.W.keepIn K (.ref fis_integer) = true)
    (a3 : PySem.W.nsIn K mainGlobals "is_text" = some (some (.ref fis_text)))
    (l3 : K.lookup fis_text = some ⟨oc3, od3, .func (PySem.W.fnOf "is_text" "is_text" (defArgs s_is_text) (defBody s_is_text) (defScope s_is_text) .none kV3 dc3 pm3 an3 cd3 ct3), sl3⟩) (c3 : PySem.W.codeIn K cd3 "is_text" = true) (k3 : PySem.W.keepIn K (.ref fis_text) = true)
    (a4 : PySem.W.nsIn K mainGlobals "number_octets" = some (some (.ref fnumber_octets)))
    (l4 : K.lookup fnumber_octets = some ⟨oc4, od4, .func (PySem.W.fnOf "number_octets" "number_octets" (defArgs s_number_octets) (defBody s_number_octets) (defScope s_number_octets) .none kV4 dc4 pm4 an4 cd4 ct4), sl4⟩) (c4 : PySem.W.codeIn K cd4 "number_octets" = true) (k4 : PySem.W.keepIn K (.ref fnumber_octets) = true)
    (a5 : PySem.W.nsIn K mainGlobals "field_octets" = some (some (.ref ffield_octets)))
    (l5 : K.lookup ffield_octets = some ⟨oc5, od5, .func (PySem.W.fnOf "field_octets" "field_octets" (defArgs s_field_octets) (defBody s_field_octets) (defScope s_field_octets) .none kV5 dc5 pm5 an5 cd5 ct5), sl5⟩) (c5 : PySem.W.codeIn K cd5 "field_octets" = true) (k5 : PySem.W.keepIn K (.ref ffield_octets) = true)
    (a6 : PySem.W.nsIn K mainGlobals "_is_code" = some (some (.ref f_is_code)))
    (l6 : K.lookup f_is_code = some ⟨oc6, od6, .func (PySem.W.fnOf "_is_code" "_is_code" (defArgs s__is_code) (defBody s__is_code) (defScope s__is_code) .none kV6 dc6 pm6 an6 cd6 ct6), sl6⟩) (c6 : PySem.W.codeIn K cd6 "_is_code" = true) (k6 : PySem.W.keepIn K (.ref f_is_code) = true)
    (a7 : PySem.W.nsIn K mainGlobals "_is_of" = some (some (.ref f_is_of)))
    (l7 : K.lookup f_is_of = some ⟨oc7, od7, .func (PySem.W.fnOf "_is_of" "_is_of" (defArgs s__is_of) (defBody s__is_of) (defScope s__is_of) .none kV7 dc7 pm7 an7 cd7 ct7), sl7⟩) (c7 : PySem.W.codeIn K cd7 "_is_of" = true) (k7 : PySem.W.keepIn K (.ref f_is_of) = true)
    (a8 : PySem.W.nsIn K mainGlobals "_are_octets" = some (some (.ref f_are_octets)))
    (l8 : K.lookup f_are_octets = some ⟨oc8, od8, .func (PySem.W.fnOf "_are_octets" "_are_octets" (defArgs s__are_octets) (defBody s__are_octets) (defScope s__are_octets) .none kV8 dc8 pm8 an8 cd8 ct8), sl8⟩) (c8 : PySem.W.codeIn K cd8 "_are_octets" = true) (k8 : PySem.W.keepIn K (.ref f_are_octets) = true)
    (a9 : PySem.W.nsIn K mainGlobals "_is_bound" = some (some (.ref f_is_bound)))
    (l9 : K.lookup f_is_bound = some ⟨oc9, od9, .func (PySem.W.fnOf "_is_bound" "_is_bound" (defArgs s__is_bound) (defBody s__is_bound) (defScope s__is_bound) .none kV9 dc9 pm9 an9 cd9 ct9), sl9⟩) (c9 : PySem.W.codeIn K cd9 "_is_bound" = true) (k9 : PySem.W.keepIn K (.ref f_is_bound) = true)
    (a10 : PySem.W.nsIn K mainGlobals "_text_octets" = some (some (.ref f_text_octets)))
    (l10 : K.lookup f_text_octets = some ⟨oc10, od10, .func (PySem.W.fnOf "_text_octets" "_text_octets" (defArgs s__text_octets) (defBody s__text_octets) (defScope s__text_octets) .none kV10 dc10 pm10 an10 cd10 ct10), sl10⟩) (c10 : PySem.W.codeIn K cd10 "_text_octets" = true) (k10 : PySem.W.keepIn K (.ref f_text_octets) = true)
    (a11 : PySem.W.nsIn K mainGlobals "_padded" = some (some (.ref f_padded)))
    (l11 : K.lookup f_padded = some ⟨oc11, od11, .func (PySem.W.fnOf "_padded" "_padded" (defArgs s__padded) (defBody s__padded) (defScope s__padded) .none kV11 dc11 pm11 an11 cd11 ct11), sl11⟩) (c11 : PySem.W.codeIn K cd11 "_padded" = true) (k11 : PySem.W.keepIn K (.ref f_padded) = true)
    (a12 : PySem.W.nsIn K mainGlobals "encode_message" = some (some (.ref fencode_message)))
    (l12 : K.lookup fencode_message = some ⟨oc12, od12, .func (PySem.W.fnOf "encode_message" "encode_message" (defArgs s_encode_message) (defBody s_encode_message) (defScope s_encode_message) .none kV12 dc12 pm12 an12 cd12 ct12), sl12⟩) (c12 : PySem.W.codeIn K cd12 "encode_message" = true) (k12 : PySem.W.keepIn K (.ref fencode_message) = true)
    (a13 : PySem.W.nsIn K mainGlobals "event_octets" = some (some (.ref fevent_octets)))
    (l13 : K.lookup fevent_octets = some ⟨oc13, od13, .func (PySem.W.fnOf "event_octets" "event_octets" (defArgs s_event_octets) (defBody s_event_octets) (defScope s_event_octets) .none kV13 dc13 pm13 an13 cd13 ct13), sl13⟩) (c13 : PySem.W.codeIn K cd13 "event_octets" = true) (k13 : PySem.W.keepIn K (.ref fevent_octets) = true)
    (a14 : PySem.W.nsIn K mainGlobals "_opcode_of" = some (some (.ref f_opcode_of)))
    (l14 : K.lookup f_opcode_of = some ⟨oc14, od14, .func (PySem.W.fnOf "_opcode_of" "_opcode_of" (defArgs s__opcode_of) (defBody s__opcode_of) (defScope s__opcode_of) .none kV14 dc14 pm14 an14 cd14 ct14), sl14⟩) (c14 : PySem.W.codeIn K cd14 "_opcode_of" = true) (k14 : PySem.W.keepIn K (.ref f_opcode_of) = true)
    (a15 : PySem.W.nsIn K mainGlobals "_law_cell" = some (some (.ref f_law_cell)))
    (l15 : K.lookup f_law_cell = some ⟨oc15, od15, .func (PySem.W.fnOf "_law_cell" "_law_cell" (defArgs s__law_cell) (defBody s__law_cell) (defScope s__law_cell) .none kV15 dc15 pm15 an15 cd15 ct15), sl15⟩) (c15 : PySem.W.codeIn K cd15 "_law_cell" = true) (k15 : PySem.W.keepIn K (.ref f_law_cell) = true)
    (a16 : PySem.W.nsIn K mainGlobals "_law_row" = some (some (.ref f_law_row)))
    (l16 : K.lookup f_law_row = some ⟨oc16, od16, .func (PySem.W.fnOf "_law_row" "_law_row" (defArgs s__law_row) (defBody s__law_row) (defScope s__law_row) .none kV16 dc16 pm16 an16 cd16 ct16), sl16⟩) (c16 : PySem.W.codeIn K cd16 "_law_row" = true) (k16 : PySem.W.keepIn K (.ref f_law_row) = true)
    (a17 : PySem.W.nsIn K mainGlobals "_law_serve" = some (some (.ref f_law_serve)))
    (l17 : K.lookup f_law_serve = some ⟨oc17, od17, .func (PySem.W.fnOf "_law_serve" "_law_serve" (defArgs s__law_serve) (defBody s__law_serve) (defScope s__law_serve) .none kV17 dc17 pm17 an17 cd17 ct17), sl17⟩) (c17 : PySem.W.codeIn K cd17 "_law_serve" = true) (k17 : PySem.W.keepIn K (.ref f_law_serve) = true)
    (a18 : PySem.W.nsIn K mainGlobals "_law_size" = some (some (.ref f_law_size)))
    (l18 : K.lookup f_law_size = some ⟨oc18, od18, .func (PySem.W.fnOf "_law_size" "_law_size" (defArgs s__law_size) (defBody s__law_size) (defScope s__law_size) .none kV18 dc18 pm18 an18 cd18 ct18), sl18⟩) (c18 : PySem.W.codeIn K cd18 "_law_size" = true) (k18 : PySem.W.keepIn K (.ref f_law_size) = true)
    (a19 : PySem.W.nsIn K mainGlobals "_law_ask" = some (some (.ref f_law_ask)))
    (l19 : K.lookup f_law_ask = some ⟨oc19, od19, .func (PySem.W.fnOf "_law_ask" "_law_ask" (defArgs s__law_ask) (defBody s__law_ask) (defScope s__law_ask) .none kV19 dc19 pm19 an19 cd19 ct19), sl19⟩) (c19 : PySem.W.codeIn K cd19 "_law_ask" = true) (k19 : PySem.W.keepIn K (.ref f_law_ask) = true)
    (a20 : PySem.W.nsIn K mainGlobals "_law_answer" = some (some (.ref f_law_answer)))
    (l20 : K.lookup f_law_answer = some ⟨oc20, od20, .func (PySem.W.fnOf "_law_answer" "_law_answer" (defArgs s__law_answer) (defBody s__law_answer) (defScope s__law_answer) .none kV20 dc20 pm20 an20 cd20 ct20), sl20⟩) (c20 : PySem.W.codeIn K cd20 "_law_answer" = true) (k20 : PySem.W.keepIn K (.ref f_law_answer) = true)
    (a21 : PySem.W.nsIn K mainGlobals "_law_read" = some (some (.ref f_law_read)))
    (l21 : K.lookup f_law_read = some ⟨oc21, od21, .func (PySem.W.fnOf "_law_read" "_law_read" (defArgs s__law_read) (defBody s__law_read) (defScope s__law_read) .none kV21 dc21 pm21 an21 cd21 ct21), sl21⟩) (c21 : PySem.W.codeIn K cd21 "_law_read" = true) (k21 : PySem.W.keepIn K (.ref f_law_read) = true)
    (a22 : PySem.W.nsIn K mainGlobals "law" = some (some (.ref flaw)))
    (l22 : K.lookup flaw = some ⟨oc22, od22, .func (PySem.W.fnOf "law" "law" (defArgs s_law) (defBody s_law) (defScope s_law) .none kV22 dc22 pm22 an22 cd22 ct22), sl22⟩) (c22 : PySem.W.codeIn K cd22 "law" = true) (k22 : PySem.W.keepIn K (.ref flaw) = true)
    (a23 : PySem.W.findIn K (.ref CFault) "__init__" = some (some (.ref fFault___init__)))
    (i23 : PySem.W.isFn K (.ref fFault___init__) = true)
    (l23 : K.lookup fFault___init__ = some ⟨oc23, od23, .func (PySem.W.fnX "__init__" "Fault.__init__" (defArgs s_Fault___init__) (defBody s_Fault___init__) (defScope s_Fault___init__) [("__class__", cc23)] .none kV23 dc23 pm23 an23 (.ref cda23) ct23), sl23⟩) (c23 : PySem.W.codeIn K (.ref cda23) "Fault.__init__" = true) (k23 : PySem.W.keepIn K (.ref fFault___init__) = true)
    (lc23 : K.lookup cc23 = some ⟨cl23, cld23, .cell (some (.ref CFault)), csl23⟩) (ld23 : K.lookup cda23 = some ⟨ccl23, cdd23, .fields fvs23, ccs23⟩) (rv23 : fvs23[2]? = some (.str "/claim/cut.py" tf23)) (lD23 : PySem.W.clsIn K CFault = some cdD23) (ty23 : PySem.W.typeIn K (.ref fFault___init__) = some (.type "function"))
    (a24 : PySem.W.findIn K (.ref CCaptures) "__init__" = some (some (.ref fCaptures___init__)))
    (i24 : PySem.W.isFn K (.ref fCaptures___init__) = true)
    (l24 : K.lookup fCaptures___init__ = some ⟨oc24, od24, .func (PySem.W.fnOf "__init__" "Captures.__init__" (defArgs s_Captures___init__) (defBody s_Captures___init__) (defScope s_Captures___init__) .none kV24 dc24 pm24 an24 cd24 ct24), sl24⟩) (c24 : PySem.W.codeIn K cd24 "Captures.__init__" = true) (k24 : PySem.W.keepIn K (.ref fCaptures___init__) = true)
    (a25 : PySem.W.findIn K (.ref CCaptures) "make" = some (some (.ref fCaptures_make)))
    (i25 : PySem.W.isFn K (.ref fCaptures_make) = true)
    (l25 : K.lookup fCaptures_make = some ⟨oc25, od25, .func (PySem.W.fnOf "make" "Captures.make" (defArgs s_Captures_make) (defBody s_Captures_make) (defScope s_Captures_make) .none kV25 dc25 pm25 an25 cd25 ct25), sl25⟩) (c25 : PySem.W.codeIn K cd25 "Captures.make" = true) (k25 : PySem.W.keepIn K (.ref fCaptures_make) = true)
    (a26 : PySem.W.findIn K (.ref CCaptures) "answered" = some (some (.ref fCaptures_answered)))
    (i26 : PySem.W.isFn K (.ref fCaptures_answered) = true)
    (l26 : K.lookup fCaptures_answered = some ⟨oc26, od26, .func (PySem.W.fnOf "answered" "Captures.answered" (defArgs s_Captures_answered) (defBody s_Captures_answered) (defScope s_Captures_answered) .none kV26 dc26 pm26 an26 cd26 ct26), sl26⟩) (c26 : PySem.W.codeIn K cd26 "Captures.answered" = true) (k26 : PySem.W.keepIn K (.ref fCaptures_answered) = true)
    (a27 : PySem.W.findIn K (.ref CCaptures) "read" = some (some (.ref fCaptures_read)))
    (i27 : PySem.W.isFn K (.ref fCaptures_read) = true)
    (l27 : K.lookup fCaptures_read = some ⟨oc27, od27, .func (PySem.W.fnOf "read" "Captures.read" (defArgs s_Captures_read) (defBody s_Captures_read) (defScope s_Captures_read) .none kV27 dc27 pm27 an27 cd27 ct27), sl27⟩) (c27 : PySem.W.codeIn K cd27 "Captures.read" = true) (k27 : PySem.W.keepIn K (.ref fCaptures_read) = true)
    (a28 : PySem.W.findIn K (.ref CCaptures) "forget" = some (some (.ref fCaptures_forget)))
    (i28 : PySem.W.isFn K (.ref fCaptures_forget) = true)
    (l28 : K.lookup fCaptures_forget = some ⟨oc28, od28, .func (PySem.W.fnOf "forget" "Captures.forget" (defArgs s_Captures_forget) (defBody s_Captures_forget) (defScope s_Captures_forget) .none kV28 dc28 pm28 an28 cd28 ct28), sl28⟩) (c28 : PySem.W.codeIn K cd28 "Captures.forget" = true) (k28 : PySem.W.keepIn K (.ref fCaptures_forget) = true)
    (a29 : PySem.W.findIn K (.ref CFetch) "__init__" = some (some (.ref fFetch___init__)))
    (i29 : PySem.W.isFn K (.ref fFetch___init__) = true)
    (l29 : K.lookup fFetch___init__ = some ⟨oc29, od29, .func (PySem.W.fnOf "__init__" "Fetch.__init__" (defArgs s_Fetch___init__) (defBody s_Fetch___init__) (defScope s_Fetch___init__) .none kV29 dc29 pm29 an29 cd29 ct29), sl29⟩) (c29 : PySem.W.codeIn K cd29 "Fetch.__init__" = true) (k29 : PySem.W.keepIn K (.ref fFetch___init__) = true)
    (a30 : PySem.W.findIn K (.ref CWatch) "__init__" = some (some (.ref fWatch___init__)))
    (i30 : PySem.W.isFn K (.ref fWatch___init__) = true)
    (l30 : K.lookup fWatch___init__ = some ⟨oc30, od30, .func (PySem.W.fnOf "__init__" "Watch.__init__" (defArgs s_Watch___init__) (defBody s_Watch___init__) (defScope s_Watch___init__) .none kV30 dc30 pm30 an30 cd30 ct30), sl30⟩) (c30 : PySem.W.codeIn K cd30 "Watch.__init__" = true) (k30 : PySem.W.keepIn K (.ref fWatch___init__) = true)
    (a31 : PySem.W.findIn K (.ref CFetches) "__init__" = some (some (.ref fFetches___init__)))
    (i31 : PySem.W.isFn K (.ref fFetches___init__) = true)
    (l31 : K.lookup fFetches___init__ = some ⟨oc31, od31, .func (PySem.W.fnOf "__init__" "Fetches.__init__" (defArgs s_Fetches___init__) (defBody s_Fetches___init__) (defScope s_Fetches___init__) .none kV31 dc31 pm31 an31 cd31 ct31), sl31⟩) (c31 : PySem.W.codeIn K cd31 "Fetches.__init__" = true) (k31 : PySem.W.keepIn K (.ref fFetches___init__) = true)
    (a32 : PySem.W.findIn K (.ref CFetches) "make_fetch" = some (some (.ref fFetches_make_fetch)))
    (i32 : PySem.W.isFn K (.ref fFetches_make_fetch) = true)
    (l32 : K.lookup fFetches_make_fetch = some ⟨oc32, od32, .func (PySem.W.fnOf "make_fetch" "Fetches.make_fetch" (defArgs s_Fetches_make_fetch) (defBody s_Fetches_make_fetch) (defScope s_Fetches_make_fetch) .none kV32 dc32 pm32 an32 cd32 ct32), sl32⟩) (c32 : PySem.W.codeIn K cd32 "Fetches.make_fetch" = true) (k32 : PySem.W.keepIn K (.ref fFetches_make_fetch) = true)
    (a33 : PySem.W.findIn K (.ref CFetches) "make_watch" = some (some (.ref fFetches_make_watch)))
    (i33 : PySem.W.isFn K (.ref fFetches_make_watch) = true)
    (l33 : K.lookup fFetches_make_watch = some ⟨oc33, od33, .func (PySem.W.fnOf "make_watch" "Fetches.make_watch" (defArgs s_Fetches_make_watch) (defBody s_Fetches_make_watch) (defScope s_Fetches_make_watch) .none kV33 dc33 pm33 an33 cd33 ct33), sl33⟩) (c33 : PySem.W.codeIn K cd33 "Fetches.make_watch" = true) (k33 : PySem.W.keepIn K (.ref fFetches_make_watch) = true)
    (a34 : PySem.W.findIn K (.ref CFetches) "read" = some (some (.ref fFetches_read)))
    (i34 : PySem.W.isFn K (.ref fFetches_read) = true)
    (l34 : K.lookup fFetches_read = some ⟨oc34, od34, .func (PySem.W.fnOf "read" "Fetches.read" (defArgs s_Fetches_read) (defBody s_Fetches_read) (defScope s_Fetches_read) .none kV34 dc34 pm34 an34 cd34 ct34), sl34⟩) (c34 : PySem.W.codeIn K cd34 "Fetches.read" = true) (k34 : PySem.W.keepIn K (.ref fFetches_read) = true)
    (a35 : PySem.W.findIn K (.ref CFetches) "forget" = some (some (.ref fFetches_forget)))
    (i35 : PySem.W.isFn K (.ref fFetches_forget) = true)
    (l35 : K.lookup fFetches_forget = some ⟨oc35, od35, .func (PySem.W.fnOf "forget" "Fetches.forget" (defArgs s_Fetches_forget) (defBody s_Fetches_forget) (defScope s_Fetches_forget) .none kV35 dc35 pm35 an35 cd35 ct35), sl35⟩) (c35 : PySem.W.codeIn K cd35 "Fetches.forget" = true) (k35 : PySem.W.keepIn K (.ref fFetches_forget) = true)
    (a36 : PySem.W.findIn K (.ref COffers) "__init__" = some (some (.ref fOffers___init__)))
    (i36 : PySem.W.isFn K (.ref fOffers___init__) = true)
    (l36 : K.lookup fOffers___init__ = some ⟨oc36, od36, .func (PySem.W.fnOf "__init__" "Offers.__init__" (defArgs s_Offers___init__) (defBody s_Offers___init__) (defScope s_Offers___init__) .none kV36 dc36 pm36 an36 cd36 ct36), sl36⟩) (c36 : PySem.W.codeIn K cd36 "Offers.__init__" = true) (k36 : PySem.W.keepIn K (.ref fOffers___init__) = true)
    (a37 : PySem.W.findIn K (.ref COffers) "forget" = some (some (.ref fOffers_forget)))
    (i37 : PySem.W.isFn K (.ref fOffers_forget) = true)
    (l37 : K.lookup fOffers_forget = some ⟨oc37, od37, .func (PySem.W.fnOf "forget" "Offers.forget" (defArgs s_Offers_forget) (defBody s_Offers_forget) (defScope s_Offers_forget) .none kV37 dc37 pm37 an37 cd37 ct37), sl37⟩) (c37 : PySem.W.codeIn K cd37 "Offers.forget" = true) (k37 : PySem.W.keepIn K (.ref fOffers_forget) = true)
    (a38 : PySem.W.findIn K (.ref COffers) "read" = some (some (.ref fOffers_read)))
    (i38 : PySem.W.isFn K (.ref fOffers_read) = true)
    (l38 : K.lookup fOffers_read = some ⟨oc38, od38, .func (PySem.W.fnOf "read" "Offers.read" (defArgs s_Offers_read) (defBody s_Offers_read) (defScope s_Offers_read) .none kV38 dc38 pm38 an38 cd38 ct38), sl38⟩) (c38 : PySem.W.codeIn K cd38 "Offers.read" = true) (k38 : PySem.W.keepIn K (.ref fOffers_read) = true)
    (a39 : PySem.W.findIn K (.ref CSource) "__init__" = some (some (.ref fSource___init__)))
    (i39 : PySem.W.isFn K (.ref fSource___init__) = true)
    (l39 : K.lookup fSource___init__ = some ⟨oc39, od39, .func (PySem.W.fnOf "__init__" "Source.__init__" (defArgs s_Source___init__) (defBody s_Source___init__) (defScope s_Source___init__) .none kV39 dc39 pm39 an39 cd39 ct39), sl39⟩) (c39 : PySem.W.codeIn K cd39 "Source.__init__" = true) (k39 : PySem.W.keepIn K (.ref fSource___init__) = true)
    (a40 : PySem.W.findIn K (.ref CSources) "__init__" = some (some (.ref fSources___init__)))
    (i40 : PySem.W.isFn K (.ref fSources___init__) = true)
    (l40 : K.lookup fSources___init__ = some ⟨oc40, od40, .func (PySem.W.fnOf "__init__" "Sources.__init__" (defArgs s_Sources___init__) (defBody s_Sources___init__) (defScope s_Sources___init__) .none kV40 dc40 pm40 an40 cd40 ct40), sl40⟩) (c40 : PySem.W.codeIn K cd40 "Sources.__init__" = true) (k40 : PySem.W.keepIn K (.ref fSources___init__) = true)
    (a41 : PySem.W.findIn K (.ref CSources) "make" = some (some (.ref fSources_make)))
    (i41 : PySem.W.isFn K (.ref fSources_make) = true)
    (l41 : K.lookup fSources_make = some ⟨oc41, od41, .func (PySem.W.fnOf "make" "Sources.make" (defArgs s_Sources_make) (defBody s_Sources_make) (defScope s_Sources_make) .none kV41 dc41 pm41 an41 cd41 ct41), sl41⟩) (c41 : PySem.W.codeIn K cd41 "Sources.make" = true) (k41 : PySem.W.keepIn K (.ref fSources_make) = true)
    (a42 : PySem.W.findIn K (.ref CSources) "write" = some (some (.ref fSources_write)))
    (i42 : PySem.W.isFn K (.ref fSources_write) = true)
    (l42 : K.lookup fSources_write = some ⟨oc42, od42, .func (PySem.W.fnOf "write" "Sources.write" (defArgs s_Sources_write) (defBody s_Sources_write) (defScope s_Sources_write) .none kV42 dc42 pm42 an42 cd42 ct42), sl42⟩) (c42 : PySem.W.codeIn K cd42 "Sources.write" = true) (k42 : PySem.W.keepIn K (.ref fSources_write) = true)
    (a43 : PySem.W.findIn K (.ref CSources) "is_used" = some (some (.ref fSources_is_used)))
    (i43 : PySem.W.isFn K (.ref fSources_is_used) = true)
    (l43 : K.lookup fSources_is_used = some ⟨oc43, od43, .func (PySem.W.fnOf "is_used" "Sources.is_used" (defArgs s_Sources_is_used) (defBody s_Sources_is_used) (defScope s_Sources_is_used) .none kV43 dc43 pm43 an43 cd43 ct43), sl43⟩) (c43 : PySem.W.codeIn K cd43 "Sources.is_used" = true) (k43 : PySem.W.keepIn K (.ref fSources_is_used) = true)
    (a44 : PySem.W.findIn K (.ref CSources) "use_up" = some (some (.ref fSources_use_up)))
    (i44 : PySem.W.isFn K (.ref fSources_use_up) = true)
    (l44 : K.lookup fSources_use_up = some ⟨oc44, od44, .func (PySem.W.fnOf "use_up" "Sources.use_up" (defArgs s_Sources_use_up) (defBody s_Sources_use_up) (defScope s_Sources_use_up) .none kV44 dc44 pm44 an44 cd44 ct44), sl44⟩) (c44 : PySem.W.codeIn K cd44 "Sources.use_up" = true) (k44 : PySem.W.keepIn K (.ref fSources_use_up) = true)
    (a45 : PySem.W.findIn K (.ref CSources) "forget" = some (some (.ref fSources_forget)))
    (i45 : PySem.W.isFn K (.ref fSources_forget) = true)
    (l45 : K.lookup fSources_forget = some ⟨oc45, od45, .func (PySem.W.fnOf "forget" "Sources.forget" (defArgs s_Sources_forget) (defBody s_Sources_forget) (defScope s_Sources_forget) .none kV45 dc45 pm45 an45 cd45 ct45), sl45⟩) (c45 : PySem.W.codeIn K cd45 "Sources.forget" = true) (k45 : PySem.W.keepIn K (.ref fSources_forget) = true)
    (a46 : PySem.W.findIn K (.ref CSources) "_fresh" = some (some (.ref fSources__fresh)))
    (i46 : PySem.W.isFn K (.ref fSources__fresh) = true)
    (l46 : K.lookup fSources__fresh = some ⟨oc46, od46, .func (PySem.W.fnOf "_fresh" "Sources._fresh" (defArgs s_Sources__fresh) (defBody s_Sources__fresh) (defScope s_Sources__fresh) .none kV46 dc46 pm46 an46 cd46 ct46), sl46⟩) (c46 : PySem.W.codeIn K cd46 "Sources._fresh" = true) (k46 : PySem.W.keepIn K (.ref fSources__fresh) = true)
    (a47 : PySem.W.findIn K (.ref CHoldings) "__init__" = some (some (.ref fHoldings___init__)))
    (i47 : PySem.W.isFn K (.ref fHoldings___init__) = true)
    (l47 : K.lookup fHoldings___init__ = some ⟨oc47, od47, .func (PySem.W.fnOf "__init__" "Holdings.__init__" (defArgs s_Holdings___init__) (defBody s_Holdings___init__) (defScope s_Holdings___init__) .none kV47 dc47 pm47 an47 cd47 ct47), sl47⟩) (c47 : PySem.W.codeIn K cd47 "Holdings.__init__" = true) (k47 : PySem.W.keepIn K (.ref fHoldings___init__) = true)
    (a48 : PySem.W.findIn K (.ref CHoldings) "serve" = some (some (.ref fHoldings_serve)))
    (i48 : PySem.W.isFn K (.ref fHoldings_serve) = true)
    (l48 : K.lookup fHoldings_serve = some ⟨oc48, od48, .func (PySem.W.fnOf "serve" "Holdings.serve" (defArgs s_Holdings_serve) (defBody s_Holdings_serve) (defScope s_Holdings_serve) .none kV48 dc48 pm48 an48 cd48 ct48), sl48⟩) (c48 : PySem.W.codeIn K cd48 "Holdings.serve" = true) (k48 : PySem.W.keepIn K (.ref fHoldings_serve) = true)
    (a49 : PySem.W.findIn K (.ref CHoldings) "ended" = some (some (.ref fHoldings_ended)))
    (i49 : PySem.W.isFn K (.ref fHoldings_ended) = true)
    (l49 : K.lookup fHoldings_ended = some ⟨oc49, od49, .func (PySem.W.fnOf "ended" "Holdings.ended" (defArgs s_Holdings_ended) (defBody s_Holdings_ended) (defScope s_Holdings_ended) .none kV49 dc49 pm49 an49 cd49 ct49), sl49⟩) (c49 : PySem.W.codeIn K cd49 "Holdings.ended" = true) (k49 : PySem.W.keepIn K (.ref fHoldings_ended) = true)
    (a50 : PySem.W.findIn K (.ref CHoldings) "answered" = some (some (.ref fHoldings_answered)))
    (i50 : PySem.W.isFn K (.ref fHoldings_answered) = true)
    (l50 : K.lookup fHoldings_answered = some ⟨oc50, od50, .func (PySem.W.fnOf "answered" "Holdings.answered" (defArgs s_Holdings_answered) (defBody s_Holdings_answered) (defScope s_Holdings_answered) .none kV50 dc50 pm50 an50 cd50 ct50), sl50⟩) (c50 : PySem.W.codeIn K cd50 "Holdings.answered" = true) (k50 : PySem.W.keepIn K (.ref fHoldings_answered) = true)
    (a51 : PySem.W.findIn K (.ref CHoldings) "_serve_transfer" = some (some (.ref fHoldings__serve_transfer)))
    (i51 : PySem.W.isFn K (.ref fHoldings__serve_transfer) = true)
    (l51 : K.lookup fHoldings__serve_transfer = some ⟨oc51, od51, .func (PySem.W.fnOf "_serve_transfer" "Holdings._serve_transfer" (defArgs s_Holdings__serve_transfer) (defBody s_Holdings__serve_transfer) (defScope s_Holdings__serve_transfer) .none kV51 dc51 pm51 an51 cd51 ct51), sl51⟩) (c51 : PySem.W.codeIn K cd51 "Holdings._serve_transfer" = true) (k51 : PySem.W.keepIn K (.ref fHoldings__serve_transfer) = true)
    (a52 : PySem.W.findIn K (.ref CHoldings) "_give" = some (some (.ref fHoldings__give)))
    (i52 : PySem.W.isFn K (.ref fHoldings__give) = true)
    (l52 : K.lookup fHoldings__give = some ⟨oc52, od52, .func (PySem.W.fnOf "_give" "Holdings._give" (defArgs s_Holdings__give) (defBody s_Holdings__give) (defScope s_Holdings__give) .none kV52 dc52 pm52 an52 cd52 ct52), sl52⟩) (c52 : PySem.W.codeIn K cd52 "Holdings._give" = true) (k52 : PySem.W.keepIn K (.ref fHoldings__give) = true)
    (a53 : PySem.W.findIn K (.ref CHoldings) "_send" = some (some (.ref fHoldings__send)))
    (i53 : PySem.W.isFn K (.ref fHoldings__send) = true)
    (l53 : K.lookup fHoldings__send = some ⟨oc53, od53, .func (PySem.W.fnOf "_send" "Holdings._send" (defArgs s_Holdings__send) (defBody s_Holdings__send) (defScope s_Holdings__send) .none kV53 dc53 pm53 an53 cd53 ct53), sl53⟩) (c53 : PySem.W.codeIn K cd53 "Holdings._send" = true) (k53 : PySem.W.keepIn K (.ref fHoldings__send) = true)
    (a54 : PySem.W.findIn K (.ref CHoldings) "_unsend" = some (some (.ref fHoldings__unsend)))
    (i54 : PySem.W.isFn K (.ref fHoldings__unsend) = true)
    (l54 : K.lookup fHoldings__unsend = some ⟨oc54, od54, .func (PySem.W.fnOf "_unsend" "Holdings._unsend" (defArgs s_Holdings__unsend) (defBody s_Holdings__unsend) (defScope s_Holdings__unsend) .none kV54 dc54 pm54 an54 cd54 ct54), sl54⟩) (c54 : PySem.W.codeIn K cd54 "Holdings._unsend" = true) (k54 : PySem.W.keepIn K (.ref fHoldings__unsend) = true)
    (a55 : PySem.W.findIn K (.ref CReply) "__init__" = some (some (.ref fReply___init__)))
    (i55 : PySem.W.isFn K (.ref fReply___init__) = true)
    (l55 : K.lookup fReply___init__ = some ⟨oc55, od55, .func (PySem.W.fnOf "__init__" "Reply.__init__" (defArgs s_Reply___init__) (defBody s_Reply___init__) (defScope s_Reply___init__) .none kV55 dc55 pm55 an55 cd55 ct55), sl55⟩) (c55 : PySem.W.codeIn K cd55 "Reply.__init__" = true) (k55 : PySem.W.keepIn K (.ref fReply___init__) = true)
    (a56 : PySem.W.findIn K (.ref CReply) "tell" = some (some (.ref fReply_tell)))
    (i56 : PySem.W.isFn K (.ref fReply_tell) = true)
    (l56 : K.lookup fReply_tell = some ⟨oc56, od56, .func (PySem.W.fnOf "tell" "Reply.tell" (defArgs s_Reply_tell) (defBody s_Reply_tell) (defScope s_Reply_tell) .none kV56 dc56 pm56 an56 cd56 ct56), sl56⟩) (c56 : PySem.W.codeIn K cd56 "Reply.tell" = true) (k56 : PySem.W.keepIn K (.ref fReply_tell) = true)
    (a57 : PySem.W.findIn K (.ref CReply) "wish" = some (some (.ref fReply_wish)))
    (i57 : PySem.W.isFn K (.ref fReply_wish) = true)
    (l57 : K.lookup fReply_wish = some ⟨oc57, od57, .func (PySem.W.fnOf "wish" "Reply.wish" (defArgs s_Reply_wish) (defBody s_Reply_wish) (defScope s_Reply_wish) .none kV57 dc57 pm57 an57 cd57 ct57), sl57⟩) (c57 : PySem.W.codeIn K cd57 "Reply.wish" = true) (k57 : PySem.W.keepIn K (.ref fReply_wish) = true)
    (a58 : PySem.W.findIn K (.ref CRequest) "__init__" = some (some (.ref fRequest___init__)))
    (i58 : PySem.W.isFn K (.ref fRequest___init__) = true)
    (l58 : K.lookup fRequest___init__ = some ⟨oc58, od58, .func (PySem.W.fnOf "__init__" "Request.__init__" (defArgs s_Request___init__) (defBody s_Request___init__) (defScope s_Request___init__) .none kV58 dc58 pm58 an58 cd58 ct58), sl58⟩) (c58 : PySem.W.codeIn K cd58 "Request.__init__" = true) (k58 : PySem.W.keepIn K (.ref fRequest___init__) = true)
    (z_all : PySem.W.nsIn K mainGlobals "all" = some none)
    (z_bool : PySem.W.nsIn K mainGlobals "bool" = some none)
    (z_int : PySem.W.nsIn K mainGlobals "int" = some none)
    (z_isinstance : PySem.W.nsIn K mainGlobals "isinstance" = some none)
    (z_len : PySem.W.nsIn K mainGlobals "len" = some none)
    (z_list : PySem.W.nsIn K mainGlobals "list" = some none)
    (z_max : PySem.W.nsIn K mainGlobals "max" = some none)
    (z_min : PySem.W.nsIn K mainGlobals "min" = some none)
    (z_ord : PySem.W.nsIn K mainGlobals "ord" = some none)
    (z_range : PySem.W.nsIn K mainGlobals "range" = some none)
    (z_str : PySem.W.nsIn K mainGlobals "str" = some none)
    (z_sum : PySem.W.nsIn K mainGlobals "sum" = some none)
    (z_super : PySem.W.nsIn K mainGlobals "super" = some none)
    (z_tuple : PySem.W.nsIn K mainGlobals "tuple" = some none)
    (z_zip : PySem.W.nsIn K mainGlobals "zip" = some none)
    (q_LONGEST_SIDE : PySem.W.nsIn K mainGlobals "LONGEST_SIDE" = some (some (.int (256) tLONGEST_SIDE)))
    (q_MOST_PIXELS : PySem.W.nsIn K mainGlobals "MOST_PIXELS" = some (some (.int (4096) tMOST_PIXELS)))
    (q_MOST_CAPTURES : PySem.W.nsIn K mainGlobals "MOST_CAPTURES" = some (some (.int (2) tMOST_CAPTURES)))
    (q_MOST_READ_captures : PySem.W.nsIn K mainGlobals "MOST_READ_captures" = some (some (.int (1024) tMOST_READ_captures)))
    (q_LONGEST_TEXT_fetches : PySem.W.nsIn K mainGlobals "LONGEST_TEXT_fetches" = some (some (.int (128) tLONGEST_TEXT_fetches)))
    (q_MOST_FETCHES : PySem.W.nsIn K mainGlobals "MOST_FETCHES" = some (some (.int (4) tMOST_FETCHES)))
    (q_MOST_WATCHES : PySem.W.nsIn K mainGlobals "MOST_WATCHES" = some (some (.int (8) tMOST_WATCHES)))
    (q_MOST_READ_fetches : PySem.W.nsIn K mainGlobals "MOST_READ_fetches" = some (some (.int (1024) tMOST_READ_fetches)))
    (q_MOST_READ_offers : PySem.W.nsIn K mainGlobals "MOST_READ_offers" = some (some (.int (1024) tMOST_READ_offers)))
    (q_MOST_SOURCES : PySem.W.nsIn K mainGlobals "MOST_SOURCES" = some (some (.int (8) tMOST_SOURCES)))
    (q_MOST_KINDS : PySem.W.nsIn K mainGlobals "MOST_KINDS" = some (some (.int (16) tMOST_KINDS)))
    (q_MOST_OCTETS_sources : PySem.W.nsIn K mainGlobals "MOST_OCTETS_sources" = some (some (.int (32768) tMOST_OCTETS_sources)))
    (q_LONGEST_TEXT_sources : PySem.W.nsIn K mainGlobals "LONGEST_TEXT_sources" = some (some (.int (128) tLONGEST_TEXT_sources)))
    (q_MOST_SENT_OCTETS : PySem.W.nsIn K mainGlobals "MOST_SENT_OCTETS" = some (some (.int (8192) tMOST_SENT_OCTETS)))
    (q_MOST_SENT_NAMES : PySem.W.nsIn K mainGlobals "MOST_SENT_NAMES" = some (some (.int (4) tMOST_SENT_NAMES)))
    (q_GREATEST_NUMBER : PySem.W.nsIn K mainGlobals "GREATEST_NUMBER" = some (some (.int (4294967295) tGREATEST_NUMBER)))
    (q_LEAST_INT : PySem.W.nsIn K mainGlobals "LEAST_INT" = some (some (.int (-2147483648) tLEAST_INT)))
    (q_GREATEST_INT : PySem.W.nsIn K mainGlobals "GREATEST_INT" = some (some (.int (2147483647) tGREATEST_INT)))
    (q_LONGEST_TEXT_fields : PySem.W.nsIn K mainGlobals "LONGEST_TEXT_fields" = some (some (.int (1000) tLONGEST_TEXT_fields)))
    (q_MOST_OCTETS_fields : PySem.W.nsIn K mainGlobals "MOST_OCTETS_fields" = some (some (.int (16384) tMOST_OCTETS_fields)))
    (q__FIRST_CODE : PySem.W.nsIn K mainGlobals "_FIRST_CODE" = some (some (.int (32) t_FIRST_CODE)))
    (q__LAST_CODE : PySem.W.nsIn K mainGlobals "_LAST_CODE" = some (some (.int (126) t_LAST_CODE)))
    (q__PERCENT_CODE : PySem.W.nsIn K mainGlobals "_PERCENT_CODE" = some (some (.int (37) t_PERCENT_CODE)))
    (q_HEADER_SIZE : PySem.W.nsIn K mainGlobals "HEADER_SIZE" = some (some (.int (8) tHEADER_SIZE)))
    (q_GREATEST_SIZE : PySem.W.nsIn K mainGlobals "GREATEST_SIZE" = some (some (.int (20480) tGREATEST_SIZE)))
    (q_GREATEST_OPCODE : PySem.W.nsIn K mainGlobals "GREATEST_OPCODE" = some (some (.int (65535) tGREATEST_OPCODE)))
    (q_MOST_ARGUMENTS : PySem.W.nsIn K mainGlobals "MOST_ARGUMENTS" = some (some (.int (20) tMOST_ARGUMENTS)))
    (q__EVENTS : PySem.W.nsIn K mainGlobals "_EVENTS" = some (some (.ref a_EVENTS)))
    (dl_EVENTS : K.lookup a_EVENTS = some ⟨.type "dict", none, .dict es_EVENTS nn_EVENTS, #[]⟩) (dk_EVENTS : PySem.W.KeysLit w.params es_EVENTS.toList)
    (de_EVENTS_k11 : PySem.W.nsIn K a_EVENTS "capture" = some (some (.ref a_EVENTS_k11)))
    (w_EVENTS_k11 : K.lookup a_EVENTS_k11 = some ⟨.type "tuple", ow_EVENTS_k11, .seq #[.ref a_EVENTS_k11_0, .ref a_EVENTS_k11_1, .ref a_EVENTS_k11_2] nw_EVENTS_k11, sw_EVENTS_k11⟩)
    (w_EVENTS_k11_0 : K.lookup a_EVENTS_k11_0 = some ⟨.type "tuple", ow_EVENTS_k11_0, .seq #[.str "allowed" tk_EVENTS_k11_0_0, .ref a_EVENTS_k11_0_1] nw_EVENTS_k11_0, sw_EVENTS_k11_0⟩)
    (w_EVENTS_k11_0_1 : K.lookup a_EVENTS_k11_0_1 = some ⟨.type "tuple", ow_EVENTS_k11_0_1, .seq #[.str "uint" tk_EVENTS_k11_0_1_0, .str "uint" tk_EVENTS_k11_0_1_1] nw_EVENTS_k11_0_1, sw_EVENTS_k11_0_1⟩)
    (w_EVENTS_k11_1 : K.lookup a_EVENTS_k11_1 = some ⟨.type "tuple", ow_EVENTS_k11_1, .seq #[.str "refused" tk_EVENTS_k11_1_0, .ref a_EVENTS_k11_1_1] nw_EVENTS_k11_1, sw_EVENTS_k11_1⟩)
    (w_EVENTS_k11_1_1 : K.lookup a_EVENTS_k11_1_1 = some ⟨.type "tuple", ow_EVENTS_k11_1_1, .seq #[] nw_EVENTS_k11_1_1, sw_EVENTS_k11_1_1⟩)
    (w_EVENTS_k11_2 : K.lookup a_EVENTS_k11_2 = some ⟨.type "tuple", ow_EVENTS_k11_2, .seq #[.str "rows" tk_EVENTS_k11_2_0, .ref a_EVENTS_k11_2_1] nw_EVENTS_k11_2, sw_EVENTS_k11_2⟩)
    (w_EVENTS_k11_2_1 : K.lookup a_EVENTS_k11_2_1 = some ⟨.type "tuple", ow_EVENTS_k11_2_1, .seq #[.str "uint" tk_EVENTS_k11_2_1_0, .str "octets" tk_EVENTS_k11_2_1_1] nw_EVENTS_k11_2_1, sw_EVENTS_k11_2_1⟩)
    (uCaptures : PySem.W.nsIn K mainGlobals "Captures" = some (some (.ref CCaptures)))
    (pgCaptures : PySem.W.plainGet K CCaptures Str.empty = true) (hdCaptures : PySem.W.hasDictIn K CCaptures = true) (poCaptures : PySem.W.plainOver K CCaptures = true) (saCaptures : PySem.W.findIn K (.ref CCaptures) "__setattr__" = some (some (.builtin "object.__setattr__"))) (mkCaptures : PySem.W.makesIn K CCaptures = true) (kcCaptures : PySem.W.keepIn K (.ref CCaptures) = true)
    (nCaptures__pictures : PySem.W.findIn K (.ref CCaptures) "_pictures" = some none)
    (uFetch : PySem.W.nsIn K mainGlobals "Fetch" = some (some (.ref CFetch)))
    (pgFetch : PySem.W.plainGet K CFetch Str.empty = true) (hdFetch : PySem.W.hasDictIn K CFetch = true) (poFetch : PySem.W.plainOver K CFetch = true) (saFetch : PySem.W.findIn K (.ref CFetch) "__setattr__" = some (some (.builtin "object.__setattr__"))) (mkFetch : PySem.W.makesIn K CFetch = true) (kcFetch : PySem.W.keepIn K (.ref CFetch) = true)
    (nFetch_name : PySem.W.findIn K (.ref CFetch) "name" = some none)
    (nFetch_octets : PySem.W.findIn K (.ref CFetch) "octets" = some none)
    (uWatch : PySem.W.nsIn K mainGlobals "Watch" = some (some (.ref CWatch)))
    (pgWatch : PySem.W.plainGet K CWatch Str.empty = true) (hdWatch : PySem.W.hasDictIn K CWatch = true) (poWatch : PySem.W.plainOver K CWatch = true) (saWatch : PySem.W.findIn K (.ref CWatch) "__setattr__" = some (some (.builtin "object.__setattr__"))) (mkWatch : PySem.W.makesIn K CWatch = true) (kcWatch : PySem.W.keepIn K (.ref CWatch) = true)
    (nWatch_label : PySem.W.findIn K (.ref CWatch) "label" = some none)
    (nWatch_told : PySem.W.findIn K (.ref CWatch) "told" = some none)
    (uFetches : PySem.W.nsIn K mainGlobals "Fetches" = some (some (.ref CFetches)))
    (pgFetches : PySem.W.plainGet K CFetches Str.empty = true) (hdFetches : PySem.W.hasDictIn K CFetches = true) (poFetches : PySem.W.plainOver K CFetches = true) (saFetches : PySem.W.findIn K (.ref CFetches) "__setattr__" = some (some (.builtin "object.__setattr__"))) (mkFetches : PySem.W.makesIn K CFetches = true) (kcFetches : PySem.W.keepIn K (.ref CFetches) = true)
    (nFetches__fetches : PySem.W.findIn K (.ref CFetches) "_fetches" = some none)
    (nFetches__watches : PySem.W.findIn K (.ref CFetches) "_watches" = some none)
    (uOffers : PySem.W.nsIn K mainGlobals "Offers" = some (some (.ref COffers)))
    (pgOffers : PySem.W.plainGet K COffers Str.empty = true) (hdOffers : PySem.W.hasDictIn K COffers = true) (poOffers : PySem.W.plainOver K COffers = true) (saOffers : PySem.W.findIn K (.ref COffers) "__setattr__" = some (some (.builtin "object.__setattr__"))) (mkOffers : PySem.W.makesIn K COffers = true) (kcOffers : PySem.W.keepIn K (.ref COffers) = true)
    (nOffers__transfers : PySem.W.findIn K (.ref COffers) "_transfers" = some none)
    (nOffers__kept : PySem.W.findIn K (.ref COffers) "_kept" = some none)
    (nOffers__is_hovered : PySem.W.findIn K (.ref COffers) "_is_hovered" = some none)
    (uSource : PySem.W.nsIn K mainGlobals "Source" = some (some (.ref CSource)))
    (pgSource : PySem.W.plainGet K CSource Str.empty = true) (hdSource : PySem.W.hasDictIn K CSource = true) (poSource : PySem.W.plainOver K CSource = true) (saSource : PySem.W.findIn K (.ref CSource) "__setattr__" = some (some (.builtin "object.__setattr__"))) (mkSource : PySem.W.makesIn K CSource = true) (kcSource : PySem.W.keepIn K (.ref CSource) = true)
    (nSource_pieces : PySem.W.findIn K (.ref CSource) "pieces" = some none)
    (nSource_is_used : PySem.W.findIn K (.ref CSource) "is_used" = some none)
    (uSources : PySem.W.nsIn K mainGlobals "Sources" = some (some (.ref CSources)))
    (pgSources : PySem.W.plainGet K CSources Str.empty = true) (hdSources : PySem.W.hasDictIn K CSources = true) (poSources : PySem.W.plainOver K CSources = true) (saSources : PySem.W.findIn K (.ref CSources) "__setattr__" = some (some (.builtin "object.__setattr__"))) (mkSources : PySem.W.makesIn K CSources = true) (kcSources : PySem.W.keepIn K (.ref CSources) = true)
    (nSources__sources : PySem.W.findIn K (.ref CSources) "_sources" = some none)
    (uHoldings : PySem.W.nsIn K mainGlobals "Holdings" = some (some (.ref CHoldings)))
    (pgHoldings : PySem.W.plainGet K CHoldings Str.empty = true) (hdHoldings : PySem.W.hasDictIn K CHoldings = true) (poHoldings : PySem.W.plainOver K CHoldings = true) (saHoldings : PySem.W.findIn K (.ref CHoldings) "__setattr__" = some (some (.builtin "object.__setattr__"))) (mkHoldings : PySem.W.makesIn K CHoldings = true) (kcHoldings : PySem.W.keepIn K (.ref CHoldings) = true)
    (nHoldings__sources : PySem.W.findIn K (.ref CHoldings) "_sources" = some none)
    (nHoldings__offers : PySem.W.findIn K (.ref CHoldings) "_offers" = some none)
    (nHoldings__captures : PySem.W.findIn K (.ref CHoldings) "_captures" = some none)
    (nHoldings__fetches : PySem.W.findIn K (.ref CHoldings) "_fetches" = some none)
    (nHoldings__sent_names : PySem.W.findIn K (.ref CHoldings) "_sent_names" = some none)
    (uReply : PySem.W.nsIn K mainGlobals "Reply" = some (some (.ref CReply)))
    (pgReply : PySem.W.plainGet K CReply Str.empty = true) (hdReply : PySem.W.hasDictIn K CReply = true) (poReply : PySem.W.plainOver K CReply = true) (saReply : PySem.W.findIn K (.ref CReply) "__setattr__" = some (some (.builtin "object.__setattr__"))) (mkReply : PySem.W.makesIn K CReply = true) (kcReply : PySem.W.keepIn K (.ref CReply) = true)
    (nReply_told : PySem.W.findIn K (.ref CReply) "told" = some none)
    (nReply_ended : PySem.W.findIn K (.ref CReply) "ended" = some none)
    (nReply_wishes : PySem.W.findIn K (.ref CReply) "wishes" = some none)
    (nReply_applied : PySem.W.findIn K (.ref CReply) "applied" = some none)
    (uRequest : PySem.W.nsIn K mainGlobals "Request" = some (some (.ref CRequest)))
    (pgRequest : PySem.W.plainGet K CRequest Str.empty = true) (hdRequest : PySem.W.hasDictIn K CRequest = true) (poRequest : PySem.W.plainOver K CRequest = true) (saRequest : PySem.W.findIn K (.ref CRequest) "__setattr__" = some (some (.builtin "object.__setattr__"))) (mkRequest : PySem.W.makesIn K CRequest = true) (kcRequest : PySem.W.keepIn K (.ref CRequest) = true)
    (nRequest_number : PySem.W.findIn K (.ref CRequest) "number" = some none)
    (nRequest_interface : PySem.W.findIn K (.ref CRequest) "interface" = some none)
    (nRequest_name : PySem.W.findIn K (.ref CRequest) "name" = some none)
    (nRequest_arguments : PySem.W.findIn K (.ref CRequest) "arguments" = some none)
    (nRequest_ends : PySem.W.findIn K (.ref CRequest) "ends" = some none)
    (uBadMessage : PySem.W.nsIn K mainGlobals "BadMessage" = some (some (.ref CBadMessage))) (xBadMessage : PySem.W.excIn K CBadMessage [.type "ValueError", .type "Exception", .type "BaseException", .type "object"] "ValueError.__new__" = true) (keBadMessage : PySem.W.keepIn K (.ref CBadMessage) = true) (bxBadMessage : PySem.W.subIn K (.ref CBadMessage) (.type "BaseException") = some true) (txBadMessage : PySem.W.typeIn K (.ref CBadMessage) = some (.type "type")) (ixBadMessage : PySem.W.isClsIn K CBadMessage = true) (sxBadMessage : PySem.W.subIn K (.ref CBadMessage) (.ref CBadMessage) = some true)
    (uMessageTooLong : PySem.W.nsIn K mainGlobals "MessageTooLong" = some (some (.ref CMessageTooLong))) (xMessageTooLong : PySem.W.excIn K CMessageTooLong [.type "ValueError", .type "Exception", .type "BaseException", .type "object"] "ValueError.__new__" = true) (keMessageTooLong : PySem.W.keepIn K (.ref CMessageTooLong) = true) (bxMessageTooLong : PySem.W.subIn K (.ref CMessageTooLong) (.type "BaseException") = some true) (txMessageTooLong : PySem.W.typeIn K (.ref CMessageTooLong) = some (.type "type")) (ixMessageTooLong : PySem.W.isClsIn K CMessageTooLong = true) (sxMessageTooLong : PySem.W.subIn K (.ref CMessageTooLong) (.ref CMessageTooLong) = some true)
    (uFault : PySem.W.nsIn K mainGlobals "Fault" = some (some (.ref CFault))) (loFault : K.lookup CFault = some (excClassObj nmFault qnFault CFault NFault bsFault bmFault true snFault sbFault abFault coFault ddFault k0Fault k1Fault k2Fault k3Fault k5Fault "ValueError.__new__")) (rmFault : PySem.HandSPX.refsVE bmFault = true) (keFault : PySem.W.keepIn K (.ref CFault) = true) (bxFault : PySem.W.subIn K (.ref CFault) (.type "BaseException") = some true) (txFault : PySem.W.typeIn K (.ref CFault) = some (.type "type")) (ixFault : PySem.W.isClsIn K CFault = true) (sxFault : PySem.W.subIn K (.ref CFault) (.ref CFault) = some true)
    (saFault : PySem.W.findIn K (.ref CFault) "__setattr__" = some (some (.builtin "object.__setattr__"))) (mrFault : PySem.W.mroIn K CFault (.ref CFault) = some true) (ksFault : PySem.W.ks_superIn K CFault CFault "__init__" = some (some (.builtin "ValueError.__init__"))) (veFault : PySem.W.subIn K (.ref CFault) (.type "ValueError") = some true) (tpFault : PySem.W.nsIn K PySem.cStatics "thirdparty.any" = some none)
    (gaFault : PySem.W.findIn K (.ref CFault) "__getattribute__" = some (some (.builtin "BaseException.__getattribute__"))) (gtFault : PySem.W.findIn K (.ref CFault) "__getattr__" = some none) (hxFault : PySem.W.hasDictIn K CFault = true) (fcFault : PySem.W.findIn K (.ref CFault) "__class__" = some (some (.builtin "object.__class__"))) (moFault : PySem.W.mroIn K CFault (.type "object") = some true) (sgFault : PySem.W.specialIn K (.builtin "object.__class__") "__get__" = some (some (.builtin "getset_descriptor.__get__"))) (tkFault : PySem.W.takesIn K (.builtin "object.__class__") = some true)
    (nFault_number : PySem.W.findIn K (.ref CFault) "number" = some none)
    (nFault_code : PySem.W.findIn K (.ref CFault) "code" = some none)
    (nFault_words : PySem.W.findIn K (.ref CFault) "words" = some none)
    : ∃ A : Adr, A.flaw = fa ∧ Txt0 P K mg A ∧ Dic w K A ∧ (∀ (s : Shared) (v : Value), BindsTo s A.dlaw ⟨[v], []⟩ [("script", v)]) := by
  have e := hfa.symm.trans (PySem.W.mg_of X G a22)
  cases e
  have F1 := fun_mk (st := s__check_new) l1 c1 k1
  have b1 := F1.binds (ps := ["request", "present", "most"]) fun _ _ _ _ _ _ us hl => match us, hl with | [_, _, _], _ => rfl
  have F2 := fun_mk (st := s_is_integer) l2 c2 k2
  have b2 := F2.binds (ps := ["value", "least", "greatest"]) fun _ _ _ _ _ _ us hl => match us, hl with | [_, _, _], _ => rfl
  have F3 := fun_mk (st := s_is_text) l3 c3 k3
  have b3 := F3.binds (ps := ["value"]) fun _ _ _ _ _ _ us hl => match us, hl with | [_], _ => rfl
  have F4 := fun_mk (st := s_number_octets) l4 c4 k4
  have b4 := F4.binds (ps := ["number", "count"]) fun _ _ _ _ _ _ us hl => match us, hl with | [_, _], _ => rfl
  have F5 := fun_mk (st := s_field_octets) l5 c5 k5
  have b5 := F5.binds (ps := ["kind", "value"]) fun _ _ _ _ _ _ us hl => match us, hl with | [_, _], _ => rfl
  have F6 := fun_mk (st := s__is_code) l6 c6 k6
  have b6 := F6.binds (ps := ["code"]) fun _ _ _ _ _ _ us hl => match us, hl with | [_], _ => rfl
  have F7 := fun_mk (st := s__is_of) l7 c7 k7
  have b7 := F7.binds (ps := ["kind", "value"]) fun _ _ _ _ _ _ us hl => match us, hl with | [_, _], _ => rfl
  have F8 := fun_mk (st := s__are_octets) l8 c8 k8
  have b8 := F8.binds (ps := ["value"]) fun _ _ _ _ _ _ us hl => match us, hl with | [_], _ => rfl
  have F9 := fun_mk (st := s__is_bound) l9 c9 k9
  have b9 := F9.binds (ps := ["value"]) fun _ _ _ _ _ _ us hl => match us, hl with | [_], _ => rfl
  have F10 := fun_mk (st := s__text_octets) l10 c10 k10
  have b10 := F10.binds (ps := ["text"]) fun _ _ _ _ _ _ us hl => match us, hl with | [_], _ => rfl
  have F11 := fun_mk (st := s__padded) l11 c11 k11
  have b11 := F11.binds (ps := ["octets"]) fun _ _ _ _ _ _ us hl => match us, hl with | [_], _ => rfl
  have F12 := fun_mk (st := s_encode_message) l12 c12 k12
  have b12 := F12.binds (ps := ["number", "opcode", "arguments"]) fun _ _ _ _ _ _ us hl => match us, hl with | [_, _, _], _ => rfl
  have F13 := fun_mk (st := s_event_octets) l13 c13 k13
  have b13 := F13.binds (ps := ["number", "interface", "name", "values"]) fun _ _ _ _ _ _ us hl => match us, hl with | [_, _, _, _], _ => rfl
  have F14 := fun_mk (st := s__opcode_of) l14 c14 k14
  have b14 := F14.binds (ps := ["rows", "name"]) fun _ _ _ _ _ _ us hl => match us, hl with | [_, _], _ => rfl
  have F15 := fun_mk (st := s__law_cell) l15 c15 k15
  have b15 := F15.binds (ps := ["script", "k"]) fun _ _ _ _ _ _ us hl => match us, hl with | [_, _], _ => rfl
  have F16 := fun_mk (st := s__law_row) l16 c16 k16
  have b16 := F16.binds (ps := ["script", "k"]) fun _ _ _ _ _ _ us hl => match us, hl with | [_, _], _ => rfl
  have F17 := fun_mk (st := s__law_serve) l17 c17 k17
  have b17 := F17.binds (ps := ["holdings", "row", "grant", "gripped", "dragging"]) fun _ _ _ _ _ _ us hl => match us, hl with | [_, _, _, _, _], _ => rfl
  have F18 := fun_mk (st := s__law_size) l18 c18 k18
  have b18 := F18.binds (ps := ["row"]) fun _ _ _ _ _ _ us hl => match us, hl with | [_], _ => rfl
  have F19 := fun_mk (st := s__law_ask) l19 c19 k19
  have b19 := F19.binds (ps := ["holdings", "captures", "k", "row"]) fun _ _ _ _ _ _ us hl => match us, hl with | [_, _, _, _], _ => rfl
  have F20 := fun_mk (st := s__law_answer) l20 c20 k20
  have b20 := F20.binds (ps := ["holdings", "one", "row"]) fun _ _ _ _ _ _ us hl => match us, hl with | [_, _, _], _ => rfl
  have F21 := fun_mk (st := s__law_read) l21 c21 k21
  have b21 := F21.binds (ps := ["holdings", "one", "row"]) fun _ _ _ _ _ _ us hl => match us, hl with | [_, _, _], _ => rfl
  have F22 := fun_mk (st := s_law) l22 c22 k22
  have b22 := F22.binds (ps := ["script"]) fun _ _ _ _ _ _ us hl => match us, hl with | [_], _ => rfl
  have F23 : FunSup K "__init__" "Fault.__init__" s_Fault___init__ fFault___init__ (PySem.W.fnX "__init__" "Fault.__init__" (defArgs s_Fault___init__) (defBody s_Fault___init__) (defScope s_Fault___init__) [("__class__", cc23)] .none kV23 dc23 pm23 an23 (.ref cda23) ct23) CFault := ⟨⟨_, _, _, _, _, _, _, _, _, _, _, _, _, _, _, _, _, _, _, rfl, l23, c23, ld23, rv23, lc23, lD23⟩⟩
  have b23 : Binds K (PySem.W.fnX "__init__" "Fault.__init__" (defArgs s_Fault___init__) (defBody s_Fault___init__) (defScope s_Fault___init__) [("__class__", cc23)] .none kV23 dc23 pm23 an23 (.ref cda23) ct23) ["self", "number", "code", "words"] [] := .all fun us hl => match us, hl with | [_, _, _, _], _ => rfl
  have F24 := fun_mk (st := s_Captures___init__) l24 c24 k24
  have b24 := F24.binds (ps := ["self"]) fun _ _ _ _ _ _ us hl => match us, hl with | [_], _ => rfl
  have F25 := fun_mk (st := s_Captures_make) l25 c25 k25
  have b25 := F25.binds (ps := ["self", "request"]) fun _ _ _ _ _ _ us hl => match us, hl with | [_, _], _ => rfl
  have F26 := fun_mk (st := s_Captures_answered) l26 c26 k26
  have b26 := F26.binds (ps := ["self", "number", "picture", "reply"]) fun _ _ _ _ _ _ us hl => match us, hl with | [_, _, _, _], _ => rfl
  have F27 := fun_mk (st := s_Captures_read) l27 c27 k27
  have b27 := F27.binds (ps := ["self", "request", "reply"]) fun _ _ _ _ _ _ us hl => match us, hl with | [_, _, _], _ => rfl
  have F28 := fun_mk (st := s_Captures_forget) l28 c28 k28
  have b28 := F28.binds (ps := ["self", "number"]) fun _ _ _ _ _ _ us hl => match us, hl with | [_, _], _ => rfl
  have F29 := fun_mk (st := s_Fetch___init__) l29 c29 k29
  have b29 := F29.binds (ps := ["self", "name"]) fun _ _ _ _ _ _ us hl => match us, hl with | [_, _], _ => rfl
  have F30 := fun_mk (st := s_Watch___init__) l30 c30 k30
  have b30 := F30.binds (ps := ["self", "label"]) fun _ _ _ _ _ _ us hl => match us, hl with | [_, _], _ => rfl
  have F31 := fun_mk (st := s_Fetches___init__) l31 c31 k31
  have b31 := F31.binds (ps := ["self"]) fun _ _ _ _ _ _ us hl => match us, hl with | [_], _ => rfl
  have F32 := fun_mk (st := s_Fetches_make_fetch) l32 c32 k32
  have b32 := F32.binds (ps := ["self", "request"]) fun _ _ _ _ _ _ us hl => match us, hl with | [_, _], _ => rfl
  have F33 := fun_mk (st := s_Fetches_make_watch) l33 c33 k33
  have b33 := F33.binds (ps := ["self", "request"]) fun _ _ _ _ _ _ us hl => match us, hl with | [_, _], _ => rfl
  have F34 := fun_mk (st := s_Fetches_read) l34 c34 k34
  have b34 := F34.binds (ps := ["self", "request", "reply"]) fun _ _ _ _ _ _ us hl => match us, hl with | [_, _, _], _ => rfl
  have F35 := fun_mk (st := s_Fetches_forget) l35 c35 k35
  have b35 := F35.binds (ps := ["self", "number"]) fun _ _ _ _ _ _ us hl => match us, hl with | [_, _], _ => rfl
  have F36 := fun_mk (st := s_Offers___init__) l36 c36 k36
  have b36 := F36.binds (ps := ["self"]) fun _ _ _ _ _ _ us hl => match us, hl with | [_], _ => rfl
  have F37 := fun_mk (st := s_Offers_forget) l37 c37 k37
  have b37 := F37.binds (ps := ["self", "number"]) fun _ _ _ _ _ _ us hl => match us, hl with | [_, _], _ => rfl
  have F38 := fun_mk (st := s_Offers_read) l38 c38 k38
  have b38 := F38.binds (ps := ["self", "request", "reply"]) fun _ _ _ _ _ _ us hl => match us, hl with | [_, _, _], _ => rfl
  have F39 := fun_mk (st := s_Source___init__) l39 c39 k39
  have b39 := F39.binds (ps := ["self"]) fun _ _ _ _ _ _ us hl => match us, hl with | [_], _ => rfl
  have F40 := fun_mk (st := s_Sources___init__) l40 c40 k40
  have b40 := F40.binds (ps := ["self"]) fun _ _ _ _ _ _ us hl => match us, hl with | [_], _ => rfl
  have F41 := fun_mk (st := s_Sources_make) l41 c41 k41
  have b41 := F41.binds (ps := ["self", "request"]) fun _ _ _ _ _ _ us hl => match us, hl with | [_, _], _ => rfl
  have F42 := fun_mk (st := s_Sources_write) l42 c42 k42
  have b42 := F42.binds (ps := ["self", "request"]) fun _ _ _ _ _ _ us hl => match us, hl with | [_, _], _ => rfl
  have F43 := fun_mk (st := s_Sources_is_used) l43 c43 k43
  have b43 := F43.binds (ps := ["self", "number"]) fun _ _ _ _ _ _ us hl => match us, hl with | [_, _], _ => rfl
  have F44 := fun_mk (st := s_Sources_use_up) l44 c44 k44
  have b44 := F44.binds (ps := ["self", "number"]) fun _ _ _ _ _ _ us hl => match us, hl with | [_, _], _ => rfl
  have F45 := fun_mk (st := s_Sources_forget) l45 c45 k45
  have b45 := F45.binds (ps := ["self", "number"]) fun _ _ _ _ _ _ us hl => match us, hl with | [_, _], _ => rfl
  have F46 := fun_mk (st := s_Sources__fresh) l46 c46 k46
  have b46 := F46.binds (ps := ["self"]) fun _ _ _ _ _ _ us hl => match us, hl with | [_], _ => rfl
  have F47 := fun_mk (st := s_Holdings___init__) l47 c47 k47
  have b47 := F47.binds (ps := ["self"]) fun _ _ _ _ _ _ us hl => match us, hl with | [_], _ => rfl
  have F48 := fun_mk (st := s_Holdings_serve) l48 c48 k48
  have b48 := F48.binds (ps := ["self", "request", "grant", "gripped", "dragging", "reply"]) fun _ _ _ _ _ _ us hl => match us, hl with | [_, _, _, _, _, _], _ => rfl
  have F49 := fun_mk (st := s_Holdings_ended) l49 c49 k49
  have b49 := F49.binds (ps := ["self", "number"]) fun _ _ _ _ _ _ us hl => match us, hl with | [_, _], _ => rfl
  have F50 := fun_mk (st := s_Holdings_answered) l50 c50 k50
  have b50 := F50.binds (ps := ["self", "number", "picture", "reply"]) fun _ _ _ _ _ _ us hl => match us, hl with | [_, _, _, _], _ => rfl
  have F51 := fun_mk (st := s_Holdings__serve_transfer) l51 c51 k51
  have b51 := F51.binds (ps := ["self", "request", "grant", "may_drag", "reply"]) fun _ _ _ _ _ _ us hl => match us, hl with | [_, _, _, _, _], _ => rfl
  have F52 := fun_mk (st := s_Holdings__give) l52 c52 k52
  have b52 := F52.binds (ps := ["self", "request", "grant", "reply"]) fun _ _ _ _ _ _ us hl => match us, hl with | [_, _, _, _], _ => rfl
  have F53 := fun_mk (st := s_Holdings__send) l53 c53 k53
  have b53 := F53.binds (ps := ["self", "request", "reply"]) fun _ _ _ _ _ _ us hl => match us, hl with | [_, _, _], _ => rfl
  have F54 := fun_mk (st := s_Holdings__unsend) l54 c54 k54
  have b54 := F54.binds (ps := ["self", "request", "reply"]) fun _ _ _ _ _ _ us hl => match us, hl with | [_, _, _], _ => rfl
  have F55 := fun_mk (st := s_Reply___init__) l55 c55 k55
  have b55 := F55.binds (ps := ["self"]) fun _ _ _ _ _ _ us hl => match us, hl with | [_], _ => rfl
  have F56 := fun_mk (st := s_Reply_tell) l56 c56 k56
  have b56 := F56.binds (ps := ["self", "number", "interface", "name", "values"]) fun _ _ _ _ _ _ us hl => match us, hl with | [_, _, _, _, _], _ => rfl
  have F57 := fun_mk (st := s_Reply_wish) l57 c57 k57
  have b57 := F57.binds (ps := ["self", "deed"]) fun _ _ _ _ _ _ us hl => match us, hl with | [_, _], _ => rfl
  have F58 := fun_mk (st := s_Request___init__) l58 c58 k58
  have b58 := F58.binds (ps := ["self", "number", "interface", "name", "arguments", "ends"]) fun _ _ _ _ _ _ us hl => match us, hl with | [_, _, _, _, _, _], _ => rfl
  have oFault : OexC K CFault := ⟨⟨_, _, _, _, _, _, _, _, _, _, _, _, _, _, _, loFault, rmFault⟩, saFault, bxFault, txFault, keFault⟩
  refine ⟨{ f_check_new := f_check_new, d_check_new := (PySem.W.fnOf "_check_new" "_check_new" (defArgs s__check_new) (defBody s__check_new) (defScope s__check_new) .none kV1 dc1 pm1 an1 cd1 ct1), fis_integer := fis_integer, dis_integer := (PySem.W.fnOf "is_integer" "is_integer" (defArgs s_is_integer) (defBody s_is_integer) (defScope s_is_integer) .none kV2 dc2 pm2 an2 cd2 ct2), fis_text := fis_text, dis_text := (PySem.W.fnOf "is_text" "is_text" (defArgs s_is_text) (defBody s_is_text) (defScope s_is_text) .none kV3 dc3 pm3 an3 cd3 ct3), fnumber_octets := fnumber_octets, dnumber_octets := (PySem.W.fnOf "number_octets" "number_octets" (defArgs s_number_octets) (defBody s_number_octets) (defScope s_number_octets) .none kV4 dc4 pm4 an4 cd4 ct4), ffield_octets := ffield_octets, dfield_octets := (PySem.W.fnOf "field_octets" "field_octets" (defArgs s_field_octets) (defBody s_field_octets) (defScope s_field_octets) .none kV5 dc5 pm5 an5 cd5 ct5), f_is_code := f_is_code, d_is_code := (PySem.W.fnOf "_is_code" "_is_code" (defArgs s__is_code) (defBody s__is_code) (defScope s__is_code) .none kV6 dc6 pm6 an6 cd6 ct6), f_is_of := f_is_of, d_is_of := (PySem.W.fnOf "_is_of" "_is_of" (defArgs s__is_of) (defBody s__is_of) (defScope s__is_of) .none kV7 dc7 pm7 an7 cd7 ct7), f_are_octets := f_are_octets, d_are_octets := (PySem.W.fnOf "_are_octets" "_are_octets" (defArgs s__are_octets) (defBody s__are_octets) (defScope s__are_octets) .none kV8 dc8 pm8 an8 cd8 ct8), f_is_bound := f_is_bound, d_is_bound := (PySem.W.fnOf "_is_bound" "_is_bound" (defArgs s__is_bound) (defBody s__is_bound) (defScope s__is_bound) .none kV9 dc9 pm9 an9 cd9 ct9), f_text_octets := f_text_octets, d_text_octets := (PySem.W.fnOf "_text_octets" "_text_octets" (defArgs s__text_octets) (defBody s__text_octets) (defScope s__text_octets) .none kV10 dc10 pm10 an10 cd10 ct10), f_padded := f_padded, d_padded := (PySem.W.fnOf "_padded" "_padded" (defArgs s__padded) (defBody s__padded) (defScope s__padded) .none kV11 dc11 pm11 an11 cd11 ct11), fencode_message := fencode_message, dencode_message := (PySem.W.fnOf "encode_message" "encode_message" (defArgs s_encode_message) (defBody s_encode_message) (defScope s_encode_message) .none kV12 dc12 pm12 an12 cd12 ct12), fevent_octets := fevent_octets, devent_octets := (PySem.W.fnOf "event_octets" "event_octets" (defArgs s_event_octets) (defBody s_event_octets) (defScope s_event_octets) .none kV13 dc13 pm13 an13 cd13 ct13), f_opcode_of := f_opcode_of, d_opcode_of := (PySem.W.fnOf "_opcode_of" "_opcode_of" (defArgs s__opcode_of) (defBody s__opcode_of) (defScope s__opcode_of) .none kV14 dc14 pm14 an14 cd14 ct14), f_law_cell := f_law_cell, d_law_cell := (PySem.W.fnOf "_law_cell" "_law_cell" (defArgs s__law_cell) (defBody s__law_cell) (defScope s__law_cell) .none kV15 dc15 pm15 an15 cd15 ct15), f_law_row := f_law_row, d_law_row := (PySem.W.fnOf "_law_row" "_law_row" (defArgs s__law_row) (defBody s__law_row) (defScope s__law_row) .none kV16 dc16 pm16 an16 cd16 ct16), f_law_serve := f_law_serve, d_law_serve := (PySem.W.fnOf "_law_serve" "_law_serve" (defArgs s__law_serve) (defBody s__law_serve) (defScope s__law_serve) .none kV17 dc17 pm17 an17 cd17 ct17), f_law_size := f_law_size, d_law_size := (PySem.W.fnOf "_law_size" "_law_size" (defArgs s__law_size) (defBody s__law_size) (defScope s__law_size) .none kV18 dc18 pm18 an18 cd18 ct18), f_law_ask := f_law_ask, d_law_ask := (PySem.W.fnOf "_law_ask" "_law_ask" (defArgs s__law_ask) (defBody s__law_ask) (defScope s__law_ask) .none kV19 dc19 pm19 an19 cd19 ct19), f_law_answer := f_law_answer, d_law_answer := (PySem.W.fnOf "_law_answer" "_law_answer" (defArgs s__law_answer) (defBody s__law_answer) (defScope s__law_answer) .none kV20 dc20 pm20 an20 cd20 ct20), f_law_read := f_law_read, d_law_read := (PySem.W.fnOf "_law_read" "_law_read" (defArgs s__law_read) (defBody s__law_read) (defScope s__law_read) .none kV21 dc21 pm21 an21 cd21 ct21), flaw := fa, dlaw := (PySem.W.fnOf "law" "law" (defArgs s_law) (defBody s_law) (defScope s_law) .none kV22 dc22 pm22 an22 cd22 ct22), fFault___init__ := fFault___init__, dFault___init__ := (PySem.W.fnX "__init__" "Fault.__init__" (defArgs s_Fault___init__) (defBody s_Fault___init__) (defScope s_Fault___init__) [("__class__", cc23)] .none kV23 dc23 pm23 an23 (.ref cda23) ct23), fCaptures___init__ := fCaptures___init__, dCaptures___init__ := (PySem.W.fnOf "__init__" "Captures.__init__" (defArgs s_Captures___init__) (defBody s_Captures___init__) (defScope s_Captures___init__) .none kV24 dc24 pm24 an24 cd24 ct24), fCaptures_make := fCaptures_make, dCaptures_make := (PySem.W.fnOf "make" "Captures.make" (defArgs s_Captures_make) (defBody s_Captures_make) (defScope s_Captures_make) .none kV25 dc25 pm25 an25 cd25 ct25), fCaptures_answered := fCaptures_answered, dCaptures_answered := (PySem.W.fnOf "answered" "Captures.answered" (defArgs s_Captures_answered) (defBody s_Captures_answered) (defScope s_Captures_answered) .none kV26 dc26 pm26 an26 cd26 ct26), fCaptures_read := fCaptures_read, dCaptures_read := (PySem.W.fnOf "read" "Captures.read" (defArgs s_Captures_read) (defBody s_Captures_read) (defScope s_Captures_read) .none kV27 dc27 pm27 an27 cd27 ct27), fCaptures_forget := fCaptures_forget, dCaptures_forget := (PySem.W.fnOf "forget" "Captures.forget" (defArgs s_Captures_forget) (defBody s_Captures_forget) (defScope s_Captures_forget) .none kV28 dc28 pm28 an28 cd28 ct28), fFetch___init__ := fFetch___init__, dFetch___init__ := (PySem.W.fnOf "__init__" "Fetch.__init__" (defArgs s_Fetch___init__) (defBody s_Fetch___init__) (defScope s_Fetch___init__) .none kV29 dc29 pm29 an29 cd29 ct29), fWatch___init__ := fWatch___init__, dWatch___init__ := (PySem.W.fnOf "__init__" "Watch.__init__" (defArgs s_Watch___init__) (defBody s_Watch___init__) (defScope s_Watch___init__) .none kV30 dc30 pm30 an30 cd30 ct30), fFetches___init__ := fFetches___init__, dFetches___init__ := (PySem.W.fnOf "__init__" "Fetches.__init__" (defArgs s_Fetches___init__) (defBody s_Fetches___init__) (defScope s_Fetches___init__) .none kV31 dc31 pm31 an31 cd31 ct31), fFetches_make_fetch := fFetches_make_fetch, dFetches_make_fetch := (PySem.W.fnOf "make_fetch" "Fetches.make_fetch" (defArgs s_Fetches_make_fetch) (defBody s_Fetches_make_fetch) (defScope s_Fetches_make_fetch) .none kV32 dc32 pm32 an32 cd32 ct32), fFetches_make_watch := fFetches_make_watch, dFetches_make_watch := (PySem.W.fnOf "make_watch" "Fetches.make_watch" (defArgs s_Fetches_make_watch) (defBody s_Fetches_make_watch) (defScope s_Fetches_make_watch) .none kV33 dc33 pm33 an33 cd33 ct33), fFetches_read := fFetches_read, dFetches_read := (PySem.W.fnOf "read" "Fetches.read" (defArgs s_Fetches_read) (defBody s_Fetches_read) (defScope s_Fetches_read) .none kV34 dc34 pm34 an34 cd34 ct34), fFetches_forget := fFetches_forget, dFetches_forget := (PySem.W.fnOf "forget" "Fetches.forget" (defArgs s_Fetches_forget) (defBody s_Fetches_forget) (defScope s_Fetches_forget) .none kV35 dc35 pm35 an35 cd35 ct35), fOffers___init__ := fOffers___init__, dOffers___init__ := (PySem.W.fnOf "__init__" "Offers.__init__" (defArgs s_Offers___init__) (defBody s_Offers___init__) (defScope s_Offers___init__) .none kV36 dc36 pm36 an36 cd36 ct36), fOffers_forget := fOffers_forget, dOffers_forget := (PySem.W.fnOf "forget" "Offers.forget" (defArgs s_Offers_forget) (defBody s_Offers_forget) (defScope s_Offers_forget) .none kV37 dc37 pm37 an37 cd37 ct37), fOffers_read := fOffers_read, dOffers_read := (PySem.W.fnOf "read" "Offers.read" (defArgs s_Offers_read) (defBody s_Offers_read) (defScope s_Offers_read) .none kV38 dc38 pm38 an38 cd38 ct38), fSource___init__ := fSource___init__, dSource___init__ := (PySem.W.fnOf "__init__" "Source.__init__" (defArgs s_Source___init__) (defBody s_Source___init__) (defScope s_Source___init__) .none kV39 dc39 pm39 an39 cd39 ct39), fSources___init__ := fSources___init__, dSources___init__ := (PySem.W.fnOf "__init__" "Sources.__init__" (defArgs s_Sources___init__) (defBody s_Sources___init__) (defScope s_Sources___init__) .none kV40 dc40 pm40 an40 cd40 ct40), fSources_make := fSources_make, dSources_make := (PySem.W.fnOf "make" "Sources.make" (defArgs s_Sources_make) (defBody s_Sources_make) (defScope s_Sources_make) .none kV41 dc41 pm41 an41 cd41 ct41), fSources_write := fSources_write, dSources_write := (PySem.W.fnOf "write" "Sources.write" (defArgs s_Sources_write) (defBody s_Sources_write) (defScope s_Sources_write) .none kV42 dc42 pm42 an42 cd42 ct42), fSources_is_used := fSources_is_used, dSources_is_used := (PySem.W.fnOf "is_used" "Sources.is_used" (defArgs s_Sources_is_used) (defBody s_Sources_is_used) (defScope s_Sources_is_used) .none kV43 dc43 pm43 an43 cd43 ct43), fSources_use_up := fSources_use_up, dSources_use_up := (PySem.W.fnOf "use_up" "Sources.use_up" (defArgs s_Sources_use_up) (defBody s_Sources_use_up) (defScope s_Sources_use_up) .none kV44 dc44 pm44 an44 cd44 ct44), fSources_forget := fSources_forget, dSources_forget := (PySem.W.fnOf "forget" "Sources.forget" (defArgs s_Sources_forget) (defBody s_Sources_forget) (defScope s_Sources_forget) .none kV45 dc45 pm45 an45 cd45 ct45), fSources__fresh := fSources__fresh, dSources__fresh := (PySem.W.fnOf "_fresh" "Sources._fresh" (defArgs s_Sources__fresh) (defBody s_Sources__fresh) (defScope s_Sources__fresh) .none kV46 dc46 pm46 an46 cd46 ct46), fHoldings___init__ := fHoldings___init__, dHoldings___init__ := (PySem.W.fnOf "__init__" "Holdings.__init__" (defArgs s_Holdings___init__) (defBody s_Holdings___init__) (defScope s_Holdings___init__) .none kV47 dc47 pm47 an47 cd47 ct47), fHoldings_serve := fHoldings_serve, dHoldings_serve := (PySem.W.fnOf "serve" "Holdings.serve" (defArgs s_Holdings_serve) (defBody s_Holdings_serve) (defScope s_Holdings_serve) .none kV48 dc48 pm48 an48 cd48 ct48), fHoldings_ended := fHoldings_ended, dHoldings_ended := (PySem.W.fnOf "ended" "Holdings.ended" (defArgs s_Holdings_ended) (defBody s_Holdings_ended) (defScope s_Holdings_ended) .none kV49 dc49 pm49 an49 cd49 ct49), fHoldings_answered := fHoldings_answered, dHoldings_answered := (PySem.W.fnOf "answered" "Holdings.answered" (defArgs s_Holdings_answered) (defBody s_Holdings_answered) (defScope s_Holdings_answered) .none kV50 dc50 pm50 an50 cd50 ct50), fHoldings__serve_transfer := fHoldings__serve_transfer, dHoldings__serve_transfer := (PySem.W.fnOf "_serve_transfer" "Holdings._serve_transfer" (defArgs s_Holdings__serve_transfer) (defBody s_Holdings__serve_transfer) (defScope s_Holdings__serve_transfer) .none kV51 dc51 pm51 an51 cd51 ct51), fHoldings__give := fHoldings__give, dHoldings__give := (PySem.W.fnOf "_give" "Holdings._give" (defArgs s_Holdings__give) (defBody s_Holdings__give) (defScope s_Holdings__give) .none kV52 dc52 pm52 an52 cd52 ct52), fHoldings__send := fHoldings__send, dHoldings__send := (PySem.W.fnOf "_send" "Holdings._send" (defArgs s_Holdings__send) (defBody s_Holdings__send) (defScope s_Holdings__send) .none kV53 dc53 pm53 an53 cd53 ct53), fHoldings__unsend := fHoldings__unsend, dHoldings__unsend := (PySem.W.fnOf "_unsend" "Holdings._unsend" (defArgs s_Holdings__unsend) (defBody s_Holdings__unsend) (defScope s_Holdings__unsend) .none kV54 dc54 pm54 an54 cd54 ct54), fReply___init__ := fReply___init__, dReply___init__ := (PySem.W.fnOf "__init__" "Reply.__init__" (defArgs s_Reply___init__) (defBody s_Reply___init__) (defScope s_Reply___init__) .none kV55 dc55 pm55 an55 cd55 ct55), fReply_tell := fReply_tell, dReply_tell := (PySem.W.fnOf "tell" "Reply.tell" (defArgs s_Reply_tell) (defBody s_Reply_tell) (defScope s_Reply_tell) .none kV56 dc56 pm56 an56 cd56 ct56), fReply_wish := fReply_wish, dReply_wish := (PySem.W.fnOf "wish" "Reply.wish" (defArgs s_Reply_wish) (defBody s_Reply_wish) (defScope s_Reply_wish) .none kV57 dc57 pm57 an57 cd57 ct57), fRequest___init__ := fRequest___init__, dRequest___init__ := (PySem.W.fnOf "__init__" "Request.__init__" (defArgs s_Request___init__) (defBody s_Request___init__) (defScope s_Request___init__) .none kV58 dc58 pm58 an58 cd58 ct58), tLONGEST_SIDE := tLONGEST_SIDE, tMOST_PIXELS := tMOST_PIXELS, tMOST_CAPTURES := tMOST_CAPTURES, tMOST_READ_captures := tMOST_READ_captures, tLONGEST_TEXT_fetches := tLONGEST_TEXT_fetches, tMOST_FETCHES := tMOST_FETCHES, tMOST_WATCHES := tMOST_WATCHES, tMOST_READ_fetches := tMOST_READ_fetches, tMOST_READ_offers := tMOST_READ_offers, tMOST_SOURCES := tMOST_SOURCES, tMOST_KINDS := tMOST_KINDS, tMOST_OCTETS_sources := tMOST_OCTETS_sources, tLONGEST_TEXT_sources := tLONGEST_TEXT_sources, tMOST_SENT_OCTETS := tMOST_SENT_OCTETS, tMOST_SENT_NAMES := tMOST_SENT_NAMES, tGREATEST_NUMBER := tGREATEST_NUMBER, tLEAST_INT := tLEAST_INT, tGREATEST_INT := tGREATEST_INT, tLONGEST_TEXT_fields := tLONGEST_TEXT_fields, tMOST_OCTETS_fields := tMOST_OCTETS_fields, t_FIRST_CODE := t_FIRST_CODE, t_LAST_CODE := t_LAST_CODE, t_PERCENT_CODE := t_PERCENT_CODE, tHEADER_SIZE := tHEADER_SIZE, tGREATEST_SIZE := tGREATEST_SIZE, tGREATEST_OPCODE := tGREATEST_OPCODE, tMOST_ARGUMENTS := tMOST_ARGUMENTS, a_EVENTS := a_EVENTS, a_EVENTS_k11 := a_EVENTS_k11, a_EVENTS_k11_0 := a_EVENTS_k11_0, a_EVENTS_k11_0_1 := a_EVENTS_k11_0_1, a_EVENTS_k11_1 := a_EVENTS_k11_1, a_EVENTS_k11_1_1 := a_EVENTS_k11_1_1, a_EVENTS_k11_2 := a_EVENTS_k11_2, a_EVENTS_k11_2_1 := a_EVENTS_k11_2_1, CCaptures := CCaptures, CFetch := CFetch, CWatch := CWatch, CFetches := CFetches, COffers := COffers, CSource := CSource, CSources := CSources, CHoldings := CHoldings, CReply := CReply, CRequest := CRequest, CBadMessage := CBadMessage, CMessageTooLong := CMessageTooLong, CFault := CFault }, rfl, { F_check_new := F1, b_check_new := b1, g_check_new := PySem.W.mg_of X G a1, k_check_new := k1, Fis_integer := F2, bis_integer := b2, gis_integer := PySem.W.mg_of X G a2, kis_integer := k2, Fis_text := F3, bis_text := b3, gis_text := PySem.W.mg_of X G a3, kis_text := k3, Fnumber_octets := F4, bnumber_octets := b4, gnumber_octets := PySem.W.mg_of X G a4, knumber_octets := k4, Ffield_octets := F5, bfield_octets := b5, gfield_octets := PySem.W.mg_of X G a5, kfield_octets := k5, F_is_code := F6, b_is_code := b6, g_is_code := PySem.W.mg_of X G a6, k_is_code := k6, F_is_of := F7, b_is_of := b7, g_is_of := PySem.W.mg_of X G a7, k_is_of := k7, F_are_octets := F8, b_are_octets := b8, g_are_octets := PySem.W.mg_of X G a8, k_are_octets := k8, F_is_bound := F9, b_is_bound := b9, g_is_bound := PySem.W.mg_of X G a9, k_is_bound := k9, F_text_octets := F10, b_text_octets := b10, g_text_octets := PySem.W.mg_of X G a10, k_text_octets := k10, F_padded := F11, b_padded := b11, g_padded := PySem.W.mg_of X G a11, k_padded := k11, Fencode_message := F12, bencode_message := b12, gencode_message := PySem.W.mg_of X G a12, kencode_message := k12, Fevent_octets := F13, bevent_octets := b13, gevent_octets := PySem.W.mg_of X G a13, kevent_octets := k13, F_opcode_of := F14, b_opcode_of := b14, g_opcode_of := PySem.W.mg_of X G a14, k_opcode_of := k14, F_law_cell := F15, b_law_cell := b15, g_law_cell := PySem.W.mg_of X G a15, k_law_cell := k15, F_law_row := F16, b_law_row := b16, g_law_row := PySem.W.mg_of X G a16, k_law_row := k16, F_law_serve := F17, b_law_serve := b17, g_law_serve := PySem.W.mg_of X G a17, k_law_serve := k17, F_law_size := F18, b_law_size := b18, g_law_size := PySem.W.mg_of X G a18, k_law_size := k18, F_law_ask := F19, b_law_ask := b19, g_law_ask := PySem.W.mg_of X G a19, k_law_ask := k19, F_law_answer := F20, b_law_answer := b20, g_law_answer := PySem.W.mg_of X G a20, k_law_answer := k20, F_law_read := F21, b_law_read := b21, g_law_read := PySem.W.mg_of X G a21, k_law_read := k21, Flaw := F22, blaw := b22, glaw := PySem.W.mg_of X G a22, klaw := k22, FFault___init__ := F23, bFault___init__ := b23, MFault := a23, TFault := ty23, FCaptures___init__ := F24, bCaptures___init__ := b24, MCaptures := ⟨mkCaptures, a24, i24, kcCaptures⟩, FCaptures_make := F25, bCaptures_make := b25, mCaptures_make := ⟨a25, i25, k25⟩, FCaptures_answered := F26, bCaptures_answered := b26, mCaptures_answered := ⟨a26, i26, k26⟩, FCaptures_read := F27, bCaptures_read := b27, mCaptures_read := ⟨a27, i27, k27⟩, FCaptures_forget := F28, bCaptures_forget := b28, mCaptures_forget := ⟨a28, i28, k28⟩, FFetch___init__ := F29, bFetch___init__ := b29, MFetch := ⟨mkFetch, a29, i29, kcFetch⟩, FWatch___init__ := F30, bWatch___init__ := b30, MWatch := ⟨mkWatch, a30, i30, kcWatch⟩, FFetches___init__ := F31, bFetches___init__ := b31, MFetches := ⟨mkFetches, a31, i31, kcFetches⟩, FFetches_make_fetch := F32, bFetches_make_fetch := b32, mFetches_make_fetch := ⟨a32, i32, k32⟩, FFetches_make_watch := F33, bFetches_make_watch := b33, mFetches_make_watch := ⟨a33, i33, k33⟩, FFetches_read := F34, bFetches_read := b34, mFetches_read := ⟨a34, i34, k34⟩, FFetches_forget := F35, bFetches_forget := b35, mFetches_forget := ⟨a35, i35, k35⟩, FOffers___init__ := F36, bOffers___init__ := b36, MOffers := ⟨mkOffers, a36, i36, kcOffers⟩, FOffers_forget := F37, bOffers_forget := b37, mOffers_forget := ⟨a37, i37, k37⟩, FOffers_read := F38, bOffers_read := b38, mOffers_read := ⟨a38, i38, k38⟩, FSource___init__ := F39, bSource___init__ := b39, MSource := ⟨mkSource, a39, i39, kcSource⟩, FSources___init__ := F40, bSources___init__ := b40, MSources := ⟨mkSources, a40, i40, kcSources⟩, FSources_make := F41, bSources_make := b41, mSources_make := ⟨a41, i41, k41⟩, FSources_write := F42, bSources_write := b42, mSources_write := ⟨a42, i42, k42⟩, FSources_is_used := F43, bSources_is_used := b43, mSources_is_used := ⟨a43, i43, k43⟩, FSources_use_up := F44, bSources_use_up := b44, mSources_use_up := ⟨a44, i44, k44⟩, FSources_forget := F45, bSources_forget := b45, mSources_forget := ⟨a45, i45, k45⟩, FSources__fresh := F46, bSources__fresh := b46, mSources__fresh := ⟨a46, i46, k46⟩, FHoldings___init__ := F47, bHoldings___init__ := b47, MHoldings := ⟨mkHoldings, a47, i47, kcHoldings⟩, FHoldings_serve := F48, bHoldings_serve := b48, mHoldings_serve := ⟨a48, i48, k48⟩, FHoldings_ended := F49, bHoldings_ended := b49, mHoldings_ended := ⟨a49, i49, k49⟩, FHoldings_answered := F50, bHoldings_answered := b50, mHoldings_answered := ⟨a50, i50, k50⟩, FHoldings__serve_transfer := F51, bHoldings__serve_transfer := b51, mHoldings__serve_transfer := ⟨a51, i51, k51⟩, FHoldings__give := F52, bHoldings__give := b52, mHoldings__give := ⟨a52, i52, k52⟩, FHoldings__send := F53, bHoldings__send := b53, mHoldings__send := ⟨a53, i53, k53⟩, FHoldings__unsend := F54, bHoldings__unsend := b54, mHoldings__unsend := ⟨a54, i54, k54⟩, FReply___init__ := F55, bReply___init__ := b55, MReply := ⟨mkReply, a55, i55, kcReply⟩, FReply_tell := F56, bReply_tell := b56, mReply_tell := ⟨a56, i56, k56⟩, FReply_wish := F57, bReply_wish := b57, mReply_wish := ⟨a57, i57, k57⟩, FRequest___init__ := F58, bRequest___init__ := b58, MRequest := ⟨mkRequest, a58, i58, kcRequest⟩, all := PySem.W.mg_none_of X G z_all, bool := PySem.W.mg_none_of X G z_bool, int := PySem.W.mg_none_of X G z_int, isinstance := PySem.W.mg_none_of X G z_isinstance, len := PySem.W.mg_none_of X G z_len, list := PySem.W.mg_none_of X G z_list, max := PySem.W.mg_none_of X G z_max, min := PySem.W.mg_none_of X G z_min, ord := PySem.W.mg_none_of X G z_ord, range := PySem.W.mg_none_of X G z_range, str := PySem.W.mg_none_of X G z_str, sum := PySem.W.mg_none_of X G z_sum, super := PySem.W.mg_none_of X G z_super, tuple := PySem.W.mg_none_of X G z_tuple, zip := PySem.W.mg_none_of X G z_zip, gLONGEST_SIDE := PySem.W.mg_of X G q_LONGEST_SIDE, gMOST_PIXELS := PySem.W.mg_of X G q_MOST_PIXELS, gMOST_CAPTURES := PySem.W.mg_of X G q_MOST_CAPTURES, gMOST_READ_captures := PySem.W.mg_of X G q_MOST_READ_captures, gLONGEST_TEXT_fetches := PySem.W.mg_of X G q_LONGEST_TEXT_fetches, gMOST_FETCHES := PySem.W.mg_of X G q_MOST_FETCHES, gMOST_WATCHES := PySem.W.mg_of X G q_MOST_WATCHES, gMOST_READ_fetches := PySem.W.mg_of X G q_MOST_READ_fetches, gMOST_READ_offers := PySem.W.mg_of X G q_MOST_READ_offers, gMOST_SOURCES := PySem.W.mg_of X G q_MOST_SOURCES, gMOST_KINDS := PySem.W.mg_of X G q_MOST_KINDS, gMOST_OCTETS_sources := PySem.W.mg_of X G q_MOST_OCTETS_sources, gLONGEST_TEXT_sources := PySem.W.mg_of X G q_LONGEST_TEXT_sources, gMOST_SENT_OCTETS := PySem.W.mg_of X G q_MOST_SENT_OCTETS, gMOST_SENT_NAMES := PySem.W.mg_of X G q_MOST_SENT_NAMES, gGREATEST_NUMBER := PySem.W.mg_of X G q_GREATEST_NUMBER, gLEAST_INT := PySem.W.mg_of X G q_LEAST_INT, gGREATEST_INT := PySem.W.mg_of X G q_GREATEST_INT, gLONGEST_TEXT_fields := PySem.W.mg_of X G q_LONGEST_TEXT_fields, gMOST_OCTETS_fields := PySem.W.mg_of X G q_MOST_OCTETS_fields, g_FIRST_CODE := PySem.W.mg_of X G q__FIRST_CODE, g_LAST_CODE := PySem.W.mg_of X G q__LAST_CODE, g_PERCENT_CODE := PySem.W.mg_of X G q__PERCENT_CODE, gHEADER_SIZE := PySem.W.mg_of X G q_HEADER_SIZE, gGREATEST_SIZE := PySem.W.mg_of X G q_GREATEST_SIZE, gGREATEST_OPCODE := PySem.W.mg_of X G q_GREATEST_OPCODE, gMOST_ARGUMENTS := PySem.W.mg_of X G q_MOST_ARGUMENTS, g_EVENTS := PySem.W.mg_of X G q__EVENTS, w_EVENTS_k11 := fun _ => .inr ⟨_, _, _, w_EVENTS_k11, rfl, rfl, len_line (Nat.le_of_ble_eq_true rfl), (.cons rfl (.cons rfl (.cons rfl .nil)))⟩, w_EVENTS_k11_0 := fun _ => .inr ⟨_, _, _, w_EVENTS_k11_0, rfl, rfl, len_line (Nat.le_of_ble_eq_true rfl), (.cons ⟨_, rfl⟩ (.cons rfl .nil))⟩, w_EVENTS_k11_0_1 := fun _ => .inr ⟨_, _, _, w_EVENTS_k11_0_1, rfl, rfl, len_line (Nat.le_of_ble_eq_true rfl), (.cons ⟨_, rfl⟩ (.cons ⟨_, rfl⟩ .nil))⟩, w_EVENTS_k11_1 := fun _ => .inr ⟨_, _, _, w_EVENTS_k11_1, rfl, rfl, len_line (Nat.le_of_ble_eq_true rfl), (.cons ⟨_, rfl⟩ (.cons rfl .nil))⟩, w_EVENTS_k11_1_1 := fun _ => .inr ⟨_, _, _, w_EVENTS_k11_1_1, rfl, rfl, len_line (Nat.le_of_ble_eq_true rfl), .nil⟩, w_EVENTS_k11_2 := fun _ => .inr ⟨_, _, _, w_EVENTS_k11_2, rfl, rfl, len_line (Nat.le_of_ble_eq_true rfl), (.cons ⟨_, rfl⟩ (.cons rfl .nil))⟩, w_EVENTS_k11_2_1 := fun _ => .inr ⟨_, _, _, w_EVENTS_k11_2_1, rfl, rfl, len_line (Nat.le_of_ble_eq_true rfl), (.cons ⟨_, rfl⟩ (.cons ⟨_, rfl⟩ .nil))⟩, clCaptures := ⟨pgCaptures, hdCaptures, poCaptures, saCaptures⟩, gCaptures := PySem.W.mg_of X G uCaptures, nCaptures__pictures := nCaptures__pictures, clFetch := ⟨pgFetch, hdFetch, poFetch, saFetch⟩, gFetch := PySem.W.mg_of X G uFetch, nFetch_name := nFetch_name, nFetch_octets := nFetch_octets, clWatch := ⟨pgWatch, hdWatch, poWatch, saWatch⟩, gWatch := PySem.W.mg_of X G uWatch, nWatch_label := nWatch_label, nWatch_told := nWatch_told, clFetches := ⟨pgFetches, hdFetches, poFetches, saFetches⟩, gFetches := PySem.W.mg_of X G uFetches, nFetches__fetches := nFetches__fetches, nFetches__watches := nFetches__watches, clOffers := ⟨pgOffers, hdOffers, poOffers, saOffers⟩, gOffers := PySem.W.mg_of X G uOffers, nOffers__transfers := nOffers__transfers, nOffers__kept := nOffers__kept, nOffers__is_hovered := nOffers__is_hovered, clSource := ⟨pgSource, hdSource, poSource, saSource⟩, gSource := PySem.W.mg_of X G uSource, nSource_pieces := nSource_pieces, nSource_is_used := nSource_is_used, clSources := ⟨pgSources, hdSources, poSources, saSources⟩, gSources := PySem.W.mg_of X G uSources, nSources__sources := nSources__sources, clHoldings := ⟨pgHoldings, hdHoldings, poHoldings, saHoldings⟩, gHoldings := PySem.W.mg_of X G uHoldings, nHoldings__sources := nHoldings__sources, nHoldings__offers := nHoldings__offers, nHoldings__captures := nHoldings__captures, nHoldings__fetches := nHoldings__fetches, nHoldings__sent_names := nHoldings__sent_names, clReply := ⟨pgReply, hdReply, poReply, saReply⟩, gReply := PySem.W.mg_of X G uReply, nReply_told := nReply_told, nReply_ended := nReply_ended, nReply_wishes := nReply_wishes, nReply_applied := nReply_applied, clRequest := ⟨pgRequest, hdRequest, poRequest, saRequest⟩, gRequest := PySem.W.mg_of X G uRequest, nRequest_number := nRequest_number, nRequest_interface := nRequest_interface, nRequest_name := nRequest_name, nRequest_arguments := nRequest_arguments, nRequest_ends := nRequest_ends, gBadMessage := PySem.W.mg_of X G uBadMessage, xBadMessage := xBadMessage, kBadMessage := keBadMessage, bxBadMessage := bxBadMessage, txBadMessage := txBadMessage, exBadMessage := exm_self bxBadMessage ixBadMessage txBadMessage sxBadMessage, gMessageTooLong := PySem.W.mg_of X G uMessageTooLong, xMessageTooLong := xMessageTooLong, kMessageTooLong := keMessageTooLong, bxMessageTooLong := bxMessageTooLong, txMessageTooLong := txMessageTooLong, exMessageTooLong := exm_self bxMessageTooLong ixMessageTooLong txMessageTooLong sxMessageTooLong, gFault := PySem.W.mg_of X G uFault, oFault := oFault, vFault := ⟨oFault, mrFault, ksFault, veFault, tpFault⟩, xfFault := ⟨gaFault, gtFault, bxFault, hxFault⟩, iXFault := ⟨gaFault, gtFault, bxFault, hxFault, fcFault, sgFault, tkFault, moFault⟩, kFault := keFault, bxFault := bxFault, txFault := txFault, exFault := exm_self bxFault ixFault txFault sxFault, nFault_number := nFault_number, nFault_code := nFault_code, nFault_words := nFault_words, prg := hP }, { d_EVENTS_k11 := ⟨_, _, _, dl_EVENTS, dk_EVENTS, de_EVENTS_k11, rfl⟩ }, fun s v => .of_eq rfl⟩
theorem walk {l : PySem.W.OpenLaw} {q : Program} {loose : List Str} {XP : (Str → Option Value) → Heap → Prop} {YP : World → Heap → Prop} {d : DefRec} {K : Params → PySem.W.Frag} (hn : l.most = some 63) (hdf : d.params.defaults = [])
    (hY : ∀ (w : World) (h : Heap), YP w h → (K w.params).In h)
    (F : ∀ (w : World) (mg : Str → Option Value) (fa : Addr) (h : Heap), (K w.params).In h → h.Ns mainGlobals mg → mg d.name = some (.ref fa) →
      ∃ A : Adr, A.flaw = fa ∧ Txt0 l.prog (K w.params) mg A ∧ Dic w (K w.params) A ∧ (∀ (s : Shared) (v : Value), BindsTo s A.dlaw ⟨[v], []⟩ [("script", v)])) :
    PySem.W.WalkO q loose XP YP l.row.toRowW d [] (fun f vs => PySem.call f vs) :=
  L2.walk_of (n := 63) (k := 14) (x := "script") (CX := fun _ => CX0) (sp := fun w => sp_law (K w.params)) hn (by decide) hdf ⟨rfl, by decide, by decide⟩ hY (fun w mg fa h X G hfa => by
    obtain ⟨A, rfl, T, D, b⟩ := F w mg fa h X G hfa
    exact ⟨A.dlaw, b, fun base _ _ => ok_law T D⟩) (fun _ _ a ns hl _ hS => ⟨a, ns, rfl, hS, hl, fun _ => rfl⟩) fun _ _ _ _ _ z => z
/-! ### the head: what the top leaves, by one kernel run -/
def KF (PP : Params) : PySem.W.Frag :=
(nat_lit 2, Obj.mk Value.none none (Data.dict #[]) #[]) ::
(nat_lit 3, Obj.mk (Value.type "dict") none (Data.dict #[DictEntry.mk (PyData.keyHash PP (Str.ofString "__name__")) (Value.str (Str.ofString "__name__") 165) (Value.str (Str.ofString "law_sillwatch_k64_captures") 1335), DictEntry.mk (PyData.keyHash PP (Str.ofString "__doc__")) (Value.str (Str.ofString "__doc__") 166) Value.none, DictEntry.mk (PyData.keyHash PP (Str.ofString "__package__")) (Value.str (Str.ofString "__package__") 167) Value.none, DictEntry.mk (PyData.keyHash PP (Str.ofString "__loader__")) (Value.str (Str.ofString "__loader__") 168) (Value.builtin "__main__.__loader__#opaque"), DictEntry.mk (PyData.keyHash PP (Str.ofString "__spec__")) (Value.str (Str.ofString "__spec__") 169) Value.none, DictEntry.mk (PyData.keyHash PP (Str.ofString "__annotations__")) (Value.str (Str.ofString "__annotations__") 170) (Value.ref 6), DictEntry.mk (PyData.keyHash PP (Str.ofString "__builtins__")) (Value.str (Str.ofString "__builtins__") 171) (Value.ref 4), DictEntry.mk (PyData.keyHash PP (Str.ofString "__file__")) (Value.str (Str.ofString "__file__") 173) (Value.str (Str.ofString "/claim/cut.py") 172), DictEntry.mk (PyData.keyHash PP (Str.ofString "__cached__")) (Value.str (Str.ofString "__cached__") 174) Value.none, DictEntry.mk (PyData.keyHash PP (Str.ofString "_wall")) (Value.str (Str.ofString "_wall") 193) (Value.ref 21), DictEntry.mk (PyData.keyHash PP (Str.ofString "DisplayError")) (Value.str (Str.ofString "DisplayError") 213) (Value.ref 31), DictEntry.mk (PyData.keyHash PP (Str.ofString "BadMessage")) (Value.str (Str.ofString "BadMessage") 229) (Value.ref 44), DictEntry.mk (PyData.keyHash PP (Str.ofString "MessageTooLong")) (Value.str (Str.ofString "MessageTooLong") 245) (Value.ref 56), DictEntry.mk (PyData.keyHash PP (Str.ofString "Fault")) (Value.str (Str.ofString "Fault") 276) (Value.ref 77), DictEntry.mk (PyData.keyHash PP (Str.ofString "LONGEST_SIDE")) (Value.str (Str.ofString "LONGEST_SIDE") 280) (Value.int 256 279), DictEntry.mk (PyData.keyHash PP (Str.ofString "MOST_PIXELS")) (Value.str (Str.ofString "MOST_PIXELS") 282) (Value.int 4096 281), DictEntry.mk (PyData.keyHash PP (Str.ofString "MOST_CAPTURES")) (Value.str (Str.ofString "MOST_CAPTURES") 284) (Value.int 2 283), DictEntry.mk (PyData.keyHash PP (Str.ofString "MOST_READ_captures")) (Value.str (Str.ofString "MOST_READ_captures") 286) (Value.int 1024 285), DictEntry.mk (PyData.keyHash PP (Str.ofString "Captures")) (Value.str (Str.ofString "Captures") 363) (Value.ref 124), DictEntry.mk (PyData.keyHash PP (Str.ofString "LONGEST_TEXT_fetches")) (Value.str (Str.ofString "LONGEST_TEXT_fetches") 367) (Value.int 128 366), DictEntry.mk (PyData.keyHash PP (Str.ofString "MOST_FETCHES")) (Value.str (Str.ofString "MOST_FETCHES") 369) (Value.int 4 368), DictEntry.mk (PyData.keyHash PP (Str.ofString "MOST_WATCHES")) (Value.str (Str.ofString "MOST_WATCHES") 371) (Value.int 8 370), DictEntry.mk (PyData.keyHash PP (Str.ofString "MOST_READ_fetches")) (Value.str (Str.ofString "MOST_READ_fetches") 373) (Value.int 1024 372), DictEntry.mk (PyData.keyHash PP (Str.ofString "Fetch")) (Value.str (Str.ofString "Fetch") 403) (Value.ref 145), DictEntry.mk (PyData.keyHash PP (Str.ofString "Watch")) (Value.str (Str.ofString "Watch") 433) (Value.ref 166), DictEntry.mk (PyData.keyHash PP (Str.ofString "Fetches")) (Value.str (Str.ofString "Fetches") 525) (Value.ref 234), DictEntry.mk (PyData.keyHash PP (Str.ofString "_check_new")) (Value.str (Str.ofString "_check_new") 534) (Value.ref 245), DictEntry.mk (PyData.keyHash PP (Str.ofString "MOST_READ_offers")) (Value.str (Str.ofString "MOST_READ_offers") 538) (Value.int 1024 537), DictEntry.mk (PyData.keyHash PP (Str.ofString "Offers")) (Value.str (Str.ofString "Offers") 653) (Value.ref 325), DictEntry.mk (PyData.keyHash PP (Str.ofString "MOST_SOURCES")) (Value.str (Str.ofString "MOST_SOURCES") 657) (Value.int 8 656), DictEntry.mk (PyData.keyHash PP (Str.ofString "MOST_KINDS")) (Value.str (Str.ofString "MOST_KINDS") 659) (Value.int 16 658), DictEntry.mk (PyData.keyHash PP (Str.ofString "MOST_OCTETS_sources")) (Value.str (Str.ofString "MOST_OCTETS_sources") 661) (Value.int 32768 660), DictEntry.mk (PyData.keyHash PP (Str.ofString "LONGEST_TEXT_sources")) (Value.str (Str.ofString "LONGEST_TEXT_sources") 663) (Value.int 128 662), DictEntry.mk (PyData.keyHash PP (Str.ofString "Source")) (Value.str (Str.ofString "Source") 692) (Value.ref 346), DictEntry.mk (PyData.keyHash PP (Str.ofString "Sources")) (Value.str (Str.ofString "Sources") 762) (Value.ref 403), DictEntry.mk (PyData.keyHash PP (Str.ofString "MOST_SENT_OCTETS")) (Value.str (Str.ofString "MOST_SENT_OCTETS") 766) (Value.int 8192 765), DictEntry.mk (PyData.keyHash PP (Str.ofString "MOST_SENT_NAMES")) (Value.str (Str.ofString "MOST_SENT_NAMES") 768) (Value.int 4 767), DictEntry.mk (PyData.keyHash PP (Str.ofString "Holdings")) (Value.str (Str.ofString "Holdings") 965) (Value.ref 543), DictEntry.mk (PyData.keyHash PP (Str.ofString "GREATEST_NUMBER")) (Value.str (Str.ofString "GREATEST_NUMBER") 969) (Value.int 4294967295 968), DictEntry.mk (PyData.keyHash PP (Str.ofString "LEAST_INT")) (Value.str (Str.ofString "LEAST_INT") 972) (Value.int (-2147483648) 971), DictEntry.mk (PyData.keyHash PP (Str.ofString "GREATEST_INT")) (Value.str (Str.ofString "GREATEST_INT") 974) (Value.int 2147483647 973), DictEntry.mk (PyData.keyHash PP (Str.ofString "LONGEST_TEXT_fields")) (Value.str (Str.ofString "LONGEST_TEXT_fields") 976) (Value.int 1000 975), DictEntry.mk (PyData.keyHash PP (Str.ofString "MOST_OCTETS_fields")) (Value.str (Str.ofString "MOST_OCTETS_fields") 978) (Value.int 16384 977), DictEntry.mk (PyData.keyHash PP (Str.ofString "_FIRST_CODE")) (Value.str (Str.ofString "_FIRST_CODE") 980) (Value.int 32 979), DictEntry.mk (PyData.keyHash PP (Str.ofString "_LAST_CODE")) (Value.str (Str.ofString "_LAST_CODE") 982) (Value.int 126 981), DictEntry.mk (PyData.keyHash PP (Str.ofString "_PERCENT_CODE")) (Value.str (Str.ofString "_PERCENT_CODE") 984) (Value.int 37 983), DictEntry.mk (PyData.keyHash PP (Str.ofString "is_integer")) (Value.str (Str.ofString "is_integer") 993) (Value.ref 554), DictEntry.mk (PyData.keyHash PP (Str.ofString "is_text")) (Value.str (Str.ofString "is_text") 999) (Value.ref 559), DictEntry.mk (PyData.keyHash PP (Str.ofString "number_octets")) (Value.str (Str.ofString "number_octets") 1005) (Value.ref 564), DictEntry.mk (PyData.keyHash PP (Str.ofString "field_octets")) (Value.str (Str.ofString "field_octets") 1015) (Value.ref 571), DictEntry.mk (PyData.keyHash PP (Str.ofString "_is_code")) (Value.str (Str.ofString "_is_code") 1022) (Value.ref 578), DictEntry.mk (PyData.keyHash PP (Str.ofString "_is_of")) (Value.str (Str.ofString "_is_of") 1030) (Value.ref 585), DictEntry.mk (PyData.keyHash PP (Str.ofString "_are_octets")) (Value.str (Str.ofString "_are_octets") 1036) (Value.ref 590), DictEntry.mk (PyData.keyHash PP (Str.ofString "_is_bound")) (Value.str (Str.ofString "_is_bound") 1043) (Value.ref 597), DictEntry.mk (PyData.keyHash PP (Str.ofString "_text_octets")) (Value.str (Str.ofString "_text_octets") 1049) (Value.ref 602), DictEntry.mk (PyData.keyHash PP (Str.ofString "_padded")) (Value.str (Str.ofString "_padded") 1056) (Value.ref 609), DictEntry.mk (PyData.keyHash PP (Str.ofString "HEADER_SIZE")) (Value.str (Str.ofString "HEADER_SIZE") 1060) (Value.int 8 1059), DictEntry.mk (PyData.keyHash PP (Str.ofString "GREATEST_SIZE")) (Value.str (Str.ofString "GREATEST_SIZE") 1062) (Value.int 20480 1061), DictEntry.mk (PyData.keyHash PP (Str.ofString "GREATEST_OPCODE")) (Value.str (Str.ofString "GREATEST_OPCODE") 1064) (Value.int 65535 1063), DictEntry.mk (PyData.keyHash PP (Str.ofString "MOST_ARGUMENTS")) (Value.str (Str.ofString "MOST_ARGUMENTS") 1066) (Value.int 20 1065), DictEntry.mk (PyData.keyHash PP (Str.ofString "encode_message")) (Value.str (Str.ofString "encode_message") 1079) (Value.ref 616), DictEntry.mk (PyData.keyHash PP (Str.ofString "_EVENTS")) (Value.str (Str.ofString "_EVENTS") 1216) (Value.ref 617), DictEntry.mk (PyData.keyHash PP (Str.ofString "event_octets")) (Value.str (Str.ofString "event_octets") 1229) (Value.ref 716), DictEntry.mk (PyData.keyHash PP (Str.ofString "_opcode_of")) (Value.str (Str.ofString "_opcode_of") 1235) (Value.ref 721), DictEntry.mk (PyData.keyHash PP (Str.ofString "Reply")) (Value.str (Str.ofString "Reply") 1295) (Value.ref 759), DictEntry.mk (PyData.keyHash PP (Str.ofString "Request")) (Value.str (Str.ofString "Request") 1334) (Value.ref 780), DictEntry.mk (PyData.keyHash PP (Str.ofString "_law_cell")) (Value.str (Str.ofString "_law_cell") 1345) (Value.ref 791), DictEntry.mk (PyData.keyHash PP (Str.ofString "_law_row")) (Value.str (Str.ofString "_law_row") 1356) (Value.ref 798), DictEntry.mk (PyData.keyHash PP (Str.ofString "_law_serve")) (Value.str (Str.ofString "_law_serve") 1370) (Value.ref 805), DictEntry.mk (PyData.keyHash PP (Str.ofString "_law_size")) (Value.str (Str.ofString "_law_size") 1377) (Value.ref 812), DictEntry.mk (PyData.keyHash PP (Str.ofString "_law_ask")) (Value.str (Str.ofString "_law_ask") 1392) (Value.ref 819), DictEntry.mk (PyData.keyHash PP (Str.ofString "_law_answer")) (Value.str (Str.ofString "_law_answer") 1398) (Value.ref 824), DictEntry.mk (PyData.keyHash PP (Str.ofString "_law_read")) (Value.str (Str.ofString "_law_read") 1411) (Value.ref 831), DictEntry.mk (PyData.keyHash PP (Str.ofString "law")) (Value.str (Str.ofString "law") 1417) (Value.ref 836)] 74) #[]) ::
(nat_lit 15, Obj.mk (Value.type "tuple") none (Data.seq #[]) #[]) ::
(nat_lit 17, Obj.mk (Value.type "tuple") none (Data.seq #[Value.str (Str.ofString "k") 190]) #[]) ::
(nat_lit 18, Obj.mk (Value.type "tuple") none (Data.seq #[]) #[]) ::
(nat_lit 20, Obj.mk (Value.type "code") none (Data.fields #[Value.str (Str.ofString "_wall") 187, Value.str (Str.ofString "_wall") 188, Value.str (Str.ofString "/claim/cut.py") 189, Value.int 1 0, Value.int 1 0, Value.int 0 0, Value.int 0 0, Value.int 3 0, Value.ref 15, Value.bool true, Value.int 181 0, Value.ref 16, Value.none, Value.ref 17, Value.ref 18, Value.ref 19, Value.int 191 0, Value.int 1 0, Value.str (Str.ofString "/claim/cut.py") 192]) #[]) ::
(nat_lit 21, Obj.mk (Value.type "function") none (Data.func (FuncData.mk (Str.ofString "_wall") (Str.ofString "_wall") (defArgs (topS 0)) (.stmts (defBody (topS 0))) (defScope (topS 0)) 3 [] Value.none Value.none Value.none (Value.str (Str.ofString "__main__") 164) none (Value.ref 20) Value.none 0)) #[]) ::
(nat_lit 22, Obj.mk (Value.type "tuple") none (Data.seq #[Value.type "ValueError"]) #[]) ::
(nat_lit 29, Obj.mk (Value.type "tuple") none (Data.seq #[]) #[]) ::
(nat_lit 30, Obj.mk (Value.type "dict") none (Data.dict #[DictEntry.mk (PyData.keyHash PP (Str.ofString "__module__")) (Value.str (Str.ofString "__module__") 203) (Value.str (Str.ofString "sillwatch.errors") 194), DictEntry.mk (PyData.keyHash PP (Str.ofString "__firstlineno__")) (Value.str (Str.ofString "__firstlineno__") 207) (Value.int 5 206), DictEntry.mk (PyData.keyHash PP (Str.ofString "__static_attributes__")) (Value.str (Str.ofString "__static_attributes__") 208) (Value.ref 29), DictEntry.mk (PyData.keyHash PP (Str.ofString "__weakref__")) (Value.str (Str.ofString "__weakref__") 210) (Value.ref 32), DictEntry.mk (PyData.keyHash PP (Str.ofString "__doc__")) (Value.str (Str.ofString "__doc__") 211) Value.none] 3) #[]) ::
(nat_lit 31, Obj.mk (Value.type "type") none (Data.cls (ClassData.mk (Str.ofString "DisplayError") [Value.type "ValueError"] [Value.ref 31, Value.type "ValueError", Value.type "Exception", Value.type "BaseException", Value.type "object"] 30 (Str.ofString "DisplayError") true [] [Value.ref 44, Value.ref 56, Value.ref 77] false none false)) #[some (Value.ref 22), none, some (Value.str (Str.ofString "DisplayError") 196), some (Value.str (Str.ofString "DisplayError") 204), some (Value.builtin "ValueError.__new__"), some (Value.bool true)]) ::
(nat_lit 32, Obj.mk (Value.type "getset_descriptor") none (Data.fields #[Value.str (Str.ofString "__weakref__") 209, Value.ref 31, Value.builtin "ExceptionGroup.__weakref__", Value.none]) #[]) ::
(nat_lit 35, Obj.mk (Value.type "tuple") none (Data.seq #[Value.ref 31]) #[]) ::
(nat_lit 42, Obj.mk (Value.type "tuple") none (Data.seq #[]) #[]) ::
(nat_lit 43, Obj.mk (Value.type "dict") none (Data.dict #[DictEntry.mk (PyData.keyHash PP (Str.ofString "__module__")) (Value.str (Str.ofString "__module__") 221) (Value.str (Str.ofString "sillwatch.errors") 194), DictEntry.mk (PyData.keyHash PP (Str.ofString "__firstlineno__")) (Value.str (Str.ofString "__firstlineno__") 225) (Value.int 7 224), DictEntry.mk (PyData.keyHash PP (Str.ofString "__static_attributes__")) (Value.str (Str.ofString "__static_attributes__") 226) (Value.ref 42), DictEntry.mk (PyData.keyHash PP (Str.ofString "__doc__")) (Value.str (Str.ofString "__doc__") 227) Value.none] 2) #[]) ::
(nat_lit 44, Obj.mk (Value.type "type") none (Data.cls (ClassData.mk (Str.ofString "BadMessage") [Value.ref 31] [Value.ref 44, Value.ref 31, Value.type "ValueError", Value.type "Exception", Value.type "BaseException", Value.type "object"] 43 (Str.ofString "BadMessage") true [] [] false none false)) #[some (Value.ref 35), none, some (Value.str (Str.ofString "BadMessage") 214), some (Value.str (Str.ofString "BadMessage") 222), some (Value.builtin "ValueError.__new__"), some (Value.bool true)]) ::
(nat_lit 47, Obj.mk (Value.type "tuple") none (Data.seq #[Value.ref 31]) #[]) ::
(nat_lit 54, Obj.mk (Value.type "tuple") none (Data.seq #[]) #[]) ::
(nat_lit 55, Obj.mk (Value.type "dict") none (Data.dict #[DictEntry.mk (PyData.keyHash PP (Str.ofString "__module__")) (Value.str (Str.ofString "__module__") 237) (Value.str (Str.ofString "sillwatch.errors") 194), DictEntry.mk (PyData.keyHash PP (Str.ofString "__firstlineno__")) (Value.str (Str.ofString "__firstlineno__") 241) (Value.int 9 240), DictEntry.mk (PyData.keyHash PP (Str.ofString "__static_attributes__")) (Value.str (Str.ofString "__static_attributes__") 242) (Value.ref 54), DictEntry.mk (PyData.keyHash PP (Str.ofString "__doc__")) (Value.str (Str.ofString "__doc__") 243) Value.none] 2) #[]) ::
(nat_lit 56, Obj.mk (Value.type "type") none (Data.cls (ClassData.mk (Str.ofString "MessageTooLong") [Value.ref 31] [Value.ref 56, Value.ref 31, Value.type "ValueError", Value.type "Exception", Value.type "BaseException", Value.type "object"] 55 (Str.ofString "MessageTooLong") true [] [] false none false)) #[some (Value.ref 47), none, some (Value.str (Str.ofString "MessageTooLong") 230), some (Value.str (Str.ofString "MessageTooLong") 238), some (Value.builtin "ValueError.__new__"), some (Value.bool true)]) ::
(nat_lit 59, Obj.mk (Value.type "tuple") none (Data.seq #[Value.ref 31]) #[]) ::
(nat_lit 62, Obj.mk (Value.type "cell") none (Data.cell (some (Value.ref 77))) #[]) ::
(nat_lit 67, Obj.mk (Value.type "tuple") none (Data.seq #[Value.ref 62]) #[]) ::
(nat_lit 68, Obj.mk (Value.type "tuple") none (Data.seq #[Value.str (Str.ofString "__class__") 261]) #[]) ::
(nat_lit 70, Obj.mk (Value.type "tuple") none (Data.seq #[Value.str (Str.ofString "self") 262, Value.str (Str.ofString "number") 263, Value.str (Str.ofString "code") 264, Value.str (Str.ofString "words") 265]) #[]) ::
(nat_lit 71, Obj.mk (Value.type "tuple") none (Data.seq #[]) #[]) ::
(nat_lit 73, Obj.mk (Value.type "code") none (Data.fields #[Value.str (Str.ofString "__init__") 258, Value.str (Str.ofString "Fault.__init__") 259, Value.str (Str.ofString "/claim/cut.py") 260, Value.int 13 0, Value.int 4 0, Value.int 0 0, Value.int 0 0, Value.int 3 0, Value.ref 68, Value.bool true, Value.int 181 0, Value.ref 69, Value.none, Value.ref 70, Value.ref 71, Value.ref 72, Value.int 266 0, Value.int 13 0, Value.str (Str.ofString "/claim/cut.py") 267]) #[]) ::
(nat_lit 74, Obj.mk (Value.type "function") none (Data.func (FuncData.mk (Str.ofString "__init__") (Str.ofString "Fault.__init__") (defArgs (inClass (topS 5) 0)) (.stmts (defBody (inClass (topS 5) 0))) (defScope (inClass (topS 5) 0)) 3 [(Str.ofString "__class__", 62)] Value.none Value.none Value.none (Value.str (Str.ofString "sillwatch.errors") 194) none (Value.ref 73) (Value.ref 67) 0)) #[]) ::
(nat_lit 75, Obj.mk (Value.type "tuple") none (Data.seq #[Value.str (Str.ofString "code") 269, Value.str (Str.ofString "number") 270, Value.str (Str.ofString "words") 271]) #[]) ::
(nat_lit 76, Obj.mk (Value.type "dict") none (Data.dict #[DictEntry.mk (PyData.keyHash PP (Str.ofString "__module__")) (Value.str (Str.ofString "__module__") 253) (Value.str (Str.ofString "sillwatch.errors") 194), DictEntry.mk (PyData.keyHash PP (Str.ofString "__firstlineno__")) (Value.str (Str.ofString "__firstlineno__") 257) (Value.int 11 256), DictEntry.mk (PyData.keyHash PP (Str.ofString "__init__")) (Value.str (Str.ofString "__init__") 268) (Value.ref 74), DictEntry.mk (PyData.keyHash PP (Str.ofString "__static_attributes__")) (Value.str (Str.ofString "__static_attributes__") 272) (Value.ref 75), DictEntry.mk (PyData.keyHash PP (Str.ofString "__doc__")) (Value.str (Str.ofString "__doc__") 274) Value.none] 3) #[]) ::
(nat_lit 77, Obj.mk (Value.type "type") none (Data.cls (ClassData.mk (Str.ofString "Fault") [Value.ref 31] [Value.ref 77, Value.ref 31, Value.type "ValueError", Value.type "Exception", Value.type "BaseException", Value.type "object"] 76 (Str.ofString "Fault") true [] [] false none false)) #[some (Value.ref 59), none, some (Value.str (Str.ofString "Fault") 246), some (Value.str (Str.ofString "Fault") 254), some (Value.builtin "ValueError.__new__"), some (Value.bool true)]) ::
(nat_lit 87, Obj.mk (Value.type "tuple") none (Data.seq #[]) #[]) ::
(nat_lit 89, Obj.mk (Value.type "tuple") none (Data.seq #[Value.str (Str.ofString "self") 302]) #[]) ::
(nat_lit 90, Obj.mk (Value.type "tuple") none (Data.seq #[]) #[]) ::
(nat_lit 92, Obj.mk (Value.type "code") none (Data.fields #[Value.str (Str.ofString "__init__") 299, Value.str (Str.ofString "Captures.__init__") 300, Value.str (Str.ofString "/claim/cut.py") 301, Value.int 25 0, Value.int 1 0, Value.int 0 0, Value.int 0 0, Value.int 3 0, Value.ref 87, Value.bool true, Value.int 181 0, Value.ref 88, Value.none, Value.ref 89, Value.ref 90, Value.ref 91, Value.int 303 0, Value.int 25 0, Value.str (Str.ofString "/claim/cut.py") 304]) #[]) ::
(nat_lit 93, Obj.mk (Value.type "function") none (Data.func (FuncData.mk (Str.ofString "__init__") (Str.ofString "Captures.__init__") (defArgs (inClass (topS 11) 0)) (.stmts (defBody (inClass (topS 11) 0))) (defScope (inClass (topS 11) 0)) 3 [] Value.none Value.none Value.none (Value.str (Str.ofString "sillwatch.giving.captures") 277) none (Value.ref 92) Value.none 0)) #[]) ::
(nat_lit 94, Obj.mk (Value.type "tuple") none (Data.seq #[]) #[]) ::
(nat_lit 96, Obj.mk (Value.type "tuple") none (Data.seq #[Value.str (Str.ofString "self") 309, Value.str (Str.ofString "request") 310, Value.str (Str.ofString "number") 311, Value.str (Str.ofString "_") 312, Value.str (Str.ofString "width") 313, Value.str (Str.ofString "height") 314]) #[]) ::
(nat_lit 97, Obj.mk (Value.type "tuple") none (Data.seq #[]) #[]) ::
(nat_lit 99, Obj.mk (Value.type "code") none (Data.fields #[Value.str (Str.ofString "make") 306, Value.str (Str.ofString "Captures.make") 307, Value.str (Str.ofString "/claim/cut.py") 308, Value.int 28 0, Value.int 2 0, Value.int 0 0, Value.int 0 0, Value.int 3 0, Value.ref 94, Value.bool true, Value.int 181 0, Value.ref 95, Value.none, Value.ref 96, Value.ref 97, Value.ref 98, Value.int 315 0, Value.int 28 0, Value.str (Str.ofString "/claim/cut.py") 316]) #[]) ::
(nat_lit 100, Obj.mk (Value.type "function") none (Data.func (FuncData.mk (Str.ofString "make") (Str.ofString "Captures.make") (defArgs (inClass (topS 11) 1)) (.stmts (defBody (inClass (topS 11) 1))) (defScope (inClass (topS 11) 1)) 3 [] Value.none Value.none Value.none (Value.str (Str.ofString "sillwatch.giving.captures") 277) none (Value.ref 99) Value.none 0)) #[]) ::
(nat_lit 101, Obj.mk (Value.type "tuple") none (Data.seq #[]) #[]) ::
(nat_lit 103, Obj.mk (Value.type "tuple") none (Data.seq #[Value.str (Str.ofString "self") 321, Value.str (Str.ofString "number") 322, Value.str (Str.ofString "picture") 323, Value.str (Str.ofString "reply") 324, Value.str (Str.ofString "width") 325, Value.str (Str.ofString "height") 326, Value.str (Str.ofString "octets") 327]) #[]) ::
(nat_lit 104, Obj.mk (Value.type "tuple") none (Data.seq #[]) #[]) ::
(nat_lit 106, Obj.mk (Value.type "code") none (Data.fields #[Value.str (Str.ofString "answered") 318, Value.str (Str.ofString "Captures.answered") 319, Value.str (Str.ofString "/claim/cut.py") 320, Value.int 36 0, Value.int 4 0, Value.int 0 0, Value.int 0 0, Value.int 3 0, Value.ref 101, Value.bool true, Value.int 181 0, Value.ref 102, Value.none, Value.ref 103, Value.ref 104, Value.ref 105, Value.int 328 0, Value.int 36 0, Value.str (Str.ofString "/claim/cut.py") 329]) #[]) ::
(nat_lit 107, Obj.mk (Value.type "function") none (Data.func (FuncData.mk (Str.ofString "answered") (Str.ofString "Captures.answered") (defArgs (inClass (topS 11) 2)) (.stmts (defBody (inClass (topS 11) 2))) (defScope (inClass (topS 11) 2)) 3 [] Value.none Value.none Value.none (Value.str (Str.ofString "sillwatch.giving.captures") 277) none (Value.ref 106) Value.none 0)) #[]) ::
(nat_lit 108, Obj.mk (Value.type "tuple") none (Data.seq #[]) #[]) ::
(nat_lit 110, Obj.mk (Value.type "tuple") none (Data.seq #[Value.str (Str.ofString "self") 334, Value.str (Str.ofString "request") 335, Value.str (Str.ofString "reply") 336, Value.str (Str.ofString "row") 337, Value.str (Str.ofString "rows") 338, Value.str (Str.ofString "picture") 339, Value.str (Str.ofString "width") 340, Value.str (Str.ofString "height") 341, Value.str (Str.ofString "octets") 342, Value.str (Str.ofString "size") 343]) #[]) ::
(nat_lit 111, Obj.mk (Value.type "tuple") none (Data.seq #[]) #[]) ::
(nat_lit 113, Obj.mk (Value.type "code") none (Data.fields #[Value.str (Str.ofString "read") 331, Value.str (Str.ofString "Captures.read") 332, Value.str (Str.ofString "/claim/cut.py") 333, Value.int 46 0, Value.int 3 0, Value.int 0 0, Value.int 0 0, Value.int 3 0, Value.ref 108, Value.bool true, Value.int 181 0, Value.ref 109, Value.none, Value.ref 110, Value.ref 111, Value.ref 112, Value.int 344 0, Value.int 46 0, Value.str (Str.ofString "/claim/cut.py") 345]) #[]) ::
(nat_lit 114, Obj.mk (Value.type "function") none (Data.func (FuncData.mk (Str.ofString "read") (Str.ofString "Captures.read") (defArgs (inClass (topS 11) 3)) (.stmts (defBody (inClass (topS 11) 3))) (defScope (inClass (topS 11) 3)) 3 [] Value.none Value.none Value.none (Value.str (Str.ofString "sillwatch.giving.captures") 277) none (Value.ref 113) Value.none 0)) #[]) ::
(nat_lit 115, Obj.mk (Value.type "tuple") none (Data.seq #[]) #[]) ::
(nat_lit 117, Obj.mk (Value.type "tuple") none (Data.seq #[Value.str (Str.ofString "self") 350, Value.str (Str.ofString "number") 351]) #[]) ::
(nat_lit 118, Obj.mk (Value.type "tuple") none (Data.seq #[]) #[]) ::
(nat_lit 120, Obj.mk (Value.type "code") none (Data.fields #[Value.str (Str.ofString "forget") 347, Value.str (Str.ofString "Captures.forget") 348, Value.str (Str.ofString "/claim/cut.py") 349, Value.int 57 0, Value.int 2 0, Value.int 0 0, Value.int 0 0, Value.int 3 0, Value.ref 115, Value.bool true, Value.int 181 0, Value.ref 116, Value.none, Value.ref 117, Value.ref 118, Value.ref 119, Value.int 352 0, Value.int 57 0, Value.str (Str.ofString "/claim/cut.py") 353]) #[]) ::
(nat_lit 121, Obj.mk (Value.type "function") none (Data.func (FuncData.mk (Str.ofString "forget") (Str.ofString "Captures.forget") (defArgs (inClass (topS 11) 4)) (.stmts (defBody (inClass (topS 11) 4))) (defScope (inClass (topS 11) 4)) 3 [] Value.none Value.none Value.none (Value.str (Str.ofString "sillwatch.giving.captures") 277) none (Value.ref 120) Value.none 0)) #[]) ::
(nat_lit 122, Obj.mk (Value.type "tuple") none (Data.seq #[Value.str (Str.ofString "_pictures") 355]) #[]) ::
(nat_lit 123, Obj.mk (Value.type "dict") none (Data.dict #[DictEntry.mk (PyData.keyHash PP (Str.ofString "__module__")) (Value.str (Str.ofString "__module__") 294) (Value.str (Str.ofString "sillwatch.giving.captures") 277), DictEntry.mk (PyData.keyHash PP (Str.ofString "__firstlineno__")) (Value.str (Str.ofString "__firstlineno__") 298) (Value.int 23 297), DictEntry.mk (PyData.keyHash PP (Str.ofString "__init__")) (Value.str (Str.ofString "__init__") 305) (Value.ref 93), DictEntry.mk (PyData.keyHash PP (Str.ofString "make")) (Value.str (Str.ofString "make") 317) (Value.ref 100), DictEntry.mk (PyData.keyHash PP (Str.ofString "answered")) (Value.str (Str.ofString "answered") 330) (Value.ref 107), DictEntry.mk (PyData.keyHash PP (Str.ofString "read")) (Value.str (Str.ofString "read") 346) (Value.ref 114), DictEntry.mk (PyData.keyHash PP (Str.ofString "forget")) (Value.str (Str.ofString "forget") 354) (Value.ref 121), DictEntry.mk (PyData.keyHash PP (Str.ofString "__static_attributes__")) (Value.str (Str.ofString "__static_attributes__") 356) (Value.ref 122), DictEntry.mk (PyData.keyHash PP (Str.ofString "__dict__")) (Value.str (Str.ofString "__dict__") 358) (Value.ref 125), DictEntry.mk (PyData.keyHash PP (Str.ofString "__weakref__")) (Value.str (Str.ofString "__weakref__") 360) (Value.ref 126), DictEntry.mk (PyData.keyHash PP (Str.ofString "__doc__")) (Value.str (Str.ofString "__doc__") 361) Value.none] 4) #[]) ::
(nat_lit 124, Obj.mk (Value.type "type") none (Data.cls (ClassData.mk (Str.ofString "Captures") [Value.type "object"] [Value.ref 124, Value.type "object"] 123 (Str.ofString "Captures") true [] [] false none false)) #[none, none, some (Value.str (Str.ofString "Captures") 287), some (Value.str (Str.ofString "Captures") 295), some (Value.builtin "object.__new__"), some (Value.bool true)]) ::
(nat_lit 125, Obj.mk (Value.type "getset_descriptor") none (Data.fields #[Value.str (Str.ofString "__dict__") 357, Value.ref 124, Value.builtin "function.__dict__", Value.builtin "function.__dict__#set"]) #[]) ::
(nat_lit 126, Obj.mk (Value.type "getset_descriptor") none (Data.fields #[Value.str (Str.ofString "__weakref__") 359, Value.ref 124, Value.builtin "ExceptionGroup.__weakref__", Value.none]) #[]) ::
(nat_lit 136, Obj.mk (Value.type "tuple") none (Data.seq #[]) #[]) ::
(nat_lit 138, Obj.mk (Value.type "tuple") none (Data.seq #[Value.str (Str.ofString "self") 389, Value.str (Str.ofString "name") 390]) #[]) ::
(nat_lit 139, Obj.mk (Value.type "tuple") none (Data.seq #[]) #[]) ::
(nat_lit 141, Obj.mk (Value.type "code") none (Data.fields #[Value.str (Str.ofString "__init__") 386, Value.str (Str.ofString "Fetch.__init__") 387, Value.str (Str.ofString "/claim/cut.py") 388, Value.int 67 0, Value.int 2 0, Value.int 0 0, Value.int 0 0, Value.int 3 0, Value.ref 136, Value.bool true, Value.int 181 0, Value.ref 137, Value.none, Value.ref 138, Value.ref 139, Value.ref 140, Value.int 391 0, Value.int 67 0, Value.str (Str.ofString "/claim/cut.py") 392]) #[]) ::
(nat_lit 142, Obj.mk (Value.type "function") none (Data.func (FuncData.mk (Str.ofString "__init__") (Str.ofString "Fetch.__init__") (defArgs (inClass (topS 17) 0)) (.stmts (defBody (inClass (topS 17) 0))) (defScope (inClass (topS 17) 0)) 3 [] Value.none Value.none Value.none (Value.str (Str.ofString "sillwatch.giving.fetches") 364) none (Value.ref 141) Value.none 0)) #[]) ::
(nat_lit 143, Obj.mk (Value.type "tuple") none (Data.seq #[Value.str (Str.ofString "name") 394, Value.str (Str.ofString "octets") 395]) #[]) ::
(nat_lit 144, Obj.mk (Value.type "dict") none (Data.dict #[DictEntry.mk (PyData.keyHash PP (Str.ofString "__module__")) (Value.str (Str.ofString "__module__") 381) (Value.str (Str.ofString "sillwatch.giving.fetches") 364), DictEntry.mk (PyData.keyHash PP (Str.ofString "__firstlineno__")) (Value.str (Str.ofString "__firstlineno__") 385) (Value.int 65 384), DictEntry.mk (PyData.keyHash PP (Str.ofString "__init__")) (Value.str (Str.ofString "__init__") 393) (Value.ref 142), DictEntry.mk (PyData.keyHash PP (Str.ofString "__static_attributes__")) (Value.str (Str.ofString "__static_attributes__") 396) (Value.ref 143), DictEntry.mk (PyData.keyHash PP (Str.ofString "__dict__")) (Value.str (Str.ofString "__dict__") 398) (Value.ref 146), DictEntry.mk (PyData.keyHash PP (Str.ofString "__weakref__")) (Value.str (Str.ofString "__weakref__") 400) (Value.ref 147), DictEntry.mk (PyData.keyHash PP (Str.ofString "__doc__")) (Value.str (Str.ofString "__doc__") 401) Value.none] 4) #[]) ::
(nat_lit 145, Obj.mk (Value.type "type") none (Data.cls (ClassData.mk (Str.ofString "Fetch") [Value.type "object"] [Value.ref 145, Value.type "object"] 144 (Str.ofString "Fetch") true [] [] false none false)) #[none, none, some (Value.str (Str.ofString "Fetch") 374), some (Value.str (Str.ofString "Fetch") 382), some (Value.builtin "object.__new__"), some (Value.bool true)]) ::
(nat_lit 146, Obj.mk (Value.type "getset_descriptor") none (Data.fields #[Value.str (Str.ofString "__dict__") 397, Value.ref 145, Value.builtin "function.__dict__", Value.builtin "function.__dict__#set"]) #[]) ::
(nat_lit 147, Obj.mk (Value.type "getset_descriptor") none (Data.fields #[Value.str (Str.ofString "__weakref__") 399, Value.ref 145, Value.builtin "ExceptionGroup.__weakref__", Value.none]) #[]) ::
(nat_lit 157, Obj.mk (Value.type "tuple") none (Data.seq #[]) #[]) ::
(nat_lit 159, Obj.mk (Value.type "tuple") none (Data.seq #[Value.str (Str.ofString "self") 419, Value.str (Str.ofString "label") 420]) #[]) ::
(nat_lit 160, Obj.mk (Value.type "tuple") none (Data.seq #[]) #[]) ::
(nat_lit 162, Obj.mk (Value.type "code") none (Data.fields #[Value.str (Str.ofString "__init__") 416, Value.str (Str.ofString "Watch.__init__") 417, Value.str (Str.ofString "/claim/cut.py") 418, Value.int 72 0, Value.int 2 0, Value.int 0 0, Value.int 0 0, Value.int 3 0, Value.ref 157, Value.bool true, Value.int 181 0, Value.ref 158, Value.none, Value.ref 159, Value.ref 160, Value.ref 161, Value.int 421 0, Value.int 72 0, Value.str (Str.ofString "/claim/cut.py") 422]) #[]) ::
(nat_lit 163, Obj.mk (Value.type "function") none (Data.func (FuncData.mk (Str.ofString "__init__") (Str.ofString "Watch.__init__") (defArgs (inClass (topS 18) 0)) (.stmts (defBody (inClass (topS 18) 0))) (defScope (inClass (topS 18) 0)) 3 [] Value.none Value.none Value.none (Value.str (Str.ofString "sillwatch.giving.fetches") 364) none (Value.ref 162) Value.none 0)) #[]) ::
(nat_lit 164, Obj.mk (Value.type "tuple") none (Data.seq #[Value.str (Str.ofString "label") 424, Value.str (Str.ofString "told") 425]) #[]) ::
(nat_lit 165, Obj.mk (Value.type "dict") none (Data.dict #[DictEntry.mk (PyData.keyHash PP (Str.ofString "__module__")) (Value.str (Str.ofString "__module__") 411) (Value.str (Str.ofString "sillwatch.giving.fetches") 364), DictEntry.mk (PyData.keyHash PP (Str.ofString "__firstlineno__")) (Value.str (Str.ofString "__firstlineno__") 415) (Value.int 70 414), DictEntry.mk (PyData.keyHash PP (Str.ofString "__init__")) (Value.str (Str.ofString "__init__") 423) (Value.ref 163), DictEntry.mk (PyData.keyHash PP (Str.ofString "__static_attributes__")) (Value.str (Str.ofString "__static_attributes__") 426) (Value.ref 164), DictEntry.mk (PyData.keyHash PP (Str.ofString "__dict__")) (Value.str (Str.ofString "__dict__") 428) (Value.ref 167), DictEntry.mk (PyData.keyHash PP (Str.ofString "__weakref__")) (Value.str (Str.ofString "__weakref__") 430) (Value.ref 168), DictEntry.mk (PyData.keyHash PP (Str.ofString "__doc__")) (Value.str (Str.ofString "__doc__") 431) Value.none] 4) #[]) ::
(nat_lit 166, Obj.mk (Value.type "type") none (Data.cls (ClassData.mk (Str.ofString "Watch") [Value.type "object"] [Value.ref 166, Value.type "object"] 165 (Str.ofString "Watch") true [] [] false none false)) #[none, none, some (Value.str (Str.ofString "Watch") 404), some (Value.str (Str.ofString "Watch") 412), some (Value.builtin "object.__new__"), some (Value.bool true)]) ::
(nat_lit 167, Obj.mk (Value.type "getset_descriptor") none (Data.fields #[Value.str (Str.ofString "__dict__") 427, Value.ref 166, Value.builtin "function.__dict__", Value.builtin "function.__dict__#set"]) #[]) ::
(nat_lit 168, Obj.mk (Value.type "getset_descriptor") none (Data.fields #[Value.str (Str.ofString "__weakref__") 429, Value.ref 166, Value.builtin "ExceptionGroup.__weakref__", Value.none]) #[]) ::
(nat_lit 178, Obj.mk (Value.type "tuple") none (Data.seq #[]) #[]) ::
(nat_lit 180, Obj.mk (Value.type "tuple") none (Data.seq #[Value.str (Str.ofString "self") 449]) #[]) ::
(nat_lit 181, Obj.mk (Value.type "tuple") none (Data.seq #[]) #[]) ::
(nat_lit 183, Obj.mk (Value.type "code") none (Data.fields #[Value.str (Str.ofString "__init__") 446, Value.str (Str.ofString "Fetches.__init__") 447, Value.str (Str.ofString "/claim/cut.py") 448, Value.int 77 0, Value.int 1 0, Value.int 0 0, Value.int 0 0, Value.int 3 0, Value.ref 178, Value.bool true, Value.int 181 0, Value.ref 179, Value.none, Value.ref 180, Value.ref 181, Value.ref 182, Value.int 450 0, Value.int 77 0, Value.str (Str.ofString "/claim/cut.py") 451]) #[]) ::
(nat_lit 184, Obj.mk (Value.type "function") none (Data.func (FuncData.mk (Str.ofString "__init__") (Str.ofString "Fetches.__init__") (defArgs (inClass (topS 19) 0)) (.stmts (defBody (inClass (topS 19) 0))) (defScope (inClass (topS 19) 0)) 3 [] Value.none Value.none Value.none (Value.str (Str.ofString "sillwatch.giving.fetches") 364) none (Value.ref 183) Value.none 0)) #[]) ::
(nat_lit 185, Obj.mk (Value.type "tuple") none (Data.seq #[]) #[]) ::
(nat_lit 187, Obj.mk (Value.type "tuple") none (Data.seq #[Value.str (Str.ofString "self") 456, Value.str (Str.ofString "request") 457, Value.str (Str.ofString "number") 458, Value.str (Str.ofString "name") 459]) #[]) ::
(nat_lit 188, Obj.mk (Value.type "tuple") none (Data.seq #[]) #[]) ::
(nat_lit 190, Obj.mk (Value.type "code") none (Data.fields #[Value.str (Str.ofString "make_fetch") 453, Value.str (Str.ofString "Fetches.make_fetch") 454, Value.str (Str.ofString "/claim/cut.py") 455, Value.int 81 0, Value.int 2 0, Value.int 0 0, Value.int 0 0, Value.int 3 0, Value.ref 185, Value.bool true, Value.int 181 0, Value.ref 186, Value.none, Value.ref 187, Value.ref 188, Value.ref 189, Value.int 460 0, Value.int 81 0, Value.str (Str.ofString "/claim/cut.py") 461]) #[]) ::
(nat_lit 191, Obj.mk (Value.type "function") none (Data.func (FuncData.mk (Str.ofString "make_fetch") (Str.ofString "Fetches.make_fetch") (defArgs (inClass (topS 19) 1)) (.stmts (defBody (inClass (topS 19) 1))) (defScope (inClass (topS 19) 1)) 3 [] Value.none Value.none Value.none (Value.str (Str.ofString "sillwatch.giving.fetches") 364) none (Value.ref 190) Value.none 0)) #[]) ::
(nat_lit 192, Obj.mk (Value.type "tuple") none (Data.seq #[]) #[]) ::
(nat_lit 194, Obj.mk (Value.type "tuple") none (Data.seq #[Value.str (Str.ofString "self") 466, Value.str (Str.ofString "request") 467, Value.str (Str.ofString "number") 468, Value.str (Str.ofString "label") 469]) #[]) ::
(nat_lit 195, Obj.mk (Value.type "tuple") none (Data.seq #[]) #[]) ::
(nat_lit 197, Obj.mk (Value.type "code") none (Data.fields #[Value.str (Str.ofString "make_watch") 463, Value.str (Str.ofString "Fetches.make_watch") 464, Value.str (Str.ofString "/claim/cut.py") 465, Value.int 86 0, Value.int 2 0, Value.int 0 0, Value.int 0 0, Value.int 3 0, Value.ref 192, Value.bool true, Value.int 181 0, Value.ref 193, Value.none, Value.ref 194, Value.ref 195, Value.ref 196, Value.int 470 0, Value.int 86 0, Value.str (Str.ofString "/claim/cut.py") 471]) #[]) ::
(nat_lit 198, Obj.mk (Value.type "function") none (Data.func (FuncData.mk (Str.ofString "make_watch") (Str.ofString "Fetches.make_watch") (defArgs (inClass (topS 19) 2)) (.stmts (defBody (inClass (topS 19) 2))) (defScope (inClass (topS 19) 2)) 3 [] Value.none Value.none Value.none (Value.str (Str.ofString "sillwatch.giving.fetches") 364) none (Value.ref 197) Value.none 0)) #[]) ::
(nat_lit 199, Obj.mk (Value.type "tuple") none (Data.seq #[]) #[]) ::
(nat_lit 202, Obj.mk (Value.type "code") none (Data.fields #[Value.str (Str.ofString "names") 473, Value.str (Str.ofString "Fetches.names") 474, Value.str (Str.ofString "/claim/cut.py") 475, Value.int 91 0, Value.int 1 0, Value.int 0 0, Value.int 0 0, Value.int 3 0, Value.ref 199, Value.bool true, Value.int 181 0, Value.ref 200, Value.none, Value.none, Value.none, Value.ref 201, Value.int 476 0, Value.int 91 0, Value.str (Str.ofString "/claim/cut.py") 477]) #[]) ::
(nat_lit 203, Obj.mk (Value.type "function") none (Data.func (FuncData.mk (Str.ofString "names") (Str.ofString "Fetches.names") (defArgs (inClass (topS 19) 3)) (.stmts (defBody (inClass (topS 19) 3))) (defScope (inClass (topS 19) 3)) 3 [] Value.none Value.none Value.none (Value.str (Str.ofString "sillwatch.giving.fetches") 364) none (Value.ref 202) Value.none 0)) #[]) ::
(nat_lit 204, Obj.mk (Value.type "tuple") none (Data.seq #[]) #[]) ::
(nat_lit 206, Obj.mk (Value.type "tuple") none (Data.seq #[Value.str (Str.ofString "self") 482]) #[]) ::
(nat_lit 207, Obj.mk (Value.type "tuple") none (Data.seq #[]) #[]) ::
(nat_lit 209, Obj.mk (Value.type "code") none (Data.fields #[Value.str (Str.ofString "labels") 479, Value.str (Str.ofString "Fetches.labels") 480, Value.str (Str.ofString "/claim/cut.py") 481, Value.int 94 0, Value.int 1 0, Value.int 0 0, Value.int 0 0, Value.int 3 0, Value.ref 204, Value.bool true, Value.int 181 0, Value.ref 205, Value.none, Value.ref 206, Value.ref 207, Value.ref 208, Value.int 483 0, Value.int 94 0, Value.str (Str.ofString "/claim/cut.py") 484]) #[]) ::
(nat_lit 210, Obj.mk (Value.type "function") none (Data.func (FuncData.mk (Str.ofString "labels") (Str.ofString "Fetches.labels") (defArgs (inClass (topS 19) 4)) (.stmts (defBody (inClass (topS 19) 4))) (defScope (inClass (topS 19) 4)) 3 [] Value.none Value.none Value.none (Value.str (Str.ofString "sillwatch.giving.fetches") 364) none (Value.ref 209) Value.none 0)) #[]) ::
(nat_lit 211, Obj.mk (Value.type "tuple") none (Data.seq #[]) #[]) ::
(nat_lit 213, Obj.mk (Value.type "tuple") none (Data.seq #[Value.str (Str.ofString "self") 489, Value.str (Str.ofString "shared") 490, Value.str (Str.ofString "present") 491, Value.str (Str.ofString "reply") 492]) #[]) ::
(nat_lit 214, Obj.mk (Value.type "tuple") none (Data.seq #[]) #[]) ::
(nat_lit 216, Obj.mk (Value.type "code") none (Data.fields #[Value.str (Str.ofString "compare") 486, Value.str (Str.ofString "Fetches.compare") 487, Value.str (Str.ofString "/claim/cut.py") 488, Value.int 97 0, Value.int 4 0, Value.int 0 0, Value.int 0 0, Value.int 3 0, Value.ref 211, Value.bool true, Value.int 181 0, Value.ref 212, Value.none, Value.ref 213, Value.ref 214, Value.ref 215, Value.int 493 0, Value.int 97 0, Value.str (Str.ofString "/claim/cut.py") 494]) #[]) ::
(nat_lit 217, Obj.mk (Value.type "function") none (Data.func (FuncData.mk (Str.ofString "compare") (Str.ofString "Fetches.compare") (defArgs (inClass (topS 19) 5)) (.stmts (defBody (inClass (topS 19) 5))) (defScope (inClass (topS 19) 5)) 3 [] Value.none Value.none Value.none (Value.str (Str.ofString "sillwatch.giving.fetches") 364) none (Value.ref 216) Value.none 0)) #[]) ::
(nat_lit 218, Obj.mk (Value.type "tuple") none (Data.seq #[]) #[]) ::
(nat_lit 220, Obj.mk (Value.type "tuple") none (Data.seq #[Value.str (Str.ofString "self") 499, Value.str (Str.ofString "request") 500, Value.str (Str.ofString "reply") 501, Value.str (Str.ofString "begin") 502, Value.str (Str.ofString "length") 503, Value.str (Str.ofString "octets") 504]) #[]) ::
(nat_lit 221, Obj.mk (Value.type "tuple") none (Data.seq #[]) #[]) ::
(nat_lit 223, Obj.mk (Value.type "code") none (Data.fields #[Value.str (Str.ofString "read") 496, Value.str (Str.ofString "Fetches.read") 497, Value.str (Str.ofString "/claim/cut.py") 498, Value.int 100 0, Value.int 3 0, Value.int 0 0, Value.int 0 0, Value.int 3 0, Value.ref 218, Value.bool true, Value.int 181 0, Value.ref 219, Value.none, Value.ref 220, Value.ref 221, Value.ref 222, Value.int 505 0, Value.int 100 0, Value.str (Str.ofString "/claim/cut.py") 506]) #[]) ::
(nat_lit 224, Obj.mk (Value.type "function") none (Data.func (FuncData.mk (Str.ofString "read") (Str.ofString "Fetches.read") (defArgs (inClass (topS 19) 6)) (.stmts (defBody (inClass (topS 19) 6))) (defScope (inClass (topS 19) 6)) 3 [] Value.none Value.none Value.none (Value.str (Str.ofString "sillwatch.giving.fetches") 364) none (Value.ref 223) Value.none 0)) #[]) ::
(nat_lit 225, Obj.mk (Value.type "tuple") none (Data.seq #[]) #[]) ::
(nat_lit 227, Obj.mk (Value.type "tuple") none (Data.seq #[Value.str (Str.ofString "self") 511, Value.str (Str.ofString "number") 512]) #[]) ::
(nat_lit 228, Obj.mk (Value.type "tuple") none (Data.seq #[]) #[]) ::
(nat_lit 230, Obj.mk (Value.type "code") none (Data.fields #[Value.str (Str.ofString "forget") 508, Value.str (Str.ofString "Fetches.forget") 509, Value.str (Str.ofString "/claim/cut.py") 510, Value.int 107 0, Value.int 2 0, Value.int 0 0, Value.int 0 0, Value.int 3 0, Value.ref 225, Value.bool true, Value.int 181 0, Value.ref 226, Value.none, Value.ref 227, Value.ref 228, Value.ref 229, Value.int 513 0, Value.int 107 0, Value.str (Str.ofString "/claim/cut.py") 514]) #[]) ::
(nat_lit 231, Obj.mk (Value.type "function") none (Data.func (FuncData.mk (Str.ofString "forget") (Str.ofString "Fetches.forget") (defArgs (inClass (topS 19) 7)) (.stmts (defBody (inClass (topS 19) 7))) (defScope (inClass (topS 19) 7)) 3 [] Value.none Value.none Value.none (Value.str (Str.ofString "sillwatch.giving.fetches") 364) none (Value.ref 230) Value.none 0)) #[]) ::
(nat_lit 232, Obj.mk (Value.type "tuple") none (Data.seq #[Value.str (Str.ofString "_fetches") 516, Value.str (Str.ofString "_watches") 517]) #[]) ::
(nat_lit 233, Obj.mk (Value.type "dict") none (Data.dict #[DictEntry.mk (PyData.keyHash PP (Str.ofString "__module__")) (Value.str (Str.ofString "__module__") 441) (Value.str (Str.ofString "sillwatch.giving.fetches") 364), DictEntry.mk (PyData.keyHash PP (Str.ofString "__firstlineno__")) (Value.str (Str.ofString "__firstlineno__") 445) (Value.int 75 444), DictEntry.mk (PyData.keyHash PP (Str.ofString "__init__")) (Value.str (Str.ofString "__init__") 452) (Value.ref 184), DictEntry.mk (PyData.keyHash PP (Str.ofString "make_fetch")) (Value.str (Str.ofString "make_fetch") 462) (Value.ref 191), DictEntry.mk (PyData.keyHash PP (Str.ofString "make_watch")) (Value.str (Str.ofString "make_watch") 472) (Value.ref 198), DictEntry.mk (PyData.keyHash PP (Str.ofString "names")) (Value.str (Str.ofString "names") 478) (Value.ref 203), DictEntry.mk (PyData.keyHash PP (Str.ofString "labels")) (Value.str (Str.ofString "labels") 485) (Value.ref 210), DictEntry.mk (PyData.keyHash PP (Str.ofString "compare")) (Value.str (Str.ofString "compare") 495) (Value.ref 217), DictEntry.mk (PyData.keyHash PP (Str.ofString "read")) (Value.str (Str.ofString "read") 507) (Value.ref 224), DictEntry.mk (PyData.keyHash PP (Str.ofString "forget")) (Value.str (Str.ofString "forget") 515) (Value.ref 231), DictEntry.mk (PyData.keyHash PP (Str.ofString "__static_attributes__")) (Value.str (Str.ofString "__static_attributes__") 518) (Value.ref 232), DictEntry.mk (PyData.keyHash PP (Str.ofString "__dict__")) (Value.str (Str.ofString "__dict__") 520) (Value.ref 235), DictEntry.mk (PyData.keyHash PP (Str.ofString "__weakref__")) (Value.str (Str.ofString "__weakref__") 522) (Value.ref 236), DictEntry.mk (PyData.keyHash PP (Str.ofString "__doc__")) (Value.str (Str.ofString "__doc__") 523) Value.none] 4) #[]) ::
(nat_lit 234, Obj.mk (Value.type "type") none (Data.cls (ClassData.mk (Str.ofString "Fetches") [Value.type "object"] [Value.ref 234, Value.type "object"] 233 (Str.ofString "Fetches") true [] [] false none false)) #[none, none, some (Value.str (Str.ofString "Fetches") 434), some (Value.str (Str.ofString "Fetches") 442), some (Value.builtin "object.__new__"), some (Value.bool true)]) ::
(nat_lit 235, Obj.mk (Value.type "getset_descriptor") none (Data.fields #[Value.str (Str.ofString "__dict__") 519, Value.ref 234, Value.builtin "function.__dict__", Value.builtin "function.__dict__#set"]) #[]) ::
(nat_lit 236, Obj.mk (Value.type "getset_descriptor") none (Data.fields #[Value.str (Str.ofString "__weakref__") 521, Value.ref 234, Value.builtin "ExceptionGroup.__weakref__", Value.none]) #[]) ::
(nat_lit 239, Obj.mk (Value.type "tuple") none (Data.seq #[]) #[]) ::
(nat_lit 241, Obj.mk (Value.type "tuple") none (Data.seq #[Value.str (Str.ofString "request") 529, Value.str (Str.ofString "present") 530, Value.str (Str.ofString "most") 531]) #[]) ::
(nat_lit 242, Obj.mk (Value.type "tuple") none (Data.seq #[]) #[]) ::
(nat_lit 244, Obj.mk (Value.type "code") none (Data.fields #[Value.str (Str.ofString "_check_new") 526, Value.str (Str.ofString "_check_new") 527, Value.str (Str.ofString "/claim/cut.py") 528, Value.int 112 0, Value.int 3 0, Value.int 0 0, Value.int 0 0, Value.int 3 0, Value.ref 239, Value.bool true, Value.int 181 0, Value.ref 240, Value.none, Value.ref 241, Value.ref 242, Value.ref 243, Value.int 532 0, Value.int 112 0, Value.str (Str.ofString "/claim/cut.py") 533]) #[]) ::
(nat_lit 245, Obj.mk (Value.type "function") none (Data.func (FuncData.mk (Str.ofString "_check_new") (Str.ofString "_check_new") (defArgs (topS 20)) (.stmts (defBody (topS 20))) (defScope (topS 20)) 3 [] Value.none Value.none Value.none (Value.str (Str.ofString "sillwatch.giving.fetches") 364) none (Value.ref 244) Value.none 0)) #[]) ::
(nat_lit 253, Obj.mk (Value.type "tuple") none (Data.seq #[]) #[]) ::
(nat_lit 255, Obj.mk (Value.type "tuple") none (Data.seq #[Value.str (Str.ofString "self") 554]) #[]) ::
(nat_lit 256, Obj.mk (Value.type "tuple") none (Data.seq #[]) #[]) ::
(nat_lit 258, Obj.mk (Value.type "code") none (Data.fields #[Value.str (Str.ofString "__init__") 551, Value.str (Str.ofString "Offers.__init__") 552, Value.str (Str.ofString "/claim/cut.py") 553, Value.int 121 0, Value.int 1 0, Value.int 0 0, Value.int 0 0, Value.int 3 0, Value.ref 253, Value.bool true, Value.int 181 0, Value.ref 254, Value.none, Value.ref 255, Value.ref 256, Value.ref 257, Value.int 555 0, Value.int 121 0, Value.str (Str.ofString "/claim/cut.py") 556]) #[]) ::
(nat_lit 259, Obj.mk (Value.type "function") none (Data.func (FuncData.mk (Str.ofString "__init__") (Str.ofString "Offers.__init__") (defArgs (inClass (topS 23) 0)) (.stmts (defBody (inClass (topS 23) 0))) (defScope (inClass (topS 23) 0)) 3 [] Value.none Value.none Value.none (Value.str (Str.ofString "sillwatch.giving.offers") 535) none (Value.ref 258) Value.none 0)) #[]) ::
(nat_lit 260, Obj.mk (Value.type "tuple") none (Data.seq #[]) #[]) ::
(nat_lit 262, Obj.mk (Value.type "tuple") none (Data.seq #[Value.str (Str.ofString "self") 561, Value.str (Str.ofString "number") 562]) #[]) ::
(nat_lit 263, Obj.mk (Value.type "tuple") none (Data.seq #[]) #[]) ::
(nat_lit 265, Obj.mk (Value.type "code") none (Data.fields #[Value.str (Str.ofString "bound") 558, Value.str (Str.ofString "Offers.bound") 559, Value.str (Str.ofString "/claim/cut.py") 560, Value.int 126 0, Value.int 2 0, Value.int 0 0, Value.int 0 0, Value.int 3 0, Value.ref 260, Value.bool true, Value.int 181 0, Value.ref 261, Value.none, Value.ref 262, Value.ref 263, Value.ref 264, Value.int 563 0, Value.int 126 0, Value.str (Str.ofString "/claim/cut.py") 564]) #[]) ::
(nat_lit 266, Obj.mk (Value.type "function") none (Data.func (FuncData.mk (Str.ofString "bound") (Str.ofString "Offers.bound") (defArgs (inClass (topS 23) 1)) (.stmts (defBody (inClass (topS 23) 1))) (defScope (inClass (topS 23) 1)) 3 [] Value.none Value.none Value.none (Value.str (Str.ofString "sillwatch.giving.offers") 535) none (Value.ref 265) Value.none 0)) #[]) ::
(nat_lit 267, Obj.mk (Value.type "tuple") none (Data.seq #[]) #[]) ::
(nat_lit 269, Obj.mk (Value.type "tuple") none (Data.seq #[Value.str (Str.ofString "self") 569]) #[]) ::
(nat_lit 270, Obj.mk (Value.type "tuple") none (Data.seq #[]) #[]) ::
(nat_lit 272, Obj.mk (Value.type "code") none (Data.fields #[Value.str (Str.ofString "pane") 566, Value.str (Str.ofString "Offers.pane") 567, Value.str (Str.ofString "/claim/cut.py") 568, Value.int 129 0, Value.int 1 0, Value.int 0 0, Value.int 0 0, Value.int 3 0, Value.ref 267, Value.bool true, Value.int 181 0, Value.ref 268, Value.none, Value.ref 269, Value.ref 270, Value.ref 271, Value.int 570 0, Value.int 129 0, Value.str (Str.ofString "/claim/cut.py") 571]) #[]) ::
(nat_lit 273, Obj.mk (Value.type "function") none (Data.func (FuncData.mk (Str.ofString "pane") (Str.ofString "Offers.pane") (defArgs (inClass (topS 23) 2)) (.stmts (defBody (inClass (topS 23) 2))) (defScope (inClass (topS 23) 2)) 3 [] Value.none Value.none Value.none (Value.str (Str.ofString "sillwatch.giving.offers") 535) none (Value.ref 272) Value.none 0)) #[]) ::
(nat_lit 274, Obj.mk (Value.type "tuple") none (Data.seq #[]) #[]) ::
(nat_lit 276, Obj.mk (Value.type "tuple") none (Data.seq #[Value.str (Str.ofString "self") 576, Value.str (Str.ofString "number") 577]) #[]) ::
(nat_lit 277, Obj.mk (Value.type "tuple") none (Data.seq #[]) #[]) ::
(nat_lit 279, Obj.mk (Value.type "code") none (Data.fields #[Value.str (Str.ofString "forget") 573, Value.str (Str.ofString "Offers.forget") 574, Value.str (Str.ofString "/claim/cut.py") 575, Value.int 132 0, Value.int 2 0, Value.int 0 0, Value.int 0 0, Value.int 3 0, Value.ref 274, Value.bool true, Value.int 181 0, Value.ref 275, Value.none, Value.ref 276, Value.ref 277, Value.ref 278, Value.int 578 0, Value.int 132 0, Value.str (Str.ofString "/claim/cut.py") 579]) #[]) ::
(nat_lit 280, Obj.mk (Value.type "function") none (Data.func (FuncData.mk (Str.ofString "forget") (Str.ofString "Offers.forget") (defArgs (inClass (topS 23) 3)) (.stmts (defBody (inClass (topS 23) 3))) (defScope (inClass (topS 23) 3)) 3 [] Value.none Value.none Value.none (Value.str (Str.ofString "sillwatch.giving.offers") 535) none (Value.ref 279) Value.none 0)) #[]) ::
(nat_lit 281, Obj.mk (Value.type "tuple") none (Data.seq #[]) #[]) ::
(nat_lit 283, Obj.mk (Value.type "tuple") none (Data.seq #[Value.str (Str.ofString "self") 584, Value.str (Str.ofString "objects") 585, Value.str (Str.ofString "way") 586, Value.str (Str.ofString "goods") 587, Value.str (Str.ofString "reply") 588]) #[]) ::
(nat_lit 284, Obj.mk (Value.type "tuple") none (Data.seq #[]) #[]) ::
(nat_lit 286, Obj.mk (Value.type "code") none (Data.fields #[Value.str (Str.ofString "offered") 581, Value.str (Str.ofString "Offers.offered") 582, Value.str (Str.ofString "/claim/cut.py") 583, Value.int 138 0, Value.int 5 0, Value.int 0 0, Value.int 0 0, Value.int 3 0, Value.ref 281, Value.bool true, Value.int 181 0, Value.ref 282, Value.none, Value.ref 283, Value.ref 284, Value.ref 285, Value.int 589 0, Value.int 138 0, Value.str (Str.ofString "/claim/cut.py") 590]) #[]) ::
(nat_lit 287, Obj.mk (Value.type "function") none (Data.func (FuncData.mk (Str.ofString "offered") (Str.ofString "Offers.offered") (defArgs (inClass (topS 23) 4)) (.stmts (defBody (inClass (topS 23) 4))) (defScope (inClass (topS 23) 4)) 3 [] Value.none Value.none Value.none (Value.str (Str.ofString "sillwatch.giving.offers") 535) none (Value.ref 286) Value.none 0)) #[]) ::
(nat_lit 288, Obj.mk (Value.type "tuple") none (Data.seq #[]) #[]) ::
(nat_lit 290, Obj.mk (Value.type "tuple") none (Data.seq #[Value.str (Str.ofString "self") 595, Value.str (Str.ofString "request") 596, Value.str (Str.ofString "reply") 597, Value.str (Str.ofString "goods") 598, Value.str (Str.ofString "kind") 599, Value.str (Str.ofString "begin") 600, Value.str (Str.ofString "length") 601]) #[]) ::
(nat_lit 291, Obj.mk (Value.type "tuple") none (Data.seq #[]) #[]) ::
(nat_lit 293, Obj.mk (Value.type "code") none (Data.fields #[Value.str (Str.ofString "read") 592, Value.str (Str.ofString "Offers.read") 593, Value.str (Str.ofString "/claim/cut.py") 594, Value.int 141 0, Value.int 3 0, Value.int 0 0, Value.int 0 0, Value.int 3 0, Value.ref 288, Value.bool true, Value.int 181 0, Value.ref 289, Value.none, Value.ref 290, Value.ref 291, Value.ref 292, Value.int 602 0, Value.int 141 0, Value.str (Str.ofString "/claim/cut.py") 603]) #[]) ::
(nat_lit 294, Obj.mk (Value.type "function") none (Data.func (FuncData.mk (Str.ofString "read") (Str.ofString "Offers.read") (defArgs (inClass (topS 23) 5)) (.stmts (defBody (inClass (topS 23) 5))) (defScope (inClass (topS 23) 5)) 3 [] Value.none Value.none Value.none (Value.str (Str.ofString "sillwatch.giving.offers") 535) none (Value.ref 293) Value.none 0)) #[]) ::
(nat_lit 295, Obj.mk (Value.type "tuple") none (Data.seq #[]) #[]) ::
(nat_lit 297, Obj.mk (Value.type "tuple") none (Data.seq #[Value.str (Str.ofString "self") 608, Value.str (Str.ofString "surface") 609, Value.str (Str.ofString "x") 610, Value.str (Str.ofString "y") 611, Value.str (Str.ofString "goods") 612, Value.str (Str.ofString "reply") 613]) #[]) ::
(nat_lit 298, Obj.mk (Value.type "tuple") none (Data.seq #[]) #[]) ::
(nat_lit 300, Obj.mk (Value.type "code") none (Data.fields #[Value.str (Str.ofString "hovers") 605, Value.str (Str.ofString "Offers.hovers") 606, Value.str (Str.ofString "/claim/cut.py") 607, Value.int 152 0, Value.int 6 0, Value.int 0 0, Value.int 0 0, Value.int 3 0, Value.ref 295, Value.bool true, Value.int 181 0, Value.ref 296, Value.none, Value.ref 297, Value.ref 298, Value.ref 299, Value.int 614 0, Value.int 152 0, Value.str (Str.ofString "/claim/cut.py") 615]) #[]) ::
(nat_lit 301, Obj.mk (Value.type "function") none (Data.func (FuncData.mk (Str.ofString "hovers") (Str.ofString "Offers.hovers") (defArgs (inClass (topS 23) 6)) (.stmts (defBody (inClass (topS 23) 6))) (defScope (inClass (topS 23) 6)) 3 [] Value.none Value.none Value.none (Value.str (Str.ofString "sillwatch.giving.offers") 535) none (Value.ref 300) Value.none 0)) #[]) ::
(nat_lit 302, Obj.mk (Value.type "tuple") none (Data.seq #[]) #[]) ::
(nat_lit 304, Obj.mk (Value.type "tuple") none (Data.seq #[Value.str (Str.ofString "self") 620, Value.str (Str.ofString "time") 621, Value.str (Str.ofString "x") 622, Value.str (Str.ofString "y") 623, Value.str (Str.ofString "reply") 624]) #[]) ::
(nat_lit 305, Obj.mk (Value.type "tuple") none (Data.seq #[]) #[]) ::
(nat_lit 307, Obj.mk (Value.type "code") none (Data.fields #[Value.str (Str.ofString "moves") 617, Value.str (Str.ofString "Offers.moves") 618, Value.str (Str.ofString "/claim/cut.py") 619, Value.int 155 0, Value.int 5 0, Value.int 0 0, Value.int 0 0, Value.int 3 0, Value.ref 302, Value.bool true, Value.int 181 0, Value.ref 303, Value.none, Value.ref 304, Value.ref 305, Value.ref 306, Value.int 625 0, Value.int 155 0, Value.str (Str.ofString "/claim/cut.py") 626]) #[]) ::
(nat_lit 308, Obj.mk (Value.type "function") none (Data.func (FuncData.mk (Str.ofString "moves") (Str.ofString "Offers.moves") (defArgs (inClass (topS 23) 7)) (.stmts (defBody (inClass (topS 23) 7))) (defScope (inClass (topS 23) 7)) 3 [] Value.none Value.none Value.none (Value.str (Str.ofString "sillwatch.giving.offers") 535) none (Value.ref 307) Value.none 0)) #[]) ::
(nat_lit 309, Obj.mk (Value.type "tuple") none (Data.seq #[]) #[]) ::
(nat_lit 311, Obj.mk (Value.type "tuple") none (Data.seq #[Value.str (Str.ofString "self") 631, Value.str (Str.ofString "reply") 632]) #[]) ::
(nat_lit 312, Obj.mk (Value.type "tuple") none (Data.seq #[]) #[]) ::
(nat_lit 314, Obj.mk (Value.type "code") none (Data.fields #[Value.str (Str.ofString "leaves") 628, Value.str (Str.ofString "Offers.leaves") 629, Value.str (Str.ofString "/claim/cut.py") 630, Value.int 158 0, Value.int 2 0, Value.int 0 0, Value.int 0 0, Value.int 3 0, Value.ref 309, Value.bool true, Value.int 181 0, Value.ref 310, Value.none, Value.ref 311, Value.ref 312, Value.ref 313, Value.int 633 0, Value.int 158 0, Value.str (Str.ofString "/claim/cut.py") 634]) #[]) ::
(nat_lit 315, Obj.mk (Value.type "function") none (Data.func (FuncData.mk (Str.ofString "leaves") (Str.ofString "Offers.leaves") (defArgs (inClass (topS 23) 8)) (.stmts (defBody (inClass (topS 23) 8))) (defScope (inClass (topS 23) 8)) 3 [] Value.none Value.none Value.none (Value.str (Str.ofString "sillwatch.giving.offers") 535) none (Value.ref 314) Value.none 0)) #[]) ::
(nat_lit 316, Obj.mk (Value.type "tuple") none (Data.seq #[]) #[]) ::
(nat_lit 318, Obj.mk (Value.type "tuple") none (Data.seq #[Value.str (Str.ofString "self") 639]) #[]) ::
(nat_lit 319, Obj.mk (Value.type "tuple") none (Data.seq #[]) #[]) ::
(nat_lit 321, Obj.mk (Value.type "code") none (Data.fields #[Value.str (Str.ofString "dropped") 636, Value.str (Str.ofString "Offers.dropped") 637, Value.str (Str.ofString "/claim/cut.py") 638, Value.int 161 0, Value.int 1 0, Value.int 0 0, Value.int 0 0, Value.int 3 0, Value.ref 316, Value.bool true, Value.int 181 0, Value.ref 317, Value.none, Value.ref 318, Value.ref 319, Value.ref 320, Value.int 640 0, Value.int 161 0, Value.str (Str.ofString "/claim/cut.py") 641]) #[]) ::
(nat_lit 322, Obj.mk (Value.type "function") none (Data.func (FuncData.mk (Str.ofString "dropped") (Str.ofString "Offers.dropped") (defArgs (inClass (topS 23) 9)) (.stmts (defBody (inClass (topS 23) 9))) (defScope (inClass (topS 23) 9)) 3 [] Value.none Value.none Value.none (Value.str (Str.ofString "sillwatch.giving.offers") 535) none (Value.ref 321) Value.none 0)) #[]) ::
(nat_lit 323, Obj.mk (Value.type "tuple") none (Data.seq #[Value.str (Str.ofString "_is_hovered") 643, Value.str (Str.ofString "_kept") 644, Value.str (Str.ofString "_transfers") 645]) #[]) ::
(nat_lit 324, Obj.mk (Value.type "dict") none (Data.dict #[DictEntry.mk (PyData.keyHash PP (Str.ofString "__module__")) (Value.str (Str.ofString "__module__") 546) (Value.str (Str.ofString "sillwatch.giving.offers") 535), DictEntry.mk (PyData.keyHash PP (Str.ofString "__firstlineno__")) (Value.str (Str.ofString "__firstlineno__") 550) (Value.int 119 549), DictEntry.mk (PyData.keyHash PP (Str.ofString "__init__")) (Value.str (Str.ofString "__init__") 557) (Value.ref 259), DictEntry.mk (PyData.keyHash PP (Str.ofString "bound")) (Value.str (Str.ofString "bound") 565) (Value.ref 266), DictEntry.mk (PyData.keyHash PP (Str.ofString "pane")) (Value.str (Str.ofString "pane") 572) (Value.ref 273), DictEntry.mk (PyData.keyHash PP (Str.ofString "forget")) (Value.str (Str.ofString "forget") 580) (Value.ref 280), DictEntry.mk (PyData.keyHash PP (Str.ofString "offered")) (Value.str (Str.ofString "offered") 591) (Value.ref 287), DictEntry.mk (PyData.keyHash PP (Str.ofString "read")) (Value.str (Str.ofString "read") 604) (Value.ref 294), DictEntry.mk (PyData.keyHash PP (Str.ofString "hovers")) (Value.str (Str.ofString "hovers") 616) (Value.ref 301), DictEntry.mk (PyData.keyHash PP (Str.ofString "moves")) (Value.str (Str.ofString "moves") 627) (Value.ref 308), DictEntry.mk (PyData.keyHash PP (Str.ofString "leaves")) (Value.str (Str.ofString "leaves") 635) (Value.ref 315), DictEntry.mk (PyData.keyHash PP (Str.ofString "dropped")) (Value.str (Str.ofString "dropped") 642) (Value.ref 322), DictEntry.mk (PyData.keyHash PP (Str.ofString "__static_attributes__")) (Value.str (Str.ofString "__static_attributes__") 646) (Value.ref 323), DictEntry.mk (PyData.keyHash PP (Str.ofString "__dict__")) (Value.str (Str.ofString "__dict__") 648) (Value.ref 326), DictEntry.mk (PyData.keyHash PP (Str.ofString "__weakref__")) (Value.str (Str.ofString "__weakref__") 650) (Value.ref 327), DictEntry.mk (PyData.keyHash PP (Str.ofString "__doc__")) (Value.str (Str.ofString "__doc__") 651) Value.none] 4) #[]) ::
(nat_lit 325, Obj.mk (Value.type "type") none (Data.cls (ClassData.mk (Str.ofString "Offers") [Value.type "object"] [Value.ref 325, Value.type "object"] 324 (Str.ofString "Offers") true [] [] false none false)) #[none, none, some (Value.str (Str.ofString "Offers") 539), some (Value.str (Str.ofString "Offers") 547), some (Value.builtin "object.__new__"), some (Value.bool true)]) ::
(nat_lit 326, Obj.mk (Value.type "getset_descriptor") none (Data.fields #[Value.str (Str.ofString "__dict__") 647, Value.ref 325, Value.builtin "function.__dict__", Value.builtin "function.__dict__#set"]) #[]) ::
(nat_lit 327, Obj.mk (Value.type "getset_descriptor") none (Data.fields #[Value.str (Str.ofString "__weakref__") 649, Value.ref 325, Value.builtin "ExceptionGroup.__weakref__", Value.none]) #[]) ::
(nat_lit 337, Obj.mk (Value.type "tuple") none (Data.seq #[]) #[]) ::
(nat_lit 339, Obj.mk (Value.type "tuple") none (Data.seq #[Value.str (Str.ofString "self") 679]) #[]) ::
(nat_lit 340, Obj.mk (Value.type "tuple") none (Data.seq #[]) #[]) ::
(nat_lit 342, Obj.mk (Value.type "code") none (Data.fields #[Value.str (Str.ofString "__init__") 676, Value.str (Str.ofString "Source.__init__") 677, Value.str (Str.ofString "/claim/cut.py") 678, Value.int 170 0, Value.int 1 0, Value.int 0 0, Value.int 0 0, Value.int 3 0, Value.ref 337, Value.bool true, Value.int 181 0, Value.ref 338, Value.none, Value.ref 339, Value.ref 340, Value.ref 341, Value.int 680 0, Value.int 170 0, Value.str (Str.ofString "/claim/cut.py") 681]) #[]) ::
(nat_lit 343, Obj.mk (Value.type "function") none (Data.func (FuncData.mk (Str.ofString "__init__") (Str.ofString "Source.__init__") (defArgs (inClass (topS 29) 0)) (.stmts (defBody (inClass (topS 29) 0))) (defScope (inClass (topS 29) 0)) 3 [] Value.none Value.none Value.none (Value.str (Str.ofString "sillwatch.giving.sources") 654) none (Value.ref 342) Value.none 0)) #[]) ::
(nat_lit 344, Obj.mk (Value.type "tuple") none (Data.seq #[Value.str (Str.ofString "is_used") 683, Value.str (Str.ofString "pieces") 684]) #[]) ::
(nat_lit 345, Obj.mk (Value.type "dict") none (Data.dict #[DictEntry.mk (PyData.keyHash PP (Str.ofString "__module__")) (Value.str (Str.ofString "__module__") 671) (Value.str (Str.ofString "sillwatch.giving.sources") 654), DictEntry.mk (PyData.keyHash PP (Str.ofString "__firstlineno__")) (Value.str (Str.ofString "__firstlineno__") 675) (Value.int 168 674), DictEntry.mk (PyData.keyHash PP (Str.ofString "__init__")) (Value.str (Str.ofString "__init__") 682) (Value.ref 343), DictEntry.mk (PyData.keyHash PP (Str.ofString "__static_attributes__")) (Value.str (Str.ofString "__static_attributes__") 685) (Value.ref 344), DictEntry.mk (PyData.keyHash PP (Str.ofString "__dict__")) (Value.str (Str.ofString "__dict__") 687) (Value.ref 347), DictEntry.mk (PyData.keyHash PP (Str.ofString "__weakref__")) (Value.str (Str.ofString "__weakref__") 689) (Value.ref 348), DictEntry.mk (PyData.keyHash PP (Str.ofString "__doc__")) (Value.str (Str.ofString "__doc__") 690) Value.none] 4) #[]) ::
(nat_lit 346, Obj.mk (Value.type "type") none (Data.cls (ClassData.mk (Str.ofString "Source") [Value.type "object"] [Value.ref 346, Value.type "object"] 345 (Str.ofString "Source") true [] [] false none false)) #[none, none, some (Value.str (Str.ofString "Source") 664), some (Value.str (Str.ofString "Source") 672), some (Value.builtin "object.__new__"), some (Value.bool true)]) ::
(nat_lit 347, Obj.mk (Value.type "getset_descriptor") none (Data.fields #[Value.str (Str.ofString "__dict__") 686, Value.ref 346, Value.builtin "function.__dict__", Value.builtin "function.__dict__#set"]) #[]) ::
(nat_lit 348, Obj.mk (Value.type "getset_descriptor") none (Data.fields #[Value.str (Str.ofString "__weakref__") 688, Value.ref 346, Value.builtin "ExceptionGroup.__weakref__", Value.none]) #[]) ::
(nat_lit 358, Obj.mk (Value.type "tuple") none (Data.seq #[]) #[]) ::
(nat_lit 360, Obj.mk (Value.type "tuple") none (Data.seq #[Value.str (Str.ofString "self") 708]) #[]) ::
(nat_lit 361, Obj.mk (Value.type "tuple") none (Data.seq #[]) #[]) ::
(nat_lit 363, Obj.mk (Value.type "code") none (Data.fields #[Value.str (Str.ofString "__init__") 705, Value.str (Str.ofString "Sources.__init__") 706, Value.str (Str.ofString "/claim/cut.py") 707, Value.int 175 0, Value.int 1 0, Value.int 0 0, Value.int 0 0, Value.int 3 0, Value.ref 358, Value.bool true, Value.int 181 0, Value.ref 359, Value.none, Value.ref 360, Value.ref 361, Value.ref 362, Value.int 709 0, Value.int 175 0, Value.str (Str.ofString "/claim/cut.py") 710]) #[]) ::
(nat_lit 364, Obj.mk (Value.type "function") none (Data.func (FuncData.mk (Str.ofString "__init__") (Str.ofString "Sources.__init__") (defArgs (inClass (topS 30) 0)) (.stmts (defBody (inClass (topS 30) 0))) (defScope (inClass (topS 30) 0)) 3 [] Value.none Value.none Value.none (Value.str (Str.ofString "sillwatch.giving.sources") 654) none (Value.ref 363) Value.none 0)) #[]) ::
(nat_lit 365, Obj.mk (Value.type "tuple") none (Data.seq #[]) #[]) ::
(nat_lit 367, Obj.mk (Value.type "tuple") none (Data.seq #[Value.str (Str.ofString "self") 715, Value.str (Str.ofString "request") 716]) #[]) ::
(nat_lit 368, Obj.mk (Value.type "tuple") none (Data.seq #[]) #[]) ::
(nat_lit 370, Obj.mk (Value.type "code") none (Data.fields #[Value.str (Str.ofString "make") 712, Value.str (Str.ofString "Sources.make") 713, Value.str (Str.ofString "/claim/cut.py") 714, Value.int 178 0, Value.int 2 0, Value.int 0 0, Value.int 0 0, Value.int 3 0, Value.ref 365, Value.bool true, Value.int 181 0, Value.ref 366, Value.none, Value.ref 367, Value.ref 368, Value.ref 369, Value.int 717 0, Value.int 178 0, Value.str (Str.ofString "/claim/cut.py") 718]) #[]) ::
(nat_lit 371, Obj.mk (Value.type "function") none (Data.func (FuncData.mk (Str.ofString "make") (Str.ofString "Sources.make") (defArgs (inClass (topS 30) 1)) (.stmts (defBody (inClass (topS 30) 1))) (defScope (inClass (topS 30) 1)) 3 [] Value.none Value.none Value.none (Value.str (Str.ofString "sillwatch.giving.sources") 654) none (Value.ref 370) Value.none 0)) #[]) ::
(nat_lit 372, Obj.mk (Value.type "tuple") none (Data.seq #[]) #[]) ::
(nat_lit 375, Obj.mk (Value.type "code") none (Data.fields #[Value.str (Str.ofString "write") 720, Value.str (Str.ofString "Sources.write") 721, Value.str (Str.ofString "/claim/cut.py") 722, Value.int 183 0, Value.int 2 0, Value.int 0 0, Value.int 0 0, Value.int 3 0, Value.ref 372, Value.bool true, Value.int 181 0, Value.ref 373, Value.none, Value.none, Value.none, Value.ref 374, Value.int 723 0, Value.int 183 0, Value.str (Str.ofString "/claim/cut.py") 724]) #[]) ::
(nat_lit 376, Obj.mk (Value.type "function") none (Data.func (FuncData.mk (Str.ofString "write") (Str.ofString "Sources.write") (defArgs (inClass (topS 30) 2)) (.stmts (defBody (inClass (topS 30) 2))) (defScope (inClass (topS 30) 2)) 3 [] Value.none Value.none Value.none (Value.str (Str.ofString "sillwatch.giving.sources") 654) none (Value.ref 375) Value.none 0)) #[]) ::
(nat_lit 377, Obj.mk (Value.type "tuple") none (Data.seq #[]) #[]) ::
(nat_lit 379, Obj.mk (Value.type "tuple") none (Data.seq #[Value.str (Str.ofString "self") 729, Value.str (Str.ofString "number") 730]) #[]) ::
(nat_lit 380, Obj.mk (Value.type "tuple") none (Data.seq #[]) #[]) ::
(nat_lit 382, Obj.mk (Value.type "code") none (Data.fields #[Value.str (Str.ofString "is_used") 726, Value.str (Str.ofString "Sources.is_used") 727, Value.str (Str.ofString "/claim/cut.py") 728, Value.int 197 0, Value.int 2 0, Value.int 0 0, Value.int 0 0, Value.int 3 0, Value.ref 377, Value.bool true, Value.int 181 0, Value.ref 378, Value.none, Value.ref 379, Value.ref 380, Value.ref 381, Value.int 731 0, Value.int 197 0, Value.str (Str.ofString "/claim/cut.py") 732]) #[]) ::
(nat_lit 383, Obj.mk (Value.type "function") none (Data.func (FuncData.mk (Str.ofString "is_used") (Str.ofString "Sources.is_used") (defArgs (inClass (topS 30) 3)) (.stmts (defBody (inClass (topS 30) 3))) (defScope (inClass (topS 30) 3)) 3 [] Value.none Value.none Value.none (Value.str (Str.ofString "sillwatch.giving.sources") 654) none (Value.ref 382) Value.none 0)) #[]) ::
(nat_lit 384, Obj.mk (Value.type "tuple") none (Data.seq #[]) #[]) ::
(nat_lit 387, Obj.mk (Value.type "code") none (Data.fields #[Value.str (Str.ofString "use_up") 734, Value.str (Str.ofString "Sources.use_up") 735, Value.str (Str.ofString "/claim/cut.py") 736, Value.int 200 0, Value.int 2 0, Value.int 0 0, Value.int 0 0, Value.int 3 0, Value.ref 384, Value.bool true, Value.int 181 0, Value.ref 385, Value.none, Value.none, Value.none, Value.ref 386, Value.int 737 0, Value.int 200 0, Value.str (Str.ofString "/claim/cut.py") 738]) #[]) ::
(nat_lit 388, Obj.mk (Value.type "function") none (Data.func (FuncData.mk (Str.ofString "use_up") (Str.ofString "Sources.use_up") (defArgs (inClass (topS 30) 4)) (.stmts (defBody (inClass (topS 30) 4))) (defScope (inClass (topS 30) 4)) 3 [] Value.none Value.none Value.none (Value.str (Str.ofString "sillwatch.giving.sources") 654) none (Value.ref 387) Value.none 0)) #[]) ::
(nat_lit 389, Obj.mk (Value.type "tuple") none (Data.seq #[]) #[]) ::
(nat_lit 391, Obj.mk (Value.type "tuple") none (Data.seq #[Value.str (Str.ofString "self") 743, Value.str (Str.ofString "number") 744]) #[]) ::
(nat_lit 392, Obj.mk (Value.type "tuple") none (Data.seq #[]) #[]) ::
(nat_lit 394, Obj.mk (Value.type "code") none (Data.fields #[Value.str (Str.ofString "forget") 740, Value.str (Str.ofString "Sources.forget") 741, Value.str (Str.ofString "/claim/cut.py") 742, Value.int 205 0, Value.int 2 0, Value.int 0 0, Value.int 0 0, Value.int 3 0, Value.ref 389, Value.bool true, Value.int 181 0, Value.ref 390, Value.none, Value.ref 391, Value.ref 392, Value.ref 393, Value.int 745 0, Value.int 205 0, Value.str (Str.ofString "/claim/cut.py") 746]) #[]) ::
(nat_lit 395, Obj.mk (Value.type "function") none (Data.func (FuncData.mk (Str.ofString "forget") (Str.ofString "Sources.forget") (defArgs (inClass (topS 30) 5)) (.stmts (defBody (inClass (topS 30) 5))) (defScope (inClass (topS 30) 5)) 3 [] Value.none Value.none Value.none (Value.str (Str.ofString "sillwatch.giving.sources") 654) none (Value.ref 394) Value.none 0)) #[]) ::
(nat_lit 396, Obj.mk (Value.type "tuple") none (Data.seq #[]) #[]) ::
(nat_lit 399, Obj.mk (Value.type "code") none (Data.fields #[Value.str (Str.ofString "_fresh") 748, Value.str (Str.ofString "Sources._fresh") 749, Value.str (Str.ofString "/claim/cut.py") 750, Value.int 209 0, Value.int 1 0, Value.int 0 0, Value.int 0 0, Value.int 3 0, Value.ref 396, Value.bool true, Value.int 181 0, Value.ref 397, Value.none, Value.none, Value.none, Value.ref 398, Value.int 751 0, Value.int 209 0, Value.str (Str.ofString "/claim/cut.py") 752]) #[]) ::
(nat_lit 400, Obj.mk (Value.type "function") none (Data.func (FuncData.mk (Str.ofString "_fresh") (Str.ofString "Sources._fresh") (defArgs (inClass (topS 30) 6)) (.stmts (defBody (inClass (topS 30) 6))) (defScope (inClass (topS 30) 6)) 3 [] Value.none Value.none Value.none (Value.str (Str.ofString "sillwatch.giving.sources") 654) none (Value.ref 399) Value.none 0)) #[]) ::
(nat_lit 401, Obj.mk (Value.type "tuple") none (Data.seq #[Value.str (Str.ofString "_sources") 754]) #[]) ::
(nat_lit 402, Obj.mk (Value.type "dict") none (Data.dict #[DictEntry.mk (PyData.keyHash PP (Str.ofString "__module__")) (Value.str (Str.ofString "__module__") 700) (Value.str (Str.ofString "sillwatch.giving.sources") 654), DictEntry.mk (PyData.keyHash PP (Str.ofString "__firstlineno__")) (Value.str (Str.ofString "__firstlineno__") 704) (Value.int 173 703), DictEntry.mk (PyData.keyHash PP (Str.ofString "__init__")) (Value.str (Str.ofString "__init__") 711) (Value.ref 364), DictEntry.mk (PyData.keyHash PP (Str.ofString "make")) (Value.str (Str.ofString "make") 719) (Value.ref 371), DictEntry.mk (PyData.keyHash PP (Str.ofString "write")) (Value.str (Str.ofString "write") 725) (Value.ref 376), DictEntry.mk (PyData.keyHash PP (Str.ofString "is_used")) (Value.str (Str.ofString "is_used") 733) (Value.ref 383), DictEntry.mk (PyData.keyHash PP (Str.ofString "use_up")) (Value.str (Str.ofString "use_up") 739) (Value.ref 388), DictEntry.mk (PyData.keyHash PP (Str.ofString "forget")) (Value.str (Str.ofString "forget") 747) (Value.ref 395), DictEntry.mk (PyData.keyHash PP (Str.ofString "_fresh")) (Value.str (Str.ofString "_fresh") 753) (Value.ref 400), DictEntry.mk (PyData.keyHash PP (Str.ofString "__static_attributes__")) (Value.str (Str.ofString "__static_attributes__") 755) (Value.ref 401), DictEntry.mk (PyData.keyHash PP (Str.ofString "__dict__")) (Value.str (Str.ofString "__dict__") 757) (Value.ref 404), DictEntry.mk (PyData.keyHash PP (Str.ofString "__weakref__")) (Value.str (Str.ofString "__weakref__") 759) (Value.ref 405), DictEntry.mk (PyData.keyHash PP (Str.ofString "__doc__")) (Value.str (Str.ofString "__doc__") 760) Value.none] 4) #[]) ::
(nat_lit 403, Obj.mk (Value.type "type") none (Data.cls (ClassData.mk (Str.ofString "Sources") [Value.type "object"] [Value.ref 403, Value.type "object"] 402 (Str.ofString "Sources") true [] [] false none false)) #[none, none, some (Value.str (Str.ofString "Sources") 693), some (Value.str (Str.ofString "Sources") 701), some (Value.builtin "object.__new__"), some (Value.bool true)]) ::
(nat_lit 404, Obj.mk (Value.type "getset_descriptor") none (Data.fields #[Value.str (Str.ofString "__dict__") 756, Value.ref 403, Value.builtin "function.__dict__", Value.builtin "function.__dict__#set"]) #[]) ::
(nat_lit 405, Obj.mk (Value.type "getset_descriptor") none (Data.fields #[Value.str (Str.ofString "__weakref__") 758, Value.ref 403, Value.builtin "ExceptionGroup.__weakref__", Value.none]) #[]) ::
(nat_lit 415, Obj.mk (Value.type "tuple") none (Data.seq #[]) #[]) ::
(nat_lit 417, Obj.mk (Value.type "tuple") none (Data.seq #[Value.str (Str.ofString "self") 784]) #[]) ::
(nat_lit 418, Obj.mk (Value.type "tuple") none (Data.seq #[]) #[]) ::
(nat_lit 420, Obj.mk (Value.type "code") none (Data.fields #[Value.str (Str.ofString "__init__") 781, Value.str (Str.ofString "Holdings.__init__") 782, Value.str (Str.ofString "/claim/cut.py") 783, Value.int 216 0, Value.int 1 0, Value.int 0 0, Value.int 0 0, Value.int 3 0, Value.ref 415, Value.bool true, Value.int 181 0, Value.ref 416, Value.none, Value.ref 417, Value.ref 418, Value.ref 419, Value.int 785 0, Value.int 216 0, Value.str (Str.ofString "/claim/cut.py") 786]) #[]) ::
(nat_lit 421, Obj.mk (Value.type "function") none (Data.func (FuncData.mk (Str.ofString "__init__") (Str.ofString "Holdings.__init__") (defArgs (inClass (topS 34) 0)) (.stmts (defBody (inClass (topS 34) 0))) (defScope (inClass (topS 34) 0)) 3 [] Value.none Value.none Value.none (Value.str (Str.ofString "sillwatch.giving.holdings") 763) none (Value.ref 420) Value.none 0)) #[]) ::
(nat_lit 422, Obj.mk (Value.type "tuple") none (Data.seq #[]) #[]) ::
(nat_lit 424, Obj.mk (Value.type "tuple") none (Data.seq #[Value.str (Str.ofString "self") 791, Value.str (Str.ofString "request") 792, Value.str (Str.ofString "grant") 793, Value.str (Str.ofString "gripped") 794, Value.str (Str.ofString "dragging") 795, Value.str (Str.ofString "reply") 796]) #[]) ::
(nat_lit 425, Obj.mk (Value.type "tuple") none (Data.seq #[]) #[]) ::
(nat_lit 427, Obj.mk (Value.type "code") none (Data.fields #[Value.str (Str.ofString "serve") 788, Value.str (Str.ofString "Holdings.serve") 789, Value.str (Str.ofString "/claim/cut.py") 790, Value.int 223 0, Value.int 6 0, Value.int 0 0, Value.int 0 0, Value.int 3 0, Value.ref 422, Value.bool true, Value.int 181 0, Value.ref 423, Value.none, Value.ref 424, Value.ref 425, Value.ref 426, Value.int 797 0, Value.int 223 0, Value.str (Str.ofString "/claim/cut.py") 798]) #[]) ::
(nat_lit 428, Obj.mk (Value.type "function") none (Data.func (FuncData.mk (Str.ofString "serve") (Str.ofString "Holdings.serve") (defArgs (inClass (topS 34) 1)) (.stmts (defBody (inClass (topS 34) 1))) (defScope (inClass (topS 34) 1)) 3 [] Value.none Value.none Value.none (Value.str (Str.ofString "sillwatch.giving.holdings") 763) none (Value.ref 427) Value.none 0)) #[]) ::
(nat_lit 429, Obj.mk (Value.type "tuple") none (Data.seq #[]) #[]) ::
(nat_lit 431, Obj.mk (Value.type "tuple") none (Data.seq #[Value.str (Str.ofString "self") 803, Value.str (Str.ofString "number") 804]) #[]) ::
(nat_lit 432, Obj.mk (Value.type "tuple") none (Data.seq #[]) #[]) ::
(nat_lit 434, Obj.mk (Value.type "code") none (Data.fields #[Value.str (Str.ofString "bound") 800, Value.str (Str.ofString "Holdings.bound") 801, Value.str (Str.ofString "/claim/cut.py") 802, Value.int 237 0, Value.int 2 0, Value.int 0 0, Value.int 0 0, Value.int 3 0, Value.ref 429, Value.bool true, Value.int 181 0, Value.ref 430, Value.none, Value.ref 431, Value.ref 432, Value.ref 433, Value.int 805 0, Value.int 237 0, Value.str (Str.ofString "/claim/cut.py") 806]) #[]) ::
(nat_lit 435, Obj.mk (Value.type "function") none (Data.func (FuncData.mk (Str.ofString "bound") (Str.ofString "Holdings.bound") (defArgs (inClass (topS 34) 2)) (.stmts (defBody (inClass (topS 34) 2))) (defScope (inClass (topS 34) 2)) 3 [] Value.none Value.none Value.none (Value.str (Str.ofString "sillwatch.giving.holdings") 763) none (Value.ref 434) Value.none 0)) #[]) ::
(nat_lit 436, Obj.mk (Value.type "tuple") none (Data.seq #[]) #[]) ::
(nat_lit 438, Obj.mk (Value.type "tuple") none (Data.seq #[Value.str (Str.ofString "self") 811, Value.str (Str.ofString "number") 812]) #[]) ::
(nat_lit 439, Obj.mk (Value.type "tuple") none (Data.seq #[]) #[]) ::
(nat_lit 441, Obj.mk (Value.type "code") none (Data.fields #[Value.str (Str.ofString "ended") 808, Value.str (Str.ofString "Holdings.ended") 809, Value.str (Str.ofString "/claim/cut.py") 810, Value.int 240 0, Value.int 2 0, Value.int 0 0, Value.int 0 0, Value.int 3 0, Value.ref 436, Value.bool true, Value.int 181 0, Value.ref 437, Value.none, Value.ref 438, Value.ref 439, Value.ref 440, Value.int 813 0, Value.int 240 0, Value.str (Str.ofString "/claim/cut.py") 814]) #[]) ::
(nat_lit 442, Obj.mk (Value.type "function") none (Data.func (FuncData.mk (Str.ofString "ended") (Str.ofString "Holdings.ended") (defArgs (inClass (topS 34) 3)) (.stmts (defBody (inClass (topS 34) 3))) (defScope (inClass (topS 34) 3)) 3 [] Value.none Value.none Value.none (Value.str (Str.ofString "sillwatch.giving.holdings") 763) none (Value.ref 441) Value.none 0)) #[]) ::
(nat_lit 443, Obj.mk (Value.type "tuple") none (Data.seq #[]) #[]) ::
(nat_lit 445, Obj.mk (Value.type "tuple") none (Data.seq #[Value.str (Str.ofString "self") 819]) #[]) ::
(nat_lit 446, Obj.mk (Value.type "tuple") none (Data.seq #[]) #[]) ::
(nat_lit 448, Obj.mk (Value.type "code") none (Data.fields #[Value.str (Str.ofString "pane") 816, Value.str (Str.ofString "Holdings.pane") 817, Value.str (Str.ofString "/claim/cut.py") 818, Value.int 246 0, Value.int 1 0, Value.int 0 0, Value.int 0 0, Value.int 3 0, Value.ref 443, Value.bool true, Value.int 181 0, Value.ref 444, Value.none, Value.ref 445, Value.ref 446, Value.ref 447, Value.int 820 0, Value.int 246 0, Value.str (Str.ofString "/claim/cut.py") 821]) #[]) ::
(nat_lit 449, Obj.mk (Value.type "function") none (Data.func (FuncData.mk (Str.ofString "pane") (Str.ofString "Holdings.pane") (defArgs (inClass (topS 34) 4)) (.stmts (defBody (inClass (topS 34) 4))) (defScope (inClass (topS 34) 4)) 3 [] Value.none Value.none Value.none (Value.str (Str.ofString "sillwatch.giving.holdings") 763) none (Value.ref 448) Value.none 0)) #[]) ::
(nat_lit 450, Obj.mk (Value.type "tuple") none (Data.seq #[]) #[]) ::
(nat_lit 452, Obj.mk (Value.type "tuple") none (Data.seq #[Value.str (Str.ofString "self") 826, Value.str (Str.ofString "objects") 827, Value.str (Str.ofString "way") 828, Value.str (Str.ofString "goods") 829, Value.str (Str.ofString "reply") 830]) #[]) ::
(nat_lit 453, Obj.mk (Value.type "tuple") none (Data.seq #[]) #[]) ::
(nat_lit 455, Obj.mk (Value.type "code") none (Data.fields #[Value.str (Str.ofString "offered") 823, Value.str (Str.ofString "Holdings.offered") 824, Value.str (Str.ofString "/claim/cut.py") 825, Value.int 249 0, Value.int 5 0, Value.int 0 0, Value.int 0 0, Value.int 3 0, Value.ref 450, Value.bool true, Value.int 181 0, Value.ref 451, Value.none, Value.ref 452, Value.ref 453, Value.ref 454, Value.int 831 0, Value.int 249 0, Value.str (Str.ofString "/claim/cut.py") 832]) #[]) ::
(nat_lit 456, Obj.mk (Value.type "function") none (Data.func (FuncData.mk (Str.ofString "offered") (Str.ofString "Holdings.offered") (defArgs (inClass (topS 34) 5)) (.stmts (defBody (inClass (topS 34) 5))) (defScope (inClass (topS 34) 5)) 3 [] Value.none Value.none Value.none (Value.str (Str.ofString "sillwatch.giving.holdings") 763) none (Value.ref 455) Value.none 0)) #[]) ::
(nat_lit 457, Obj.mk (Value.type "tuple") none (Data.seq #[]) #[]) ::
(nat_lit 459, Obj.mk (Value.type "tuple") none (Data.seq #[Value.str (Str.ofString "self") 837, Value.str (Str.ofString "surface") 838, Value.str (Str.ofString "x") 839, Value.str (Str.ofString "y") 840, Value.str (Str.ofString "goods") 841, Value.str (Str.ofString "reply") 842]) #[]) ::
(nat_lit 460, Obj.mk (Value.type "tuple") none (Data.seq #[]) #[]) ::
(nat_lit 462, Obj.mk (Value.type "code") none (Data.fields #[Value.str (Str.ofString "hovers") 834, Value.str (Str.ofString "Holdings.hovers") 835, Value.str (Str.ofString "/claim/cut.py") 836, Value.int 252 0, Value.int 6 0, Value.int 0 0, Value.int 0 0, Value.int 3 0, Value.ref 457, Value.bool true, Value.int 181 0, Value.ref 458, Value.none, Value.ref 459, Value.ref 460, Value.ref 461, Value.int 843 0, Value.int 252 0, Value.str (Str.ofString "/claim/cut.py") 844]) #[]) ::
(nat_lit 463, Obj.mk (Value.type "function") none (Data.func (FuncData.mk (Str.ofString "hovers") (Str.ofString "Holdings.hovers") (defArgs (inClass (topS 34) 6)) (.stmts (defBody (inClass (topS 34) 6))) (defScope (inClass (topS 34) 6)) 3 [] Value.none Value.none Value.none (Value.str (Str.ofString "sillwatch.giving.holdings") 763) none (Value.ref 462) Value.none 0)) #[]) ::
(nat_lit 464, Obj.mk (Value.type "tuple") none (Data.seq #[]) #[]) ::
(nat_lit 466, Obj.mk (Value.type "tuple") none (Data.seq #[Value.str (Str.ofString "self") 849, Value.str (Str.ofString "time") 850, Value.str (Str.ofString "x") 851, Value.str (Str.ofString "y") 852, Value.str (Str.ofString "reply") 853]) #[]) ::
(nat_lit 467, Obj.mk (Value.type "tuple") none (Data.seq #[]) #[]) ::
(nat_lit 469, Obj.mk (Value.type "code") none (Data.fields #[Value.str (Str.ofString "moves") 846, Value.str (Str.ofString "Holdings.moves") 847, Value.str (Str.ofString "/claim/cut.py") 848, Value.int 255 0, Value.int 5 0, Value.int 0 0, Value.int 0 0, Value.int 3 0, Value.ref 464, Value.bool true, Value.int 181 0, Value.ref 465, Value.none, Value.ref 466, Value.ref 467, Value.ref 468, Value.int 854 0, Value.int 255 0, Value.str (Str.ofString "/claim/cut.py") 855]) #[]) ::
(nat_lit 470, Obj.mk (Value.type "function") none (Data.func (FuncData.mk (Str.ofString "moves") (Str.ofString "Holdings.moves") (defArgs (inClass (topS 34) 7)) (.stmts (defBody (inClass (topS 34) 7))) (defScope (inClass (topS 34) 7)) 3 [] Value.none Value.none Value.none (Value.str (Str.ofString "sillwatch.giving.holdings") 763) none (Value.ref 469) Value.none 0)) #[]) ::
(nat_lit 471, Obj.mk (Value.type "tuple") none (Data.seq #[]) #[]) ::
(nat_lit 473, Obj.mk (Value.type "tuple") none (Data.seq #[Value.str (Str.ofString "self") 860, Value.str (Str.ofString "reply") 861]) #[]) ::
(nat_lit 474, Obj.mk (Value.type "tuple") none (Data.seq #[]) #[]) ::
(nat_lit 476, Obj.mk (Value.type "code") none (Data.fields #[Value.str (Str.ofString "leaves") 857, Value.str (Str.ofString "Holdings.leaves") 858, Value.str (Str.ofString "/claim/cut.py") 859, Value.int 258 0, Value.int 2 0, Value.int 0 0, Value.int 0 0, Value.int 3 0, Value.ref 471, Value.bool true, Value.int 181 0, Value.ref 472, Value.none, Value.ref 473, Value.ref 474, Value.ref 475, Value.int 862 0, Value.int 258 0, Value.str (Str.ofString "/claim/cut.py") 863]) #[]) ::
(nat_lit 477, Obj.mk (Value.type "function") none (Data.func (FuncData.mk (Str.ofString "leaves") (Str.ofString "Holdings.leaves") (defArgs (inClass (topS 34) 8)) (.stmts (defBody (inClass (topS 34) 8))) (defScope (inClass (topS 34) 8)) 3 [] Value.none Value.none Value.none (Value.str (Str.ofString "sillwatch.giving.holdings") 763) none (Value.ref 476) Value.none 0)) #[]) ::
(nat_lit 478, Obj.mk (Value.type "tuple") none (Data.seq #[]) #[]) ::
(nat_lit 480, Obj.mk (Value.type "tuple") none (Data.seq #[Value.str (Str.ofString "self") 868]) #[]) ::
(nat_lit 481, Obj.mk (Value.type "tuple") none (Data.seq #[]) #[]) ::
(nat_lit 483, Obj.mk (Value.type "code") none (Data.fields #[Value.str (Str.ofString "dropped") 865, Value.str (Str.ofString "Holdings.dropped") 866, Value.str (Str.ofString "/claim/cut.py") 867, Value.int 261 0, Value.int 1 0, Value.int 0 0, Value.int 0 0, Value.int 3 0, Value.ref 478, Value.bool true, Value.int 181 0, Value.ref 479, Value.none, Value.ref 480, Value.ref 481, Value.ref 482, Value.int 869 0, Value.int 261 0, Value.str (Str.ofString "/claim/cut.py") 870]) #[]) ::
(nat_lit 484, Obj.mk (Value.type "function") none (Data.func (FuncData.mk (Str.ofString "dropped") (Str.ofString "Holdings.dropped") (defArgs (inClass (topS 34) 9)) (.stmts (defBody (inClass (topS 34) 9))) (defScope (inClass (topS 34) 9)) 3 [] Value.none Value.none Value.none (Value.str (Str.ofString "sillwatch.giving.holdings") 763) none (Value.ref 483) Value.none 0)) #[]) ::
(nat_lit 485, Obj.mk (Value.type "tuple") none (Data.seq #[]) #[]) ::
(nat_lit 487, Obj.mk (Value.type "tuple") none (Data.seq #[Value.str (Str.ofString "self") 875, Value.str (Str.ofString "number") 876, Value.str (Str.ofString "picture") 877, Value.str (Str.ofString "reply") 878]) #[]) ::
(nat_lit 488, Obj.mk (Value.type "tuple") none (Data.seq #[]) #[]) ::
(nat_lit 490, Obj.mk (Value.type "code") none (Data.fields #[Value.str (Str.ofString "answered") 872, Value.str (Str.ofString "Holdings.answered") 873, Value.str (Str.ofString "/claim/cut.py") 874, Value.int 264 0, Value.int 4 0, Value.int 0 0, Value.int 0 0, Value.int 3 0, Value.ref 485, Value.bool true, Value.int 181 0, Value.ref 486, Value.none, Value.ref 487, Value.ref 488, Value.ref 489, Value.int 879 0, Value.int 264 0, Value.str (Str.ofString "/claim/cut.py") 880]) #[]) ::
(nat_lit 491, Obj.mk (Value.type "function") none (Data.func (FuncData.mk (Str.ofString "answered") (Str.ofString "Holdings.answered") (defArgs (inClass (topS 34) 10)) (.stmts (defBody (inClass (topS 34) 10))) (defScope (inClass (topS 34) 10)) 3 [] Value.none Value.none Value.none (Value.str (Str.ofString "sillwatch.giving.holdings") 763) none (Value.ref 490) Value.none 0)) #[]) ::
(nat_lit 492, Obj.mk (Value.type "tuple") none (Data.seq #[]) #[]) ::
(nat_lit 494, Obj.mk (Value.type "tuple") none (Data.seq #[Value.str (Str.ofString "self") 885, Value.str (Str.ofString "shared") 886, Value.str (Str.ofString "present") 887, Value.str (Str.ofString "reply") 888]) #[]) ::
(nat_lit 495, Obj.mk (Value.type "tuple") none (Data.seq #[]) #[]) ::
(nat_lit 497, Obj.mk (Value.type "code") none (Data.fields #[Value.str (Str.ofString "compare") 882, Value.str (Str.ofString "Holdings.compare") 883, Value.str (Str.ofString "/claim/cut.py") 884, Value.int 267 0, Value.int 4 0, Value.int 0 0, Value.int 0 0, Value.int 3 0, Value.ref 492, Value.bool true, Value.int 181 0, Value.ref 493, Value.none, Value.ref 494, Value.ref 495, Value.ref 496, Value.int 889 0, Value.int 267 0, Value.str (Str.ofString "/claim/cut.py") 890]) #[]) ::
(nat_lit 498, Obj.mk (Value.type "function") none (Data.func (FuncData.mk (Str.ofString "compare") (Str.ofString "Holdings.compare") (defArgs (inClass (topS 34) 11)) (.stmts (defBody (inClass (topS 34) 11))) (defScope (inClass (topS 34) 11)) 3 [] Value.none Value.none Value.none (Value.str (Str.ofString "sillwatch.giving.holdings") 763) none (Value.ref 497) Value.none 0)) #[]) ::
(nat_lit 499, Obj.mk (Value.type "tuple") none (Data.seq #[]) #[]) ::
(nat_lit 501, Obj.mk (Value.type "tuple") none (Data.seq #[Value.str (Str.ofString "self") 895]) #[]) ::
(nat_lit 502, Obj.mk (Value.type "tuple") none (Data.seq #[]) #[]) ::
(nat_lit 504, Obj.mk (Value.type "code") none (Data.fields #[Value.str (Str.ofString "fetch_names") 892, Value.str (Str.ofString "Holdings.fetch_names") 893, Value.str (Str.ofString "/claim/cut.py") 894, Value.int 270 0, Value.int 1 0, Value.int 0 0, Value.int 0 0, Value.int 3 0, Value.ref 499, Value.bool true, Value.int 181 0, Value.ref 500, Value.none, Value.ref 501, Value.ref 502, Value.ref 503, Value.int 896 0, Value.int 270 0, Value.str (Str.ofString "/claim/cut.py") 897]) #[]) ::
(nat_lit 505, Obj.mk (Value.type "function") none (Data.func (FuncData.mk (Str.ofString "fetch_names") (Str.ofString "Holdings.fetch_names") (defArgs (inClass (topS 34) 12)) (.stmts (defBody (inClass (topS 34) 12))) (defScope (inClass (topS 34) 12)) 3 [] Value.none Value.none Value.none (Value.str (Str.ofString "sillwatch.giving.holdings") 763) none (Value.ref 504) Value.none 0)) #[]) ::
(nat_lit 506, Obj.mk (Value.type "tuple") none (Data.seq #[]) #[]) ::
(nat_lit 508, Obj.mk (Value.type "tuple") none (Data.seq #[Value.str (Str.ofString "self") 902]) #[]) ::
(nat_lit 509, Obj.mk (Value.type "tuple") none (Data.seq #[]) #[]) ::
(nat_lit 511, Obj.mk (Value.type "code") none (Data.fields #[Value.str (Str.ofString "watch_labels") 899, Value.str (Str.ofString "Holdings.watch_labels") 900, Value.str (Str.ofString "/claim/cut.py") 901, Value.int 273 0, Value.int 1 0, Value.int 0 0, Value.int 0 0, Value.int 3 0, Value.ref 506, Value.bool true, Value.int 181 0, Value.ref 507, Value.none, Value.ref 508, Value.ref 509, Value.ref 510, Value.int 903 0, Value.int 273 0, Value.str (Str.ofString "/claim/cut.py") 904]) #[]) ::
(nat_lit 512, Obj.mk (Value.type "function") none (Data.func (FuncData.mk (Str.ofString "watch_labels") (Str.ofString "Holdings.watch_labels") (defArgs (inClass (topS 34) 13)) (.stmts (defBody (inClass (topS 34) 13))) (defScope (inClass (topS 34) 13)) 3 [] Value.none Value.none Value.none (Value.str (Str.ofString "sillwatch.giving.holdings") 763) none (Value.ref 511) Value.none 0)) #[]) ::
(nat_lit 513, Obj.mk (Value.type "tuple") none (Data.seq #[]) #[]) ::
(nat_lit 515, Obj.mk (Value.type "tuple") none (Data.seq #[Value.str (Str.ofString "self") 909, Value.str (Str.ofString "request") 910, Value.str (Str.ofString "grant") 911, Value.str (Str.ofString "may_drag") 912, Value.str (Str.ofString "reply") 913]) #[]) ::
(nat_lit 516, Obj.mk (Value.type "tuple") none (Data.seq #[]) #[]) ::
(nat_lit 518, Obj.mk (Value.type "code") none (Data.fields #[Value.str (Str.ofString "_serve_transfer") 906, Value.str (Str.ofString "Holdings._serve_transfer") 907, Value.str (Str.ofString "/claim/cut.py") 908, Value.int 276 0, Value.int 5 0, Value.int 0 0, Value.int 0 0, Value.int 3 0, Value.ref 513, Value.bool true, Value.int 181 0, Value.ref 514, Value.none, Value.ref 515, Value.ref 516, Value.ref 517, Value.int 914 0, Value.int 276 0, Value.str (Str.ofString "/claim/cut.py") 915]) #[]) ::
(nat_lit 519, Obj.mk (Value.type "function") none (Data.func (FuncData.mk (Str.ofString "_serve_transfer") (Str.ofString "Holdings._serve_transfer") (defArgs (inClass (topS 34) 14)) (.stmts (defBody (inClass (topS 34) 14))) (defScope (inClass (topS 34) 14)) 3 [] Value.none Value.none Value.none (Value.str (Str.ofString "sillwatch.giving.holdings") 763) none (Value.ref 518) Value.none 0)) #[]) ::
(nat_lit 520, Obj.mk (Value.type "tuple") none (Data.seq #[]) #[]) ::
(nat_lit 522, Obj.mk (Value.type "tuple") none (Data.seq #[Value.str (Str.ofString "self") 920, Value.str (Str.ofString "request") 921, Value.str (Str.ofString "grant") 922, Value.str (Str.ofString "reply") 923, Value.str (Str.ofString "source") 924, Value.str (Str.ofString "serial") 925, Value.str (Str.ofString "rest") 926, Value.str (Str.ofString "goods") 927]) #[]) ::
(nat_lit 523, Obj.mk (Value.type "tuple") none (Data.seq #[]) #[]) ::
(nat_lit 525, Obj.mk (Value.type "code") none (Data.fields #[Value.str (Str.ofString "_give") 917, Value.str (Str.ofString "Holdings._give") 918, Value.str (Str.ofString "/claim/cut.py") 919, Value.int 296 0, Value.int 4 0, Value.int 0 0, Value.int 0 0, Value.int 3 0, Value.ref 520, Value.bool true, Value.int 181 0, Value.ref 521, Value.none, Value.ref 522, Value.ref 523, Value.ref 524, Value.int 928 0, Value.int 296 0, Value.str (Str.ofString "/claim/cut.py") 929]) #[]) ::
(nat_lit 526, Obj.mk (Value.type "function") none (Data.func (FuncData.mk (Str.ofString "_give") (Str.ofString "Holdings._give") (defArgs (inClass (topS 34) 15)) (.stmts (defBody (inClass (topS 34) 15))) (defScope (inClass (topS 34) 15)) 3 [] Value.none Value.none Value.none (Value.str (Str.ofString "sillwatch.giving.holdings") 763) none (Value.ref 525) Value.none 0)) #[]) ::
(nat_lit 527, Obj.mk (Value.type "tuple") none (Data.seq #[]) #[]) ::
(nat_lit 529, Obj.mk (Value.type "tuple") none (Data.seq #[Value.str (Str.ofString "self") 934, Value.str (Str.ofString "request") 935, Value.str (Str.ofString "reply") 936, Value.str (Str.ofString "name") 937, Value.str (Str.ofString "octets") 938, Value.str (Str.ofString "is_new") 939]) #[]) ::
(nat_lit 530, Obj.mk (Value.type "tuple") none (Data.seq #[]) #[]) ::
(nat_lit 532, Obj.mk (Value.type "code") none (Data.fields #[Value.str (Str.ofString "_send") 931, Value.str (Str.ofString "Holdings._send") 932, Value.str (Str.ofString "/claim/cut.py") 933, Value.int 307 0, Value.int 3 0, Value.int 0 0, Value.int 0 0, Value.int 3 0, Value.ref 527, Value.bool true, Value.int 181 0, Value.ref 528, Value.none, Value.ref 529, Value.ref 530, Value.ref 531, Value.int 940 0, Value.int 307 0, Value.str (Str.ofString "/claim/cut.py") 941]) #[]) ::
(nat_lit 533, Obj.mk (Value.type "function") none (Data.func (FuncData.mk (Str.ofString "_send") (Str.ofString "Holdings._send") (defArgs (inClass (topS 34) 16)) (.stmts (defBody (inClass (topS 34) 16))) (defScope (inClass (topS 34) 16)) 3 [] Value.none Value.none Value.none (Value.str (Str.ofString "sillwatch.giving.holdings") 763) none (Value.ref 532) Value.none 0)) #[]) ::
(nat_lit 534, Obj.mk (Value.type "tuple") none (Data.seq #[]) #[]) ::
(nat_lit 536, Obj.mk (Value.type "tuple") none (Data.seq #[Value.str (Str.ofString "self") 946, Value.str (Str.ofString "request") 947, Value.str (Str.ofString "reply") 948, Value.str (Str.ofString "name") 949]) #[]) ::
(nat_lit 537, Obj.mk (Value.type "tuple") none (Data.seq #[]) #[]) ::
(nat_lit 539, Obj.mk (Value.type "code") none (Data.fields #[Value.str (Str.ofString "_unsend") 943, Value.str (Str.ofString "Holdings._unsend") 944, Value.str (Str.ofString "/claim/cut.py") 945, Value.int 318 0, Value.int 3 0, Value.int 0 0, Value.int 0 0, Value.int 3 0, Value.ref 534, Value.bool true, Value.int 181 0, Value.ref 535, Value.none, Value.ref 536, Value.ref 537, Value.ref 538, Value.int 950 0, Value.int 318 0, Value.str (Str.ofString "/claim/cut.py") 951]) #[]) ::
(nat_lit 540, Obj.mk (Value.type "function") none (Data.func (FuncData.mk (Str.ofString "_unsend") (Str.ofString "Holdings._unsend") (defArgs (inClass (topS 34) 17)) (.stmts (defBody (inClass (topS 34) 17))) (defScope (inClass (topS 34) 17)) 3 [] Value.none Value.none Value.none (Value.str (Str.ofString "sillwatch.giving.holdings") 763) none (Value.ref 539) Value.none 0)) #[]) ::
(nat_lit 541, Obj.mk (Value.type "tuple") none (Data.seq #[Value.str (Str.ofString "_captures") 953, Value.str (Str.ofString "_fetches") 954, Value.str (Str.ofString "_offers") 955, Value.str (Str.ofString "_sent_names") 956, Value.str (Str.ofString "_sources") 957]) #[]) ::
(nat_lit 542, Obj.mk (Value.type "dict") none (Data.dict #[DictEntry.mk (PyData.keyHash PP (Str.ofString "__module__")) (Value.str (Str.ofString "__module__") 776) (Value.str (Str.ofString "sillwatch.giving.holdings") 763), DictEntry.mk (PyData.keyHash PP (Str.ofString "__firstlineno__")) (Value.str (Str.ofString "__firstlineno__") 780) (Value.int 214 779), DictEntry.mk (PyData.keyHash PP (Str.ofString "__init__")) (Value.str (Str.ofString "__init__") 787) (Value.ref 421), DictEntry.mk (PyData.keyHash PP (Str.ofString "serve")) (Value.str (Str.ofString "serve") 799) (Value.ref 428), DictEntry.mk (PyData.keyHash PP (Str.ofString "bound")) (Value.str (Str.ofString "bound") 807) (Value.ref 435), DictEntry.mk (PyData.keyHash PP (Str.ofString "ended")) (Value.str (Str.ofString "ended") 815) (Value.ref 442), DictEntry.mk (PyData.keyHash PP (Str.ofString "pane")) (Value.str (Str.ofString "pane") 822) (Value.ref 449), DictEntry.mk (PyData.keyHash PP (Str.ofString "offered")) (Value.str (Str.ofString "offered") 833) (Value.ref 456), DictEntry.mk (PyData.keyHash PP (Str.ofString "hovers")) (Value.str (Str.ofString "hovers") 845) (Value.ref 463), DictEntry.mk (PyData.keyHash PP (Str.ofString "moves")) (Value.str (Str.ofString "moves") 856) (Value.ref 470), DictEntry.mk (PyData.keyHash PP (Str.ofString "leaves")) (Value.str (Str.ofString "leaves") 864) (Value.ref 477), DictEntry.mk (PyData.keyHash PP (Str.ofString "dropped")) (Value.str (Str.ofString "dropped") 871) (Value.ref 484), DictEntry.mk (PyData.keyHash PP (Str.ofString "answered")) (Value.str (Str.ofString "answered") 881) (Value.ref 491), DictEntry.mk (PyData.keyHash PP (Str.ofString "compare")) (Value.str (Str.ofString "compare") 891) (Value.ref 498), DictEntry.mk (PyData.keyHash PP (Str.ofString "fetch_names")) (Value.str (Str.ofString "fetch_names") 898) (Value.ref 505), DictEntry.mk (PyData.keyHash PP (Str.ofString "watch_labels")) (Value.str (Str.ofString "watch_labels") 905) (Value.ref 512), DictEntry.mk (PyData.keyHash PP (Str.ofString "_serve_transfer")) (Value.str (Str.ofString "_serve_transfer") 916) (Value.ref 519), DictEntry.mk (PyData.keyHash PP (Str.ofString "_give")) (Value.str (Str.ofString "_give") 930) (Value.ref 526), DictEntry.mk (PyData.keyHash PP (Str.ofString "_send")) (Value.str (Str.ofString "_send") 942) (Value.ref 533), DictEntry.mk (PyData.keyHash PP (Str.ofString "_unsend")) (Value.str (Str.ofString "_unsend") 952) (Value.ref 540), DictEntry.mk (PyData.keyHash PP (Str.ofString "__static_attributes__")) (Value.str (Str.ofString "__static_attributes__") 958) (Value.ref 541), DictEntry.mk (PyData.keyHash PP (Str.ofString "__dict__")) (Value.str (Str.ofString "__dict__") 960) (Value.ref 544), DictEntry.mk (PyData.keyHash PP (Str.ofString "__weakref__")) (Value.str (Str.ofString "__weakref__") 962) (Value.ref 545), DictEntry.mk (PyData.keyHash PP (Str.ofString "__doc__")) (Value.str (Str.ofString "__doc__") 963) Value.none] 4) #[]) ::
(nat_lit 543, Obj.mk (Value.type "type") none (Data.cls (ClassData.mk (Str.ofString "Holdings") [Value.type "object"] [Value.ref 543, Value.type "object"] 542 (Str.ofString "Holdings") true [] [] false none false)) #[none, none, some (Value.str (Str.ofString "Holdings") 769), some (Value.str (Str.ofString "Holdings") 777), some (Value.builtin "object.__new__"), some (Value.bool true)]) ::
(nat_lit 544, Obj.mk (Value.type "getset_descriptor") none (Data.fields #[Value.str (Str.ofString "__dict__") 959, Value.ref 543, Value.builtin "function.__dict__", Value.builtin "function.__dict__#set"]) #[]) ::
(nat_lit 545, Obj.mk (Value.type "getset_descriptor") none (Data.fields #[Value.str (Str.ofString "__weakref__") 961, Value.ref 543, Value.builtin "ExceptionGroup.__weakref__", Value.none]) #[]) ::
(nat_lit 548, Obj.mk (Value.type "tuple") none (Data.seq #[]) #[]) ::
(nat_lit 550, Obj.mk (Value.type "tuple") none (Data.seq #[Value.str (Str.ofString "value") 988, Value.str (Str.ofString "least") 989, Value.str (Str.ofString "greatest") 990]) #[]) ::
(nat_lit 551, Obj.mk (Value.type "tuple") none (Data.seq #[]) #[]) ::
(nat_lit 553, Obj.mk (Value.type "code") none (Data.fields #[Value.str (Str.ofString "is_integer") 985, Value.str (Str.ofString "is_integer") 986, Value.str (Str.ofString "/claim/cut.py") 987, Value.int 332 0, Value.int 3 0, Value.int 0 0, Value.int 0 0, Value.int 3 0, Value.ref 548, Value.bool true, Value.int 181 0, Value.ref 549, Value.none, Value.ref 550, Value.ref 551, Value.ref 552, Value.int 991 0, Value.int 332 0, Value.str (Str.ofString "/claim/cut.py") 992]) #[]) ::
(nat_lit 554, Obj.mk (Value.type "function") none (Data.func (FuncData.mk (Str.ofString "is_integer") (Str.ofString "is_integer") (defArgs (topS 44)) (.stmts (defBody (topS 44))) (defScope (topS 44)) 3 [] Value.none Value.none Value.none (Value.str (Str.ofString "sillwatch.octets.fields") 966) none (Value.ref 553) Value.none 0)) #[]) ::
(nat_lit 555, Obj.mk (Value.type "tuple") none (Data.seq #[]) #[]) ::
(nat_lit 558, Obj.mk (Value.type "code") none (Data.fields #[Value.str (Str.ofString "is_text") 994, Value.str (Str.ofString "is_text") 995, Value.str (Str.ofString "/claim/cut.py") 996, Value.int 334 0, Value.int 1 0, Value.int 0 0, Value.int 0 0, Value.int 3 0, Value.ref 555, Value.bool true, Value.int 181 0, Value.ref 556, Value.none, Value.none, Value.none, Value.ref 557, Value.int 997 0, Value.int 334 0, Value.str (Str.ofString "/claim/cut.py") 998]) #[]) ::
(nat_lit 559, Obj.mk (Value.type "function") none (Data.func (FuncData.mk (Str.ofString "is_text") (Str.ofString "is_text") (defArgs (topS 45)) (.stmts (defBody (topS 45))) (defScope (topS 45)) 3 [] Value.none Value.none Value.none (Value.str (Str.ofString "sillwatch.octets.fields") 966) none (Value.ref 558) Value.none 0)) #[]) ::
(nat_lit 560, Obj.mk (Value.type "tuple") none (Data.seq #[]) #[]) ::
(nat_lit 563, Obj.mk (Value.type "code") none (Data.fields #[Value.str (Str.ofString "number_octets") 1000, Value.str (Str.ofString "number_octets") 1001, Value.str (Str.ofString "/claim/cut.py") 1002, Value.int 336 0, Value.int 2 0, Value.int 0 0, Value.int 0 0, Value.int 3 0, Value.ref 560, Value.bool true, Value.int 181 0, Value.ref 561, Value.none, Value.none, Value.none, Value.ref 562, Value.int 1003 0, Value.int 336 0, Value.str (Str.ofString "/claim/cut.py") 1004]) #[]) ::
(nat_lit 564, Obj.mk (Value.type "function") none (Data.func (FuncData.mk (Str.ofString "number_octets") (Str.ofString "number_octets") (defArgs (topS 46)) (.stmts (defBody (topS 46))) (defScope (topS 46)) 3 [] Value.none Value.none Value.none (Value.str (Str.ofString "sillwatch.octets.fields") 966) none (Value.ref 563) Value.none 0)) #[]) ::
(nat_lit 565, Obj.mk (Value.type "tuple") none (Data.seq #[]) #[]) ::
(nat_lit 567, Obj.mk (Value.type "tuple") none (Data.seq #[Value.str (Str.ofString "kind") 1009, Value.str (Str.ofString "value") 1010, Value.str (Str.ofString "text") 1011, Value.str (Str.ofString "number") 1012]) #[]) ::
(nat_lit 568, Obj.mk (Value.type "tuple") none (Data.seq #[]) #[]) ::
(nat_lit 570, Obj.mk (Value.type "code") none (Data.fields #[Value.str (Str.ofString "field_octets") 1006, Value.str (Str.ofString "field_octets") 1007, Value.str (Str.ofString "/claim/cut.py") 1008, Value.int 338 0, Value.int 2 0, Value.int 0 0, Value.int 0 0, Value.int 3 0, Value.ref 565, Value.bool true, Value.int 181 0, Value.ref 566, Value.none, Value.ref 567, Value.ref 568, Value.ref 569, Value.int 1013 0, Value.int 338 0, Value.str (Str.ofString "/claim/cut.py") 1014]) #[]) ::
(nat_lit 571, Obj.mk (Value.type "function") none (Data.func (FuncData.mk (Str.ofString "field_octets") (Str.ofString "field_octets") (defArgs (topS 47)) (.stmts (defBody (topS 47))) (defScope (topS 47)) 3 [] Value.none Value.none Value.none (Value.str (Str.ofString "sillwatch.octets.fields") 966) none (Value.ref 570) Value.none 0)) #[]) ::
(nat_lit 572, Obj.mk (Value.type "tuple") none (Data.seq #[]) #[]) ::
(nat_lit 574, Obj.mk (Value.type "tuple") none (Data.seq #[Value.str (Str.ofString "code") 1019]) #[]) ::
(nat_lit 575, Obj.mk (Value.type "tuple") none (Data.seq #[]) #[]) ::
(nat_lit 577, Obj.mk (Value.type "code") none (Data.fields #[Value.str (Str.ofString "_is_code") 1016, Value.str (Str.ofString "_is_code") 1017, Value.str (Str.ofString "/claim/cut.py") 1018, Value.int 349 0, Value.int 1 0, Value.int 0 0, Value.int 0 0, Value.int 3 0, Value.ref 572, Value.bool true, Value.int 181 0, Value.ref 573, Value.none, Value.ref 574, Value.ref 575, Value.ref 576, Value.int 1020 0, Value.int 349 0, Value.str (Str.ofString "/claim/cut.py") 1021]) #[]) ::
(nat_lit 578, Obj.mk (Value.type "function") none (Data.func (FuncData.mk (Str.ofString "_is_code") (Str.ofString "_is_code") (defArgs (topS 48)) (.stmts (defBody (topS 48))) (defScope (topS 48)) 3 [] Value.none Value.none Value.none (Value.str (Str.ofString "sillwatch.octets.fields") 966) none (Value.ref 577) Value.none 0)) #[]) ::
(nat_lit 579, Obj.mk (Value.type "tuple") none (Data.seq #[]) #[]) ::
(nat_lit 581, Obj.mk (Value.type "tuple") none (Data.seq #[Value.str (Str.ofString "kind") 1026, Value.str (Str.ofString "value") 1027]) #[]) ::
(nat_lit 582, Obj.mk (Value.type "tuple") none (Data.seq #[]) #[]) ::
(nat_lit 584, Obj.mk (Value.type "code") none (Data.fields #[Value.str (Str.ofString "_is_of") 1023, Value.str (Str.ofString "_is_of") 1024, Value.str (Str.ofString "/claim/cut.py") 1025, Value.int 351 0, Value.int 2 0, Value.int 0 0, Value.int 0 0, Value.int 3 0, Value.ref 579, Value.bool true, Value.int 181 0, Value.ref 580, Value.none, Value.ref 581, Value.ref 582, Value.ref 583, Value.int 1028 0, Value.int 351 0, Value.str (Str.ofString "/claim/cut.py") 1029]) #[]) ::
(nat_lit 585, Obj.mk (Value.type "function") none (Data.func (FuncData.mk (Str.ofString "_is_of") (Str.ofString "_is_of") (defArgs (topS 49)) (.stmts (defBody (topS 49))) (defScope (topS 49)) 3 [] Value.none Value.none Value.none (Value.str (Str.ofString "sillwatch.octets.fields") 966) none (Value.ref 584) Value.none 0)) #[]) ::
(nat_lit 586, Obj.mk (Value.type "tuple") none (Data.seq #[]) #[]) ::
(nat_lit 589, Obj.mk (Value.type "code") none (Data.fields #[Value.str (Str.ofString "_are_octets") 1031, Value.str (Str.ofString "_are_octets") 1032, Value.str (Str.ofString "/claim/cut.py") 1033, Value.int 363 0, Value.int 1 0, Value.int 0 0, Value.int 0 0, Value.int 3 0, Value.ref 586, Value.bool true, Value.int 181 0, Value.ref 587, Value.none, Value.none, Value.none, Value.ref 588, Value.int 1034 0, Value.int 363 0, Value.str (Str.ofString "/claim/cut.py") 1035]) #[]) ::
(nat_lit 590, Obj.mk (Value.type "function") none (Data.func (FuncData.mk (Str.ofString "_are_octets") (Str.ofString "_are_octets") (defArgs (topS 50)) (.stmts (defBody (topS 50))) (defScope (topS 50)) 3 [] Value.none Value.none Value.none (Value.str (Str.ofString "sillwatch.octets.fields") 966) none (Value.ref 589) Value.none 0)) #[]) ::
(nat_lit 591, Obj.mk (Value.type "tuple") none (Data.seq #[]) #[]) ::
(nat_lit 593, Obj.mk (Value.type "tuple") none (Data.seq #[Value.str (Str.ofString "value") 1040]) #[]) ::
(nat_lit 594, Obj.mk (Value.type "tuple") none (Data.seq #[]) #[]) ::
(nat_lit 596, Obj.mk (Value.type "code") none (Data.fields #[Value.str (Str.ofString "_is_bound") 1037, Value.str (Str.ofString "_is_bound") 1038, Value.str (Str.ofString "/claim/cut.py") 1039, Value.int 367 0, Value.int 1 0, Value.int 0 0, Value.int 0 0, Value.int 3 0, Value.ref 591, Value.bool true, Value.int 181 0, Value.ref 592, Value.none, Value.ref 593, Value.ref 594, Value.ref 595, Value.int 1041 0, Value.int 367 0, Value.str (Str.ofString "/claim/cut.py") 1042]) #[]) ::
(nat_lit 597, Obj.mk (Value.type "function") none (Data.func (FuncData.mk (Str.ofString "_is_bound") (Str.ofString "_is_bound") (defArgs (topS 51)) (.stmts (defBody (topS 51))) (defScope (topS 51)) 3 [] Value.none Value.none Value.none (Value.str (Str.ofString "sillwatch.octets.fields") 966) none (Value.ref 596) Value.none 0)) #[]) ::
(nat_lit 598, Obj.mk (Value.type "tuple") none (Data.seq #[]) #[]) ::
(nat_lit 601, Obj.mk (Value.type "code") none (Data.fields #[Value.str (Str.ofString "_text_octets") 1044, Value.str (Str.ofString "_text_octets") 1045, Value.str (Str.ofString "/claim/cut.py") 1046, Value.int 371 0, Value.int 1 0, Value.int 0 0, Value.int 0 0, Value.int 3 0, Value.ref 598, Value.bool true, Value.int 181 0, Value.ref 599, Value.none, Value.none, Value.none, Value.ref 600, Value.int 1047 0, Value.int 371 0, Value.str (Str.ofString "/claim/cut.py") 1048]) #[]) ::
(nat_lit 602, Obj.mk (Value.type "function") none (Data.func (FuncData.mk (Str.ofString "_text_octets") (Str.ofString "_text_octets") (defArgs (topS 52)) (.stmts (defBody (topS 52))) (defScope (topS 52)) 3 [] Value.none Value.none Value.none (Value.str (Str.ofString "sillwatch.octets.fields") 966) none (Value.ref 601) Value.none 0)) #[]) ::
(nat_lit 603, Obj.mk (Value.type "tuple") none (Data.seq #[]) #[]) ::
(nat_lit 605, Obj.mk (Value.type "tuple") none (Data.seq #[Value.str (Str.ofString "octets") 1053]) #[]) ::
(nat_lit 606, Obj.mk (Value.type "tuple") none (Data.seq #[]) #[]) ::
(nat_lit 608, Obj.mk (Value.type "code") none (Data.fields #[Value.str (Str.ofString "_padded") 1050, Value.str (Str.ofString "_padded") 1051, Value.str (Str.ofString "/claim/cut.py") 1052, Value.int 374 0, Value.int 1 0, Value.int 0 0, Value.int 0 0, Value.int 3 0, Value.ref 603, Value.bool true, Value.int 181 0, Value.ref 604, Value.none, Value.ref 605, Value.ref 606, Value.ref 607, Value.int 1054 0, Value.int 374 0, Value.str (Str.ofString "/claim/cut.py") 1055]) #[]) ::
(nat_lit 609, Obj.mk (Value.type "function") none (Data.func (FuncData.mk (Str.ofString "_padded") (Str.ofString "_padded") (defArgs (topS 53)) (.stmts (defBody (topS 53))) (defScope (topS 53)) 3 [] Value.none Value.none Value.none (Value.str (Str.ofString "sillwatch.octets.fields") 966) none (Value.ref 608) Value.none 0)) #[]) ::
(nat_lit 610, Obj.mk (Value.type "tuple") none (Data.seq #[]) #[]) ::
(nat_lit 612, Obj.mk (Value.type "tuple") none (Data.seq #[Value.str (Str.ofString "number") 1070, Value.str (Str.ofString "opcode") 1071, Value.str (Str.ofString "arguments") 1072, Value.str (Str.ofString "body") 1073, Value.str (Str.ofString "kind") 1074, Value.str (Str.ofString "value") 1075, Value.str (Str.ofString "size") 1076]) #[]) ::
(nat_lit 613, Obj.mk (Value.type "tuple") none (Data.seq #[]) #[]) ::
(nat_lit 615, Obj.mk (Value.type "code") none (Data.fields #[Value.str (Str.ofString "encode_message") 1067, Value.str (Str.ofString "encode_message") 1068, Value.str (Str.ofString "/claim/cut.py") 1069, Value.int 381 0, Value.int 3 0, Value.int 0 0, Value.int 0 0, Value.int 3 0, Value.ref 610, Value.bool true, Value.int 181 0, Value.ref 611, Value.none, Value.ref 612, Value.ref 613, Value.ref 614, Value.int 1077 0, Value.int 381 0, Value.str (Str.ofString "/claim/cut.py") 1078]) #[]) ::
(nat_lit 616, Obj.mk (Value.type "function") none (Data.func (FuncData.mk (Str.ofString "encode_message") (Str.ofString "encode_message") (defArgs (topS 59)) (.stmts (defBody (topS 59))) (defScope (topS 59)) 3 [] Value.none Value.none Value.none (Value.str (Str.ofString "sillwatch.octets.messages") 1057) none (Value.ref 615) Value.none 0)) #[]) ::
(nat_lit 617, Obj.mk (Value.type "dict") none (Data.dict #[DictEntry.mk (PyData.keyHash PP (Str.ofString "display")) (Value.str (Str.ofString "display") 1082) (Value.ref 622), DictEntry.mk (PyData.keyHash PP (Str.ofString "callback")) (Value.str (Str.ofString "callback") 1089) (Value.ref 625), DictEntry.mk (PyData.keyHash PP (Str.ofString "registry")) (Value.str (Str.ofString "registry") 1092) (Value.ref 630), DictEntry.mk (PyData.keyHash PP (Str.ofString "buffer")) (Value.str (Str.ofString "buffer") 1098) (Value.ref 633), DictEntry.mk (PyData.keyHash PP (Str.ofString "output")) (Value.str (Str.ofString "output") 1100) (Value.ref 636), DictEntry.mk (PyData.keyHash PP (Str.ofString "window")) (Value.str (Str.ofString "window") 1106) (Value.ref 645), DictEntry.mk (PyData.keyHash PP (Str.ofString "popup")) (Value.str (Str.ofString "popup") 1117) (Value.ref 650), DictEntry.mk (PyData.keyHash PP (Str.ofString "pointer")) (Value.str (Str.ofString "pointer") 1124) (Value.ref 661), DictEntry.mk (PyData.keyHash PP (Str.ofString "keyboard")) (Value.str (Str.ofString "keyboard") 1144) (Value.ref 672), DictEntry.mk (PyData.keyHash PP (Str.ofString "transfer")) (Value.str (Str.ofString "transfer") 1160) (Value.ref 685), DictEntry.mk (PyData.keyHash PP (Str.ofString "offer")) (Value.str (Str.ofString "offer") 1176) (Value.ref 690), DictEntry.mk (PyData.keyHash PP (Str.ofString "capture")) (Value.str (Str.ofString "capture") 1184) (Value.ref 697), DictEntry.mk (PyData.keyHash PP (Str.ofString "fetch")) (Value.str (Str.ofString "fetch") 1192) (Value.ref 704), DictEntry.mk (PyData.keyHash PP (Str.ofString "watch")) (Value.str (Str.ofString "watch") 1199) (Value.ref 709)] 14) #[]) ::
(nat_lit 618, Obj.mk (Value.type "tuple") none (Data.seq #[Value.str (Str.ofString "uint") 1084, Value.str (Str.ofString "uint") 1085, Value.str (Str.ofString "text") 1086]) #[]) ::
(nat_lit 619, Obj.mk (Value.type "tuple") none (Data.seq #[Value.str (Str.ofString "error") 1083, Value.ref 618]) #[]) ::
(nat_lit 620, Obj.mk (Value.type "tuple") none (Data.seq #[Value.str (Str.ofString "uint") 1088]) #[]) ::
(nat_lit 621, Obj.mk (Value.type "tuple") none (Data.seq #[Value.str (Str.ofString "removed") 1087, Value.ref 620]) #[]) ::
(nat_lit 622, Obj.mk (Value.type "tuple") none (Data.seq #[Value.ref 619, Value.ref 621]) #[]) ::
(nat_lit 623, Obj.mk (Value.type "tuple") none (Data.seq #[Value.str (Str.ofString "uint") 1091]) #[]) ::
(nat_lit 624, Obj.mk (Value.type "tuple") none (Data.seq #[Value.str (Str.ofString "done") 1090, Value.ref 623]) #[]) ::
(nat_lit 625, Obj.mk (Value.type "tuple") none (Data.seq #[Value.ref 624]) #[]) ::
(nat_lit 626, Obj.mk (Value.type "tuple") none (Data.seq #[Value.str (Str.ofString "uint") 1094, Value.str (Str.ofString "text") 1095]) #[]) ::
(nat_lit 627, Obj.mk (Value.type "tuple") none (Data.seq #[Value.str (Str.ofString "there") 1093, Value.ref 626]) #[]) ::
(nat_lit 628, Obj.mk (Value.type "tuple") none (Data.seq #[Value.str (Str.ofString "uint") 1097]) #[]) ::
(nat_lit 629, Obj.mk (Value.type "tuple") none (Data.seq #[Value.str (Str.ofString "gone") 1096, Value.ref 628]) #[]) ::
(nat_lit 630, Obj.mk (Value.type "tuple") none (Data.seq #[Value.ref 627, Value.ref 629]) #[]) ::
(nat_lit 631, Obj.mk (Value.type "tuple") none (Data.seq #[]) #[]) ::
(nat_lit 632, Obj.mk (Value.type "tuple") none (Data.seq #[Value.str (Str.ofString "release") 1099, Value.ref 631]) #[]) ::
(nat_lit 633, Obj.mk (Value.type "tuple") none (Data.seq #[Value.ref 632]) #[]) ::
(nat_lit 634, Obj.mk (Value.type "tuple") none (Data.seq #[Value.str (Str.ofString "uint") 1102, Value.str (Str.ofString "uint") 1103, Value.str (Str.ofString "uint") 1104, Value.str (Str.ofString "uint") 1105]) #[]) ::
(nat_lit 635, Obj.mk (Value.type "tuple") none (Data.seq #[Value.str (Str.ofString "size") 1101, Value.ref 634]) #[]) ::
(nat_lit 636, Obj.mk (Value.type "tuple") none (Data.seq #[Value.ref 635]) #[]) ::
(nat_lit 637, Obj.mk (Value.type "tuple") none (Data.seq #[Value.str (Str.ofString "uint") 1108, Value.str (Str.ofString "uint") 1109, Value.str (Str.ofString "uint") 1110, Value.str (Str.ofString "uint") 1111]) #[]) ::
(nat_lit 638, Obj.mk (Value.type "tuple") none (Data.seq #[Value.str (Str.ofString "configure") 1107, Value.ref 637]) #[]) ::
(nat_lit 639, Obj.mk (Value.type "tuple") none (Data.seq #[]) #[]) ::
(nat_lit 640, Obj.mk (Value.type "tuple") none (Data.seq #[Value.str (Str.ofString "close") 1112, Value.ref 639]) #[]) ::
(nat_lit 641, Obj.mk (Value.type "tuple") none (Data.seq #[Value.str (Str.ofString "uint") 1114]) #[]) ::
(nat_lit 642, Obj.mk (Value.type "tuple") none (Data.seq #[Value.str (Str.ofString "output") 1113, Value.ref 641]) #[]) ::
(nat_lit 643, Obj.mk (Value.type "tuple") none (Data.seq #[Value.str (Str.ofString "uint") 1116]) #[]) ::
(nat_lit 644, Obj.mk (Value.type "tuple") none (Data.seq #[Value.str (Str.ofString "left") 1115, Value.ref 643]) #[]) ::
(nat_lit 645, Obj.mk (Value.type "tuple") none (Data.seq #[Value.ref 638, Value.ref 640, Value.ref 642, Value.ref 644]) #[]) ::
(nat_lit 646, Obj.mk (Value.type "tuple") none (Data.seq #[Value.str (Str.ofString "int") 1119, Value.str (Str.ofString "int") 1120, Value.str (Str.ofString "uint") 1121, Value.str (Str.ofString "uint") 1122]) #[]) ::
(nat_lit 647, Obj.mk (Value.type "tuple") none (Data.seq #[Value.str (Str.ofString "placed") 1118, Value.ref 646]) #[]) ::
(nat_lit 648, Obj.mk (Value.type "tuple") none (Data.seq #[]) #[]) ::
(nat_lit 649, Obj.mk (Value.type "tuple") none (Data.seq #[Value.str (Str.ofString "done") 1123, Value.ref 648]) #[]) ::
(nat_lit 650, Obj.mk (Value.type "tuple") none (Data.seq #[Value.ref 647, Value.ref 649]) #[]) ::
(nat_lit 651, Obj.mk (Value.type "tuple") none (Data.seq #[Value.str (Str.ofString "object") 1126, Value.str (Str.ofString "int") 1127, Value.str (Str.ofString "int") 1128]) #[]) ::
(nat_lit 652, Obj.mk (Value.type "tuple") none (Data.seq #[Value.str (Str.ofString "enter") 1125, Value.ref 651]) #[]) ::
(nat_lit 653, Obj.mk (Value.type "tuple") none (Data.seq #[Value.str (Str.ofString "object") 1130]) #[]) ::
(nat_lit 654, Obj.mk (Value.type "tuple") none (Data.seq #[Value.str (Str.ofString "leave") 1129, Value.ref 653]) #[]) ::
(nat_lit 655, Obj.mk (Value.type "tuple") none (Data.seq #[Value.str (Str.ofString "int") 1132, Value.str (Str.ofString "int") 1133, Value.str (Str.ofString "uint") 1134]) #[]) ::
(nat_lit 656, Obj.mk (Value.type "tuple") none (Data.seq #[Value.str (Str.ofString "motion") 1131, Value.ref 655]) #[]) ::
(nat_lit 657, Obj.mk (Value.type "tuple") none (Data.seq #[Value.str (Str.ofString "uint") 1136, Value.str (Str.ofString "uint") 1137, Value.str (Str.ofString "uint") 1138, Value.str (Str.ofString "uint") 1139]) #[]) ::
(nat_lit 658, Obj.mk (Value.type "tuple") none (Data.seq #[Value.str (Str.ofString "button") 1135, Value.ref 657]) #[]) ::
(nat_lit 659, Obj.mk (Value.type "tuple") none (Data.seq #[Value.str (Str.ofString "int") 1141, Value.str (Str.ofString "int") 1142, Value.str (Str.ofString "uint") 1143]) #[]) ::
(nat_lit 660, Obj.mk (Value.type "tuple") none (Data.seq #[Value.str (Str.ofString "axis") 1140, Value.ref 659]) #[]) ::
(nat_lit 661, Obj.mk (Value.type "tuple") none (Data.seq #[Value.ref 652, Value.ref 654, Value.ref 656, Value.ref 658, Value.ref 660]) #[]) ::
(nat_lit 662, Obj.mk (Value.type "tuple") none (Data.seq #[Value.str (Str.ofString "text") 1146]) #[]) ::
(nat_lit 663, Obj.mk (Value.type "tuple") none (Data.seq #[Value.str (Str.ofString "keymap") 1145, Value.ref 662]) #[]) ::
(nat_lit 664, Obj.mk (Value.type "tuple") none (Data.seq #[Value.str (Str.ofString "object") 1148]) #[]) ::
(nat_lit 665, Obj.mk (Value.type "tuple") none (Data.seq #[Value.str (Str.ofString "enter") 1147, Value.ref 664]) #[]) ::
(nat_lit 666, Obj.mk (Value.type "tuple") none (Data.seq #[Value.str (Str.ofString "object") 1150]) #[]) ::
(nat_lit 667, Obj.mk (Value.type "tuple") none (Data.seq #[Value.str (Str.ofString "leave") 1149, Value.ref 666]) #[]) ::
(nat_lit 668, Obj.mk (Value.type "tuple") none (Data.seq #[Value.str (Str.ofString "uint") 1152, Value.str (Str.ofString "uint") 1153, Value.str (Str.ofString "uint") 1154, Value.str (Str.ofString "uint") 1155]) #[]) ::
(nat_lit 669, Obj.mk (Value.type "tuple") none (Data.seq #[Value.str (Str.ofString "key") 1151, Value.ref 668]) #[]) ::
(nat_lit 670, Obj.mk (Value.type "tuple") none (Data.seq #[Value.str (Str.ofString "text") 1157, Value.str (Str.ofString "text") 1158, Value.str (Str.ofString "uint") 1159]) #[]) ::
(nat_lit 671, Obj.mk (Value.type "tuple") none (Data.seq #[Value.str (Str.ofString "symbol") 1156, Value.ref 670]) #[]) ::
(nat_lit 672, Obj.mk (Value.type "tuple") none (Data.seq #[Value.ref 663, Value.ref 665, Value.ref 667, Value.ref 669, Value.ref 671]) #[]) ::
(nat_lit 673, Obj.mk (Value.type "tuple") none (Data.seq #[Value.str (Str.ofString "new") 1162, Value.str (Str.ofString "uint") 1163]) #[]) ::
(nat_lit 674, Obj.mk (Value.type "tuple") none (Data.seq #[Value.str (Str.ofString "offer") 1161, Value.ref 673]) #[]) ::
(nat_lit 675, Obj.mk (Value.type "tuple") none (Data.seq #[Value.str (Str.ofString "object") 1165, Value.str (Str.ofString "int") 1166, Value.str (Str.ofString "int") 1167]) #[]) ::
(nat_lit 676, Obj.mk (Value.type "tuple") none (Data.seq #[Value.str (Str.ofString "hover") 1164, Value.ref 675]) #[]) ::
(nat_lit 677, Obj.mk (Value.type "tuple") none (Data.seq #[Value.str (Str.ofString "text") 1169]) #[]) ::
(nat_lit 678, Obj.mk (Value.type "tuple") none (Data.seq #[Value.str (Str.ofString "hover_kind") 1168, Value.ref 677]) #[]) ::
(nat_lit 679, Obj.mk (Value.type "tuple") none (Data.seq #[Value.str (Str.ofString "uint") 1171, Value.str (Str.ofString "int") 1172, Value.str (Str.ofString "int") 1173]) #[]) ::
(nat_lit 680, Obj.mk (Value.type "tuple") none (Data.seq #[Value.str (Str.ofString "moved") 1170, Value.ref 679]) #[]) ::
(nat_lit 681, Obj.mk (Value.type "tuple") none (Data.seq #[]) #[]) ::
(nat_lit 682, Obj.mk (Value.type "tuple") none (Data.seq #[Value.str (Str.ofString "away") 1174, Value.ref 681]) #[]) ::
(nat_lit 683, Obj.mk (Value.type "tuple") none (Data.seq #[]) #[]) ::
(nat_lit 684, Obj.mk (Value.type "tuple") none (Data.seq #[Value.str (Str.ofString "ended") 1175, Value.ref 683]) #[]) ::
(nat_lit 685, Obj.mk (Value.type "tuple") none (Data.seq #[Value.ref 674, Value.ref 676, Value.ref 678, Value.ref 680, Value.ref 682, Value.ref 684]) #[]) ::
(nat_lit 686, Obj.mk (Value.type "tuple") none (Data.seq #[Value.str (Str.ofString "text") 1178, Value.str (Str.ofString "uint") 1179]) #[]) ::
(nat_lit 687, Obj.mk (Value.type "tuple") none (Data.seq #[Value.str (Str.ofString "kind") 1177, Value.ref 686]) #[]) ::
(nat_lit 688, Obj.mk (Value.type "tuple") none (Data.seq #[Value.str (Str.ofString "text") 1181, Value.str (Str.ofString "uint") 1182, Value.str (Str.ofString "octets") 1183]) #[]) ::
(nat_lit 689, Obj.mk (Value.type "tuple") none (Data.seq #[Value.str (Str.ofString "part") 1180, Value.ref 688]) #[]) ::
(nat_lit 690, Obj.mk (Value.type "tuple") none (Data.seq #[Value.ref 687, Value.ref 689]) #[]) ::
(nat_lit 691, Obj.mk (Value.type "tuple") none (Data.seq #[Value.str (Str.ofString "uint") 1186, Value.str (Str.ofString "uint") 1187]) #[]) ::
(nat_lit 692, Obj.mk (Value.type "tuple") none (Data.seq #[Value.str (Str.ofString "allowed") 1185, Value.ref 691]) #[]) ::
(nat_lit 693, Obj.mk (Value.type "tuple") none (Data.seq #[]) #[]) ::
(nat_lit 694, Obj.mk (Value.type "tuple") none (Data.seq #[Value.str (Str.ofString "refused") 1188, Value.ref 693]) #[]) ::
(nat_lit 695, Obj.mk (Value.type "tuple") none (Data.seq #[Value.str (Str.ofString "uint") 1190, Value.str (Str.ofString "octets") 1191]) #[]) ::
(nat_lit 696, Obj.mk (Value.type "tuple") none (Data.seq #[Value.str (Str.ofString "rows") 1189, Value.ref 695]) #[]) ::
(nat_lit 697, Obj.mk (Value.type "tuple") none (Data.seq #[Value.ref 692, Value.ref 694, Value.ref 696]) #[]) ::
(nat_lit 698, Obj.mk (Value.type "tuple") none (Data.seq #[Value.str (Str.ofString "uint") 1194]) #[]) ::
(nat_lit 699, Obj.mk (Value.type "tuple") none (Data.seq #[Value.str (Str.ofString "changed") 1193, Value.ref 698]) #[]) ::
(nat_lit 700, Obj.mk (Value.type "tuple") none (Data.seq #[]) #[]) ::
(nat_lit 701, Obj.mk (Value.type "tuple") none (Data.seq #[Value.str (Str.ofString "gone") 1195, Value.ref 700]) #[]) ::
(nat_lit 702, Obj.mk (Value.type "tuple") none (Data.seq #[Value.str (Str.ofString "uint") 1197, Value.str (Str.ofString "octets") 1198]) #[]) ::
(nat_lit 703, Obj.mk (Value.type "tuple") none (Data.seq #[Value.str (Str.ofString "part") 1196, Value.ref 702]) #[]) ::
(nat_lit 704, Obj.mk (Value.type "tuple") none (Data.seq #[Value.ref 699, Value.ref 701, Value.ref 703]) #[]) ::
(nat_lit 705, Obj.mk (Value.type "tuple") none (Data.seq #[]) #[]) ::
(nat_lit 706, Obj.mk (Value.type "tuple") none (Data.seq #[Value.str (Str.ofString "there") 1200, Value.ref 705]) #[]) ::
(nat_lit 707, Obj.mk (Value.type "tuple") none (Data.seq #[]) #[]) ::
(nat_lit 708, Obj.mk (Value.type "tuple") none (Data.seq #[Value.str (Str.ofString "gone") 1201, Value.ref 707]) #[]) ::
(nat_lit 709, Obj.mk (Value.type "tuple") none (Data.seq #[Value.ref 706, Value.ref 708]) #[]) ::
(nat_lit 710, Obj.mk (Value.type "tuple") none (Data.seq #[]) #[]) ::
(nat_lit 712, Obj.mk (Value.type "tuple") none (Data.seq #[Value.str (Str.ofString "number") 1220, Value.str (Str.ofString "interface") 1221, Value.str (Str.ofString "name") 1222, Value.str (Str.ofString "values") 1223, Value.str (Str.ofString "rows") 1224, Value.str (Str.ofString "opcode") 1225, Value.str (Str.ofString "kinds") 1226]) #[]) ::
(nat_lit 713, Obj.mk (Value.type "tuple") none (Data.seq #[]) #[]) ::
(nat_lit 715, Obj.mk (Value.type "code") none (Data.fields #[Value.str (Str.ofString "event_octets") 1217, Value.str (Str.ofString "event_octets") 1218, Value.str (Str.ofString "/claim/cut.py") 1219, Value.int 397 0, Value.int 4 0, Value.int 0 0, Value.int 0 0, Value.int 3 0, Value.ref 710, Value.bool true, Value.int 181 0, Value.ref 711, Value.none, Value.ref 712, Value.ref 713, Value.ref 714, Value.int 1227 0, Value.int 397 0, Value.str (Str.ofString "/claim/cut.py") 1228]) #[]) ::
(nat_lit 716, Obj.mk (Value.type "function") none (Data.func (FuncData.mk (Str.ofString "event_octets") (Str.ofString "event_octets") (defArgs (topS 62)) (.stmts (defBody (topS 62))) (defScope (topS 62)) 3 [] Value.none Value.none Value.none (Value.str (Str.ofString "sillwatch.objects.tables") 1080) none (Value.ref 715) Value.none 0)) #[]) ::
(nat_lit 717, Obj.mk (Value.type "tuple") none (Data.seq #[]) #[]) ::
(nat_lit 720, Obj.mk (Value.type "code") none (Data.fields #[Value.str (Str.ofString "_opcode_of") 1230, Value.str (Str.ofString "_opcode_of") 1231, Value.str (Str.ofString "/claim/cut.py") 1232, Value.int 402 0, Value.int 2 0, Value.int 0 0, Value.int 0 0, Value.int 3 0, Value.ref 717, Value.bool true, Value.int 181 0, Value.ref 718, Value.none, Value.none, Value.none, Value.ref 719, Value.int 1233 0, Value.int 402 0, Value.str (Str.ofString "/claim/cut.py") 1234]) #[]) ::
(nat_lit 721, Obj.mk (Value.type "function") none (Data.func (FuncData.mk (Str.ofString "_opcode_of") (Str.ofString "_opcode_of") (defArgs (topS 63)) (.stmts (defBody (topS 63))) (defScope (topS 63)) 3 [] Value.none Value.none Value.none (Value.str (Str.ofString "sillwatch.objects.tables") 1080) none (Value.ref 720) Value.none 0)) #[]) ::
(nat_lit 729, Obj.mk (Value.type "tuple") none (Data.seq #[]) #[]) ::
(nat_lit 731, Obj.mk (Value.type "tuple") none (Data.seq #[Value.str (Str.ofString "self") 1253]) #[]) ::
(nat_lit 732, Obj.mk (Value.type "tuple") none (Data.seq #[]) #[]) ::
(nat_lit 734, Obj.mk (Value.type "code") none (Data.fields #[Value.str (Str.ofString "__init__") 1250, Value.str (Str.ofString "Reply.__init__") 1251, Value.str (Str.ofString "/claim/cut.py") 1252, Value.int 407 0, Value.int 1 0, Value.int 0 0, Value.int 0 0, Value.int 3 0, Value.ref 729, Value.bool true, Value.int 181 0, Value.ref 730, Value.none, Value.ref 731, Value.ref 732, Value.ref 733, Value.int 1254 0, Value.int 407 0, Value.str (Str.ofString "/claim/cut.py") 1255]) #[]) ::
(nat_lit 735, Obj.mk (Value.type "function") none (Data.func (FuncData.mk (Str.ofString "__init__") (Str.ofString "Reply.__init__") (defArgs (inClass (topS 65) 0)) (.stmts (defBody (inClass (topS 65) 0))) (defScope (inClass (topS 65) 0)) 3 [] Value.none Value.none Value.none (Value.str (Str.ofString "sillwatch.objects.replies") 1236) none (Value.ref 734) Value.none 0)) #[]) ::
(nat_lit 736, Obj.mk (Value.type "tuple") none (Data.seq #[]) #[]) ::
(nat_lit 738, Obj.mk (Value.type "tuple") none (Data.seq #[Value.str (Str.ofString "self") 1260, Value.str (Str.ofString "number") 1261, Value.str (Str.ofString "interface") 1262, Value.str (Str.ofString "name") 1263, Value.str (Str.ofString "values") 1264]) #[]) ::
(nat_lit 739, Obj.mk (Value.type "tuple") none (Data.seq #[]) #[]) ::
(nat_lit 741, Obj.mk (Value.type "code") none (Data.fields #[Value.str (Str.ofString "tell") 1257, Value.str (Str.ofString "Reply.tell") 1258, Value.str (Str.ofString "/claim/cut.py") 1259, Value.int 413 0, Value.int 5 0, Value.int 0 0, Value.int 0 0, Value.int 3 0, Value.ref 736, Value.bool true, Value.int 181 0, Value.ref 737, Value.none, Value.ref 738, Value.ref 739, Value.ref 740, Value.int 1265 0, Value.int 413 0, Value.str (Str.ofString "/claim/cut.py") 1266]) #[]) ::
(nat_lit 742, Obj.mk (Value.type "function") none (Data.func (FuncData.mk (Str.ofString "tell") (Str.ofString "Reply.tell") (defArgs (inClass (topS 65) 1)) (.stmts (defBody (inClass (topS 65) 1))) (defScope (inClass (topS 65) 1)) 3 [] Value.none Value.none Value.none (Value.str (Str.ofString "sillwatch.objects.replies") 1236) none (Value.ref 741) Value.none 0)) #[]) ::
(nat_lit 743, Obj.mk (Value.type "tuple") none (Data.seq #[]) #[]) ::
(nat_lit 745, Obj.mk (Value.type "tuple") none (Data.seq #[Value.str (Str.ofString "self") 1271, Value.str (Str.ofString "number") 1272]) #[]) ::
(nat_lit 746, Obj.mk (Value.type "tuple") none (Data.seq #[]) #[]) ::
(nat_lit 748, Obj.mk (Value.type "code") none (Data.fields #[Value.str (Str.ofString "end") 1268, Value.str (Str.ofString "Reply.end") 1269, Value.str (Str.ofString "/claim/cut.py") 1270, Value.int 416 0, Value.int 2 0, Value.int 0 0, Value.int 0 0, Value.int 3 0, Value.ref 743, Value.bool true, Value.int 181 0, Value.ref 744, Value.none, Value.ref 745, Value.ref 746, Value.ref 747, Value.int 1273 0, Value.int 416 0, Value.str (Str.ofString "/claim/cut.py") 1274]) #[]) ::
(nat_lit 749, Obj.mk (Value.type "function") none (Data.func (FuncData.mk (Str.ofString "end") (Str.ofString "Reply.end") (defArgs (inClass (topS 65) 2)) (.stmts (defBody (inClass (topS 65) 2))) (defScope (inClass (topS 65) 2)) 3 [] Value.none Value.none Value.none (Value.str (Str.ofString "sillwatch.objects.replies") 1236) none (Value.ref 748) Value.none 0)) #[]) ::
(nat_lit 750, Obj.mk (Value.type "tuple") none (Data.seq #[]) #[]) ::
(nat_lit 752, Obj.mk (Value.type "tuple") none (Data.seq #[Value.str (Str.ofString "self") 1279, Value.str (Str.ofString "deed") 1280]) #[]) ::
(nat_lit 753, Obj.mk (Value.type "tuple") none (Data.seq #[]) #[]) ::
(nat_lit 755, Obj.mk (Value.type "code") none (Data.fields #[Value.str (Str.ofString "wish") 1276, Value.str (Str.ofString "Reply.wish") 1277, Value.str (Str.ofString "/claim/cut.py") 1278, Value.int 419 0, Value.int 2 0, Value.int 0 0, Value.int 0 0, Value.int 3 0, Value.ref 750, Value.bool true, Value.int 181 0, Value.ref 751, Value.none, Value.ref 752, Value.ref 753, Value.ref 754, Value.int 1281 0, Value.int 419 0, Value.str (Str.ofString "/claim/cut.py") 1282]) #[]) ::
(nat_lit 756, Obj.mk (Value.type "function") none (Data.func (FuncData.mk (Str.ofString "wish") (Str.ofString "Reply.wish") (defArgs (inClass (topS 65) 3)) (.stmts (defBody (inClass (topS 65) 3))) (defScope (inClass (topS 65) 3)) 3 [] Value.none Value.none Value.none (Value.str (Str.ofString "sillwatch.objects.replies") 1236) none (Value.ref 755) Value.none 0)) #[]) ::
(nat_lit 757, Obj.mk (Value.type "tuple") none (Data.seq #[Value.str (Str.ofString "applied") 1284, Value.str (Str.ofString "ended") 1285, Value.str (Str.ofString "told") 1286, Value.str (Str.ofString "wishes") 1287]) #[]) ::
(nat_lit 758, Obj.mk (Value.type "dict") none (Data.dict #[DictEntry.mk (PyData.keyHash PP (Str.ofString "__module__")) (Value.str (Str.ofString "__module__") 1245) (Value.str (Str.ofString "sillwatch.objects.replies") 1236), DictEntry.mk (PyData.keyHash PP (Str.ofString "__firstlineno__")) (Value.str (Str.ofString "__firstlineno__") 1249) (Value.int 405 1248), DictEntry.mk (PyData.keyHash PP (Str.ofString "__init__")) (Value.str (Str.ofString "__init__") 1256) (Value.ref 735), DictEntry.mk (PyData.keyHash PP (Str.ofString "tell")) (Value.str (Str.ofString "tell") 1267) (Value.ref 742), DictEntry.mk (PyData.keyHash PP (Str.ofString "end")) (Value.str (Str.ofString "end") 1275) (Value.ref 749), DictEntry.mk (PyData.keyHash PP (Str.ofString "wish")) (Value.str (Str.ofString "wish") 1283) (Value.ref 756), DictEntry.mk (PyData.keyHash PP (Str.ofString "__static_attributes__")) (Value.str (Str.ofString "__static_attributes__") 1288) (Value.ref 757), DictEntry.mk (PyData.keyHash PP (Str.ofString "__dict__")) (Value.str (Str.ofString "__dict__") 1290) (Value.ref 760), DictEntry.mk (PyData.keyHash PP (Str.ofString "__weakref__")) (Value.str (Str.ofString "__weakref__") 1292) (Value.ref 761), DictEntry.mk (PyData.keyHash PP (Str.ofString "__doc__")) (Value.str (Str.ofString "__doc__") 1293) Value.none] 4) #[]) ::
(nat_lit 759, Obj.mk (Value.type "type") none (Data.cls (ClassData.mk (Str.ofString "Reply") [Value.type "object"] [Value.ref 759, Value.type "object"] 758 (Str.ofString "Reply") true [] [] false none false)) #[none, none, some (Value.str (Str.ofString "Reply") 1238), some (Value.str (Str.ofString "Reply") 1246), some (Value.builtin "object.__new__"), some (Value.bool true)]) ::
(nat_lit 760, Obj.mk (Value.type "getset_descriptor") none (Data.fields #[Value.str (Str.ofString "__dict__") 1289, Value.ref 759, Value.builtin "function.__dict__", Value.builtin "function.__dict__#set"]) #[]) ::
(nat_lit 761, Obj.mk (Value.type "getset_descriptor") none (Data.fields #[Value.str (Str.ofString "__weakref__") 1291, Value.ref 759, Value.builtin "ExceptionGroup.__weakref__", Value.none]) #[]) ::
(nat_lit 771, Obj.mk (Value.type "tuple") none (Data.seq #[]) #[]) ::
(nat_lit 773, Obj.mk (Value.type "tuple") none (Data.seq #[Value.str (Str.ofString "self") 1313, Value.str (Str.ofString "number") 1314, Value.str (Str.ofString "interface") 1315, Value.str (Str.ofString "name") 1316, Value.str (Str.ofString "arguments") 1317, Value.str (Str.ofString "ends") 1318]) #[]) ::
(nat_lit 774, Obj.mk (Value.type "tuple") none (Data.seq #[]) #[]) ::
(nat_lit 776, Obj.mk (Value.type "code") none (Data.fields #[Value.str (Str.ofString "__init__") 1310, Value.str (Str.ofString "Request.__init__") 1311, Value.str (Str.ofString "/claim/cut.py") 1312, Value.int 424 0, Value.int 6 0, Value.int 0 0, Value.int 0 0, Value.int 3 0, Value.ref 771, Value.bool true, Value.int 181 0, Value.ref 772, Value.none, Value.ref 773, Value.ref 774, Value.ref 775, Value.int 1319 0, Value.int 424 0, Value.str (Str.ofString "/claim/cut.py") 1320]) #[]) ::
(nat_lit 777, Obj.mk (Value.type "function") none (Data.func (FuncData.mk (Str.ofString "__init__") (Str.ofString "Request.__init__") (defArgs (inClass (topS 67) 0)) (.stmts (defBody (inClass (topS 67) 0))) (defScope (inClass (topS 67) 0)) 3 [] Value.none Value.none Value.none (Value.str (Str.ofString "sillwatch.objects.requests") 1296) none (Value.ref 776) Value.none 0)) #[]) ::
(nat_lit 778, Obj.mk (Value.type "tuple") none (Data.seq #[Value.str (Str.ofString "arguments") 1322, Value.str (Str.ofString "ends") 1323, Value.str (Str.ofString "interface") 1324, Value.str (Str.ofString "name") 1325, Value.str (Str.ofString "number") 1326]) #[]) ::
(nat_lit 779, Obj.mk (Value.type "dict") none (Data.dict #[DictEntry.mk (PyData.keyHash PP (Str.ofString "__module__")) (Value.str (Str.ofString "__module__") 1305) (Value.str (Str.ofString "sillwatch.objects.requests") 1296), DictEntry.mk (PyData.keyHash PP (Str.ofString "__firstlineno__")) (Value.str (Str.ofString "__firstlineno__") 1309) (Value.int 422 1308), DictEntry.mk (PyData.keyHash PP (Str.ofString "__init__")) (Value.str (Str.ofString "__init__") 1321) (Value.ref 777), DictEntry.mk (PyData.keyHash PP (Str.ofString "__static_attributes__")) (Value.str (Str.ofString "__static_attributes__") 1327) (Value.ref 778), DictEntry.mk (PyData.keyHash PP (Str.ofString "__dict__")) (Value.str (Str.ofString "__dict__") 1329) (Value.ref 781), DictEntry.mk (PyData.keyHash PP (Str.ofString "__weakref__")) (Value.str (Str.ofString "__weakref__") 1331) (Value.ref 782), DictEntry.mk (PyData.keyHash PP (Str.ofString "__doc__")) (Value.str (Str.ofString "__doc__") 1332) Value.none] 4) #[]) ::
(nat_lit 780, Obj.mk (Value.type "type") none (Data.cls (ClassData.mk (Str.ofString "Request") [Value.type "object"] [Value.ref 780, Value.type "object"] 779 (Str.ofString "Request") true [] [] false none false)) #[none, none, some (Value.str (Str.ofString "Request") 1298), some (Value.str (Str.ofString "Request") 1306), some (Value.builtin "object.__new__"), some (Value.bool true)]) ::
(nat_lit 781, Obj.mk (Value.type "getset_descriptor") none (Data.fields #[Value.str (Str.ofString "__dict__") 1328, Value.ref 780, Value.builtin "function.__dict__", Value.builtin "function.__dict__#set"]) #[]) ::
(nat_lit 782, Obj.mk (Value.type "getset_descriptor") none (Data.fields #[Value.str (Str.ofString "__weakref__") 1330, Value.ref 780, Value.builtin "ExceptionGroup.__weakref__", Value.none]) #[]) ::
(nat_lit 785, Obj.mk (Value.type "tuple") none (Data.seq #[]) #[]) ::
(nat_lit 787, Obj.mk (Value.type "tuple") none (Data.seq #[Value.str (Str.ofString "script") 1340, Value.str (Str.ofString "k") 1341, Value.str (Str.ofString "cell") 1342]) #[]) ::
(nat_lit 788, Obj.mk (Value.type "tuple") none (Data.seq #[]) #[]) ::
(nat_lit 790, Obj.mk (Value.type "code") none (Data.fields #[Value.str (Str.ofString "_law_cell") 1337, Value.str (Str.ofString "_law_cell") 1338, Value.str (Str.ofString "/claim/cut.py") 1339, Value.int 431 0, Value.int 2 0, Value.int 0 0, Value.int 0 0, Value.int 3 0, Value.ref 785, Value.bool true, Value.int 181 0, Value.ref 786, Value.none, Value.ref 787, Value.ref 788, Value.ref 789, Value.int 1343 0, Value.int 431 0, Value.str (Str.ofString "/claim/cut.py") 1344]) #[]) ::
(nat_lit 791, Obj.mk (Value.type "function") none (Data.func (FuncData.mk (Str.ofString "_law_cell") (Str.ofString "_law_cell") (defArgs (topS 69)) (.stmts (defBody (topS 69))) (defScope (topS 69)) 3 [] Value.none Value.none Value.none (Value.str (Str.ofString "law_sillwatch_k64_captures") 1335) none (Value.ref 790) Value.none 0)) #[]) ::
(nat_lit 792, Obj.mk (Value.type "tuple") none (Data.seq #[]) #[]) ::
(nat_lit 794, Obj.mk (Value.type "tuple") none (Data.seq #[Value.str (Str.ofString "script") 1349, Value.str (Str.ofString "k") 1350, Value.str (Str.ofString "cell") 1351, Value.str (Str.ofString "one") 1352, Value.str (Str.ofString "two") 1353]) #[]) ::
(nat_lit 795, Obj.mk (Value.type "tuple") none (Data.seq #[]) #[]) ::
(nat_lit 797, Obj.mk (Value.type "code") none (Data.fields #[Value.str (Str.ofString "_law_row") 1346, Value.str (Str.ofString "_law_row") 1347, Value.str (Str.ofString "/claim/cut.py") 1348, Value.int 438 0, Value.int 2 0, Value.int 0 0, Value.int 0 0, Value.int 3 0, Value.ref 792, Value.bool true, Value.int 181 0, Value.ref 793, Value.none, Value.ref 794, Value.ref 795, Value.ref 796, Value.int 1354 0, Value.int 438 0, Value.str (Str.ofString "/claim/cut.py") 1355]) #[]) ::
(nat_lit 798, Obj.mk (Value.type "function") none (Data.func (FuncData.mk (Str.ofString "_law_row") (Str.ofString "_law_row") (defArgs (topS 70)) (.stmts (defBody (topS 70))) (defScope (topS 70)) 3 [] Value.none Value.none Value.none (Value.str (Str.ofString "law_sillwatch_k64_captures") 1335) none (Value.ref 797) Value.none 0)) #[]) ::
(nat_lit 799, Obj.mk (Value.type "tuple") none (Data.seq #[]) #[]) ::
(nat_lit 801, Obj.mk (Value.type "tuple") none (Data.seq #[Value.str (Str.ofString "holdings") 1360, Value.str (Str.ofString "row") 1361, Value.str (Str.ofString "grant") 1362, Value.str (Str.ofString "gripped") 1363, Value.str (Str.ofString "dragging") 1364, Value.str (Str.ofString "reply") 1365, Value.str (Str.ofString "request") 1366, Value.str (Str.ofString "e") 1367]) #[]) ::
(nat_lit 802, Obj.mk (Value.type "tuple") none (Data.seq #[]) #[]) ::
(nat_lit 804, Obj.mk (Value.type "code") none (Data.fields #[Value.str (Str.ofString "_law_serve") 1357, Value.str (Str.ofString "_law_serve") 1358, Value.str (Str.ofString "/claim/cut.py") 1359, Value.int 445 0, Value.int 5 0, Value.int 0 0, Value.int 0 0, Value.int 3 0, Value.ref 799, Value.bool true, Value.int 181 0, Value.ref 800, Value.none, Value.ref 801, Value.ref 802, Value.ref 803, Value.int 1368 0, Value.int 445 0, Value.str (Str.ofString "/claim/cut.py") 1369]) #[]) ::
(nat_lit 805, Obj.mk (Value.type "function") none (Data.func (FuncData.mk (Str.ofString "_law_serve") (Str.ofString "_law_serve") (defArgs (topS 71)) (.stmts (defBody (topS 71))) (defScope (topS 71)) 3 [] Value.none Value.none Value.none (Value.str (Str.ofString "law_sillwatch_k64_captures") 1335) none (Value.ref 804) Value.none 0)) #[]) ::
(nat_lit 806, Obj.mk (Value.type "tuple") none (Data.seq #[]) #[]) ::
(nat_lit 808, Obj.mk (Value.type "tuple") none (Data.seq #[Value.str (Str.ofString "row") 1374]) #[]) ::
(nat_lit 809, Obj.mk (Value.type "tuple") none (Data.seq #[]) #[]) ::
(nat_lit 811, Obj.mk (Value.type "code") none (Data.fields #[Value.str (Str.ofString "_law_size") 1371, Value.str (Str.ofString "_law_size") 1372, Value.str (Str.ofString "/claim/cut.py") 1373, Value.int 453 0, Value.int 1 0, Value.int 0 0, Value.int 0 0, Value.int 3 0, Value.ref 806, Value.bool true, Value.int 181 0, Value.ref 807, Value.none, Value.ref 808, Value.ref 809, Value.ref 810, Value.int 1375 0, Value.int 453 0, Value.str (Str.ofString "/claim/cut.py") 1376]) #[]) ::
(nat_lit 812, Obj.mk (Value.type "function") none (Data.func (FuncData.mk (Str.ofString "_law_size") (Str.ofString "_law_size") (defArgs (topS 72)) (.stmts (defBody (topS 72))) (defScope (topS 72)) 3 [] Value.none Value.none Value.none (Value.str (Str.ofString "law_sillwatch_k64_captures") 1335) none (Value.ref 811) Value.none 0)) #[]) ::
(nat_lit 813, Obj.mk (Value.type "tuple") none (Data.seq #[]) #[]) ::
(nat_lit 815, Obj.mk (Value.type "tuple") none (Data.seq #[Value.str (Str.ofString "holdings") 1381, Value.str (Str.ofString "captures") 1382, Value.str (Str.ofString "k") 1383, Value.str (Str.ofString "row") 1384, Value.str (Str.ofString "number") 1385, Value.str (Str.ofString "width") 1386, Value.str (Str.ofString "height") 1387, Value.str (Str.ofString "place") 1388, Value.str (Str.ofString "told") 1389]) #[]) ::
(nat_lit 816, Obj.mk (Value.type "tuple") none (Data.seq #[]) #[]) ::
(nat_lit 818, Obj.mk (Value.type "code") none (Data.fields #[Value.str (Str.ofString "_law_ask") 1378, Value.str (Str.ofString "_law_ask") 1379, Value.str (Str.ofString "/claim/cut.py") 1380, Value.int 457 0, Value.int 4 0, Value.int 0 0, Value.int 0 0, Value.int 3 0, Value.ref 813, Value.bool true, Value.int 181 0, Value.ref 814, Value.none, Value.ref 815, Value.ref 816, Value.ref 817, Value.int 1390 0, Value.int 457 0, Value.str (Str.ofString "/claim/cut.py") 1391]) #[]) ::
(nat_lit 819, Obj.mk (Value.type "function") none (Data.func (FuncData.mk (Str.ofString "_law_ask") (Str.ofString "_law_ask") (defArgs (topS 73)) (.stmts (defBody (topS 73))) (defScope (topS 73)) 3 [] Value.none Value.none Value.none (Value.str (Str.ofString "law_sillwatch_k64_captures") 1335) none (Value.ref 818) Value.none 0)) #[]) ::
(nat_lit 820, Obj.mk (Value.type "tuple") none (Data.seq #[]) #[]) ::
(nat_lit 823, Obj.mk (Value.type "code") none (Data.fields #[Value.str (Str.ofString "_law_answer") 1393, Value.str (Str.ofString "_law_answer") 1394, Value.str (Str.ofString "/claim/cut.py") 1395, Value.int 469 0, Value.int 3 0, Value.int 0 0, Value.int 0 0, Value.int 3 0, Value.ref 820, Value.bool true, Value.int 181 0, Value.ref 821, Value.none, Value.none, Value.none, Value.ref 822, Value.int 1396 0, Value.int 469 0, Value.str (Str.ofString "/claim/cut.py") 1397]) #[]) ::
(nat_lit 824, Obj.mk (Value.type "function") none (Data.func (FuncData.mk (Str.ofString "_law_answer") (Str.ofString "_law_answer") (defArgs (topS 74)) (.stmts (defBody (topS 74))) (defScope (topS 74)) 3 [] Value.none Value.none Value.none (Value.str (Str.ofString "law_sillwatch_k64_captures") 1335) none (Value.ref 823) Value.none 0)) #[]) ::
(nat_lit 825, Obj.mk (Value.type "tuple") none (Data.seq #[]) #[]) ::
(nat_lit 827, Obj.mk (Value.type "tuple") none (Data.seq #[Value.str (Str.ofString "holdings") 1402, Value.str (Str.ofString "one") 1403, Value.str (Str.ofString "row") 1404, Value.str (Str.ofString "begin") 1405, Value.str (Str.ofString "count") 1406, Value.str (Str.ofString "told") 1407, Value.str (Str.ofString "due") 1408]) #[]) ::
(nat_lit 828, Obj.mk (Value.type "tuple") none (Data.seq #[]) #[]) ::
(nat_lit 830, Obj.mk (Value.type "code") none (Data.fields #[Value.str (Str.ofString "_law_read") 1399, Value.str (Str.ofString "_law_read") 1400, Value.str (Str.ofString "/claim/cut.py") 1401, Value.int 479 0, Value.int 3 0, Value.int 0 0, Value.int 0 0, Value.int 3 0, Value.ref 825, Value.bool true, Value.int 181 0, Value.ref 826, Value.none, Value.ref 827, Value.ref 828, Value.ref 829, Value.int 1409 0, Value.int 479 0, Value.str (Str.ofString "/claim/cut.py") 1410]) #[]) ::
(nat_lit 831, Obj.mk (Value.type "function") none (Data.func (FuncData.mk (Str.ofString "_law_read") (Str.ofString "_law_read") (defArgs (topS 75)) (.stmts (defBody (topS 75))) (defScope (topS 75)) 3 [] Value.none Value.none Value.none (Value.str (Str.ofString "law_sillwatch_k64_captures") 1335) none (Value.ref 830) Value.none 0)) #[]) ::
(nat_lit 832, Obj.mk (Value.type "tuple") none (Data.seq #[]) #[]) ::
(nat_lit 835, Obj.mk (Value.type "code") none (Data.fields #[Value.str (Str.ofString "law") 1412, Value.str (Str.ofString "law") 1413, Value.str (Str.ofString "/claim/cut.py") 1414, Value.int 487 0, Value.int 1 0, Value.int 0 0, Value.int 0 0, Value.int 3 0, Value.ref 832, Value.bool true, Value.int 181 0, Value.ref 833, Value.none, Value.none, Value.none, Value.ref 834, Value.int 1415 0, Value.int 487 0, Value.str (Str.ofString "/claim/cut.py") 1416]) #[]) ::
(nat_lit 836, Obj.mk (Value.type "function") none (Data.func (FuncData.mk (Str.ofString "law") (Str.ofString "law") (defArgs (topS 76)) (.stmts (defBody (topS 76))) (defScope (topS 76)) 3 [] Value.none Value.none Value.none (Value.str (Str.ofString "law_sillwatch_k64_captures") 1335) none (Value.ref 835) Value.none 0)) #[]) :: []
def KA : List Addr := [2, 3, 15, 17, 18, 20, 21, 22, 29, 30, 31, 32, 35, 42, 43, 44, 47, 54, 55, 56, 59, 62, 67, 68, 70, 71, 73, 74, 75, 76, 77, 87, 89, 90, 92, 93, 94, 96, 97, 99, 100, 101, 103, 104, 106, 107, 108, 110, 111, 113, 114, 115, 117, 118, 120, 121, 122, 123, 124, 125, 126, 136, 138, 139, 141, 142, 143, 144, 145, 146, 147, 157, 159, 160, 162, 163, 164, 165, 166, 167, 168, 178, 180, 181, 183, 184, 185, 187, 188, 190, 191, 192, 194, 195, 197, 198, 199, 202, 203, 204, 206, 207, 209, 210, 211, 213, 214, 216, 217, 218, 220, 221, 223, 224, 225, 227, 228, 230, 231, 232, 233, 234, 235, 236, 239, 241, 242, 244, 245, 253, 255, 256, 258, 259, 260, 262, 263, 265, 266, 267, 269, 270, 272, 273, 274, 276, 277, 279, 280, 281, 283, 284, 286, 287, 288, 290, 291, 293, 294, 295, 297, 298, 300, 301, 302, 304, 305, 307, 308, 309, 311, 312, 314, 315, 316, 318, 319, 321, 322, 323, 324, 325, 326, 327, 337, 339, 340, 342, 343, 344, 345, 346, 347, 348, 358, 360, 361, 363, 364, 365, 367, 368, 370, 371, 372, 375, 376, 377, 379, 380, 382, 383, 384, 387, 388, 389, 391, 392, 394, 395, 396, 399, 400, 401, 402, 403, 404, 405, 415, 417, 418, 420, 421, 422, 424, 425, 427, 428, 429, 431, 432, 434, 435, 436, 438, 439, 441, 442, 443, 445, 446, 448, 449, 450, 452, 453, 455, 456, 457, 459, 460, 462, 463, 464, 466, 467, 469, 470, 471, 473, 474, 476, 477, 478, 480, 481, 483, 484, 485, 487, 488, 490, 491, 492, 494, 495, 497, 498, 499, 501, 502, 504, 505, 506, 508, 509, 511, 512, 513, 515, 516, 518, 519, 520, 522, 523, 525, 526, 527, 529, 530, 532, 533, 534, 536, 537, 539, 540, 541, 542, 543, 544, 545, 548, 550, 551, 553, 554, 555, 558, 559, 560, 563, 564, 565, 567, 568, 570, 571, 572, 574, 575, 577, 578, 579, 581, 582, 584, 585, 586, 589, 590, 591, 593, 594, 596, 597, 598, 601, 602, 603, 605, 606, 608, 609, 610, 612, 613, 615, 616, 617, 618, 619, 620, 621, 622, 623, 624, 625, 626, 627, 628, 629, 630, 631, 632, 633, 634, 635, 636, 637, 638, 639, 640, 641, 642, 643, 644, 645, 646, 647, 648, 649, 650, 651, 652, 653, 654, 655, 656, 657, 658, 659, 660, 661, 662, 663, 664, 665, 666, 667, 668, 669, 670, 671, 672, 673, 674, 675, 676, 677, 678, 679, 680, 681, 682, 683, 684, 685, 686, 687, 688, 689, 690, 691, 692, 693, 694, 695, 696, 697, 698, 699, 700, 701, 702, 703, 704, 705, 706, 707, 708, 709, 710, 712, 713, 715, 716, 717, 720, 721, 729, 731, 732, 734, 735, 736, 738, 739, 741, 742, 743, 745, 746, 748, 749, 750, 752, 753, 755, 756, 757, 758, 759, 760, 761, 771, 773, 774, 776, 777, 778, 779, 780, 781, 782, 785, 787, 788, 790, 791, 792, 794, 795, 797, 798, 799, 801, 802, 804, 805, 806, 808, 809, 811, 812, 813, 815, 816, 818, 819, 820, 823, 824, 825, 827, 828, 830, 831, 832, 835, 836]
abbrev RR : PySem.W.OpenRow := PySem.W.OpenLaw.row PySem.Challenge.rw_sillwatch_k64_captures
def qv : Program := PySem.W.view RR.prog [76]
def looseN : List Str := ([Str.ofString "_wall", Str.ofString "DisplayError", Str.ofString "BadMessage", Str.ofString "MessageTooLong", Str.ofString "Fault", Str.ofString "LONGEST_SIDE", Str.ofString "MOST_PIXELS", Str.ofString "MOST_CAPTURES", Str.ofString "MOST_READ_captures", Str.ofString "Captures", Str.ofString "LONGEST_TEXT_fetches", Str.ofString "MOST_FETCHES", Str.ofString "MOST_WATCHES", Str.ofString "MOST_READ_fetches", Str.ofString "Fetch", Str.ofString "Watch", Str.ofString "Fetches", Str.ofString "_check_new", Str.ofString "MOST_READ_offers", Str.ofString "Offers", Str.ofString "MOST_SOURCES", Str.ofString "MOST_KINDS", Str.ofString "MOST_OCTETS_sources", Str.ofString "LONGEST_TEXT_sources", Str.ofString "Source", Str.ofString "Sources", Str.ofString "MOST_SENT_OCTETS", Str.ofString "MOST_SENT_NAMES", Str.ofString "Holdings", Str.ofString "GREATEST_NUMBER", Str.ofString "LEAST_INT", Str.ofString "GREATEST_INT", Str.ofString "LONGEST_TEXT_fields", Str.ofString "MOST_OCTETS_fields", Str.ofString "_FIRST_CODE", Str.ofString "_LAST_CODE", Str.ofString "_PERCENT_CODE", Str.ofString "is_integer", Str.ofString "is_text", Str.ofString "number_octets"] : List Str) ++ ([Str.ofString "field_octets", Str.ofString "_is_code", Str.ofString "_is_of", Str.ofString "_are_octets", Str.ofString "_is_bound", Str.ofString "_text_octets", Str.ofString "_padded", Str.ofString "HEADER_SIZE", Str.ofString "GREATEST_SIZE", Str.ofString "GREATEST_OPCODE", Str.ofString "MOST_ARGUMENTS", Str.ofString "encode_message", Str.ofString "_EVENTS", Str.ofString "event_octets", Str.ofString "_opcode_of", Str.ofString "Reply", Str.ofString "Request", Str.ofString "_law_cell", Str.ofString "_law_row", Str.ofString "_law_serve", Str.ofString "_law_size", Str.ofString "_law_ask", Str.ofString "_law_answer", Str.ofString "_law_read"] : List Str)
theorem kae : ∀ P : Params, KA = (KF P).map (·.1) := fun _ => by kernel_rfl
def hkK : PySem.W.Hook := PySem.W.kHook KF KA kae
def obK (s : PySem.W.SharedT) : List (Option Obj) := KA.map (HandSHeadRun.getT s)
theorem obK_eq (s : PySem.W.SharedT) : obK s = hkK.obs s.abs := List.map_congr_left fun a _ => HandSHeadRun.getT_eq s a
theorem map3 {α β γ δ : Type} {o : Option α} {a : α → β} {b : α → γ} {c : α → δ} {x : β} {y : γ} {z : δ} (h1 : o.map (fun s => (a s, c s)) = some (x, z)) (h2 : o.map b = some y) : o.map (fun s => (a s, b s, c s)) = some (x, y, z) := by
  cases o with
  | none => cases h1
  | some s => cases h1; cases h2; rfl
abbrev LkP (w : World) : Prop := ∀ os : OsState, (HandSHeadRun.endF (HandSHeadRun.stepQ (HandSHeadRun.denQ HandSHeadRun.tabQ) RR.prog w) 13192 RR.prog w os).map (fun s => (HandSHeadRun.looksF RR.prog (PySem.W.boot_heap w.params) s.abs, obK s)) = some ((true, hkK.val w))
set_option maxHeartbeats 0 in
theorem falseLk (w : World) : LkP (w.withFollow "special-get-raises" false) := by intro os; kernel_rfl
set_option maxHeartbeats 0 in
theorem trueLk (w : World) : LkP (w.withFollow "special-get-raises" true) := by intro os; kernel_rfl
theorem allLk (w : World) : LkP w := PySem.W.byRow2 "special-get-raises" falseLk trueLk w
abbrev SaP (w : World) : Prop := ∀ os : OsState, (HandSHeadRun.endF (HandSHeadRun.stepQ (HandSHeadRun.denQ HandSHeadRun.tabQ) RR.prog w) 13192 RR.prog w os).map (fun s => HandSHeadRun.seenQ qv looseN (importedModules RR.prog.main.body) (fun s => PySem.W.xlAt qv [] s && PySem.W.recOk RR.toRowW.records s) s.abs) = some (PySem.W.openGood qv looseN)
set_option maxHeartbeats 0 in
theorem falseSa (w : World) : SaP (w.withFollow "special-get-raises" false) := by intro os; kernel_rfl
set_option maxHeartbeats 0 in
theorem trueSa (w : World) : SaP (w.withFollow "special-get-raises" true) := by intro os; kernel_rfl
theorem allSa (w : World) : SaP w := PySem.W.byRow2 "special-get-raises" falseSa trueSa w
theorem runK (w : World) : HandSHeadRun.RunEq RR qv hkK obK 13192 looseN w := fun os => map3 (allLk w os) (allSa w os)
end My
open PySem PySem.W PyProof.Rows
set_option maxRecDepth 100000 in
set_option maxHeartbeats 0 in
theorem PySem.Challenge.cw_sillwatch_k64_captures_holds : PySem.Challenge.rw_sillwatch_k64_captures.Holds := by
  w_on; o_law
  refine HandSHeadRun.head_any (r := PySem.W.OpenLaw.row PySem.Challenge.rw_sillwatch_k64_captures) (q := My.qv) (H := PySem.W.kHook My.KF My.KA My.kae) (ob := My.obK) (M := _) (loose := My.looseN) (kwd := []) My.obK_eq (by kernel_rfl) (fun s => by kernel_rfl) My.runK (by rfl) (by rfl) (by rfl) (by rfl) (by first | assumption | decide +kernel) (by decide +kernel) ⟨rfl, rfl, rfl, rfl, rfl, by decide +kernel⟩ ?hw ?hc
  (case hw => w_witness2)
  k_fill
  refine My.walk (l := PySem.Challenge.rw_sillwatch_k64_captures) rfl rfl (fun w h Y => PySem.W.kIn_of Y) ?F
  case F =>
    intro w mg fa h KX G hmg
    refine' My.all_mk (P := PySem.Challenge.rw_sillwatch_k64_captures.prog) ⟨by first | rfl | decide +kernel, by first | rfl | decide +kernel⟩ KX G hmg ?a1 ?l1 ?c1 ?k1 ?a2 ?l2 ?c2 ?k2 ?a3 ?l3 ?c3 ?k3 ?a4 ?l4 ?c4 ?k4 ?a5 ?l5 ?c5 ?k5 ?a6 ?l6 ?c6 ?k6 ?a7 ?l7 ?c7 ?k7 ?a8 ?l8 ?c8 ?k8 ?a9 ?l9 ?c9 ?k9 ?a10 ?l10 ?c10 ?k10 ?a11 ?l11 ?c11 ?k11 ?a12 ?l12 ?c12 ?k12 ?a13 ?l13 ?c13 ?k13 ?a14 ?l14 ?c14 ?k14 ?a15 ?l15 ?c15 ?k15 ?a16 ?l16 ?c16 ?k16 ?a17 ?l17 ?c17 ?k17 ?a18 ?l18 ?c18 ?k18 ?a19 ?l19 ?c19 ?k19 ?a20 ?l20 ?c20 ?k20 ?a21 ?l21 ?c21 ?k21 ?a22 ?l22 ?c22 ?k22 ?a23 ?i23 ?l23 ?c23 ?k23 ?lc23 ?ld23 ?rv23 ?lD23 ?ty23 ?a24 ?i24 ?l24 ?c24 ?k24 ?a25 ?i25 ?l25 ?c25 ?k25 ?a26 ?i26 ?l26 ?c26 ?k26 ?a27 ?i27 ?l27 ?c27 ?k27 ?a28 ?i28 ?l28 ?c28 ?k28 ?a29 ?i29 ?l29 ?c29 ?k29 ?a30 ?i30 ?l30 ?c30 ?k30 ?a31 ?i31 ?l31 ?c31 ?k31 ?a32 ?i32 ?l32 ?c32 ?k32 ?a33 ?i33 ?l33 ?c33 ?k33 ?a34 ?i34 ?l34 ?c34 ?k34 ?a35 ?i35 ?l35 ?c35 ?k35 ?a36 ?i36 ?l36 ?c36 ?k36 ?a37 ?i37 ?l37 ?c37 ?k37 ?a38 ?i38 ?l38 ?c38 ?k38 ?a39 ?i39 ?l39 ?c39 ?k39 ?a40 ?i40 ?l40 ?c40 ?k40 ?a41 ?i41 ?l41 ?c41 ?k41 ?a42 ?i42 ?l42 ?c42 ?k42 ?a43 ?i43 ?l43 ?c43 ?k43 ?a44 ?i44 ?l44 ?c44 ?k44 ?a45 ?i45 ?l45 ?c45 ?k45 ?a46 ?i46 ?l46 ?c46 ?k46 ?a47 ?i47 ?l47 ?c47 ?k47 ?a48 ?i48 ?l48 ?c48 ?k48 ?a49 ?i49 ?l49 ?c49 ?k49 ?a50 ?i50 ?l50 ?c50 ?k50 ?a51 ?i51 ?l51 ?c51 ?k51 ?a52 ?i52 ?l52 ?c52 ?k52 ?a53 ?i53 ?l53 ?c53 ?k53 ?a54 ?i54 ?l54 ?c54 ?k54 ?a55 ?i55 ?l55 ?c55 ?k55 ?a56 ?i56 ?l56 ?c56 ?k56 ?a57 ?i57 ?l57 ?c57 ?k57 ?a58 ?i58 ?l58 ?c58 ?k58 ?z_all ?z_bool ?z_int ?z_isinstance ?z_len ?z_list ?z_max ?z_min ?z_ord ?z_range ?z_str ?z_sum ?z_super ?z_tuple ?z_zip ?q_LONGEST_SIDE ?q_MOST_PIXELS ?q_MOST_CAPTURES ?q_MOST_READ_captures ?q_LONGEST_TEXT_fetches ?q_MOST_FETCHES ?q_MOST_WATCHES ?q_MOST_READ_fetches ?q_MOST_READ_offers ?q_MOST_SOURCES ?q_MOST_KINDS ?q_MOST_OCTETS_sources ?q_LONGEST_TEXT_sources ?q_MOST_SENT_OCTETS ?q_MOST_SENT_NAMES ?q_GREATEST_NUMBER ?q_LEAST_INT ?q_GREATEST_INT ?q_LONGEST_TEXT_fields ?q_MOST_OCTETS_fields ?q__FIRST_CODE ?q__LAST_CODE ?q__PERCENT_CODE ?q_HEADER_SIZE ?q_GREATEST_SIZE ?q_GREATEST_OPCODE ?q_MOST_ARGUMENTS ?q__EVENTS ?dl_EVENTS ?dk_EVENTS ?de_EVENTS_k11 ?w_EVENTS_k11 ?w_EVENTS_k11_0 ?w_EVENTS_k11_0_1 ?w_EVENTS_k11_1 ?w_EVENTS_k11_1_1 ?w_EVENTS_k11_2 ?w_EVENTS_k11_2_1 ?uCaptures ?pgCaptures ?hdCaptures ?poCaptures ?saCaptures ?mkCaptures ?kcCaptures ?nCaptures__pictures ?uFetch ?pgFetch ?hdFetch ?poFetch ?saFetch ?mkFetch ?kcFetch ?nFetch_name ?nFetch_octets ?uWatch ?pgWatch ?hdWatch ?poWatch ?saWatch ?mkWatch ?kcWatch ?nWatch_label ?nWatch_told ?uFetches ?pgFetches ?hdFetches ?poFetches ?saFetches ?mkFetches ?kcFetches ?nFetches__fetches ?nFetches__watches ?uOffers ?pgOffers ?hdOffers ?poOffers ?saOffers ?mkOffers ?kcOffers ?nOffers__transfers ?nOffers__kept ?nOffers__is_hovered ?uSource ?pgSource ?hdSource ?poSource ?saSource ?mkSource ?kcSource ?nSource_pieces ?nSource_is_used ?uSources ?pgSources ?hdSources ?poSources ?saSources ?mkSources ?kcSources ?nSources__sources ?uHoldings ?pgHoldings ?hdHoldings ?poHoldings ?saHoldings ?mkHoldings ?kcHoldings ?nHoldings__sources ?nHoldings__offers ?nHoldings__captures ?nHoldings__fetches ?nHoldings__sent_names ?uReply ?pgReply ?hdReply ?poReply ?saReply ?mkReply ?kcReply ?nReply_told ?nReply_ended ?nReply_wishes ?nReply_applied ?uRequest ?pgRequest ?hdRequest ?poRequest ?saRequest ?mkRequest ?kcRequest ?nRequest_number ?nRequest_interface ?nRequest_name ?nRequest_arguments ?nRequest_ends ?uBadMessage ?xBadMessage ?keBadMessage ?bxBadMessage ?txBadMessage ?ixBadMessage ?sxBadMessage ?uMessageTooLong ?xMessageTooLong ?keMessageTooLong ?bxMessageTooLong ?txMessageTooLong ?ixMessageTooLong ?sxMessageTooLong ?uFault ?loFault ?rmFault ?keFault ?bxFault ?txFault ?ixFault ?sxFault ?saFault ?mrFault ?ksFault ?veFault ?tpFault ?gaFault ?gtFault ?hxFault ?fcFault ?moFault ?sgFault ?tkFault ?nFault_number ?nFault_code ?nFault_words
    (case uCaptures => k_is)
    (case uFetch => k_is)
    (case uWatch => k_is)
    (case uFetches => k_is)
    (case uOffers => k_is)
    (case uSource => k_is)
    (case uSources => k_is)
    (case uHoldings => k_is)
    (case uReply => k_is)
    (case uRequest => k_is)
    (case uBadMessage => k_is)
    (case uMessageTooLong => k_is)
    (case uFault => k_is)
    (case a1 => k_is)
    (case l1 => k_is)
    (case c1 => k_is)
    (case k1 => k_is)
    (case a2 => k_is)
    (case l2 => k_is)
    (case c2 => k_is)
    (case k2 => k_is)
    (case a3 => k_is)
    (case l3 => k_is)
    (case c3 => k_is)
    (case k3 => k_is)
    (case a4 => k_is)
    (case l4 => k_is)
    (case c4 => k_is)
    (case k4 => k_is)
    (case a5 => k_is)
    (case l5 => k_is)
    (case c5 => k_is)
    (case k5 => k_is)
    (case a6 => k_is)
    (case l6 => k_is)
    (case c6 => k_is)
    (case k6 => k_is)
    (case a7 => k_is)
    (case l7 => k_is)
    (case c7 => k_is)
    (case k7 => k_is)
    (case a8 => k_is)
    (case l8 => k_is)
    (case c8 => k_is)
    (case k8 => k_is)
    (case a9 => k_is)
    (case l9 => k_is)
    (case c9 => k_is)
    (case k9 => k_is)
    (case a10 => k_is)
    (case l10 => k_is)
    (case c10 => k_is)
    (case k10 => k_is)
    (case a11 => k_is)
    (case l11 => k_is)
    (case c11 => k_is)
    (case k11 => k_is)
    (case a12 => k_is)
    (case l12 => k_is)
    (case c12 => k_is)
    (case k12 => k_is)
    (case a13 => k_is)
    (case l13 => k_is)
    (case c13 => k_is)
    (case k13 => k_is)
    (case a14 => k_is)
    (case l14 => k_is)
    (case c14 => k_is)
    (case k14 => k_is)
    (case a15 => k_is)
    (case l15 => k_is)
    (case c15 => k_is)
    (case k15 => k_is)
    (case a16 => k_is)
    (case l16 => k_is)
    (case c16 => k_is)
    (case k16 => k_is)
    (case a17 => k_is)
    (case l17 => k_is)
    (case c17 => k_is)
    (case k17 => k_is)
    (case a18 => k_is)
    (case l18 => k_is)
    (case c18 => k_is)
    (case k18 => k_is)
    (case a19 => k_is)
    (case l19 => k_is)
    (case c19 => k_is)
    (case k19 => k_is)
    (case a20 => k_is)
    (case l20 => k_is)
    (case c20 => k_is)
    (case k20 => k_is)
    (case a21 => k_is)
    (case l21 => k_is)
    (case c21 => k_is)
    (case k21 => k_is)
    (case a22 => k_is)
    (case l22 => k_is)
    (case c22 => k_is)
    (case k22 => k_is)
    (case a23 => k_is)
    (case i23 => k_is)
    (case l23 => k_is)
    (case c23 => k_is)
    (case k23 => k_is)
    (case lc23 => k_is)
    (case ld23 => k_is)
    (case rv23 => first | rfl | decide +kernel)
    (case lD23 => k_is)
    (case ty23 => k_is)
    (case a24 => k_is)
    (case i24 => k_is)
    (case l24 => k_is)
    (case c24 => k_is)
    (case k24 => k_is)
    (case a25 => k_is)
    (case i25 => k_is)
    (case l25 => k_is)
    (case c25 => k_is)
    (case k25 => k_is)
    (case a26 => k_is)
    (case i26 => k_is)
    (case l26 => k_is)
    (case c26 => k_is)
    (case k26 => k_is)
    (case a27 => k_is)
    (case i27 => k_is)
    (case l27 => k_is)
    (case c27 => k_is)
    (case k27 => k_is)
    (case a28 => k_is)
    (case i28 => k_is)
    (case l28 => k_is)
    (case c28 => k_is)
    (case k28 => k_is)
    (case a29 => k_is)
    (case i29 => k_is)
    (case l29 => k_is)
    (case c29 => k_is)
    (case k29 => k_is)
    (case a30 => k_is)
    (case i30 => k_is)
    (case l30 => k_is)
    (case c30 => k_is)
    (case k30 => k_is)
    (case a31 => k_is)
    (case i31 => k_is)
    (case l31 => k_is)
    (case c31 => k_is)
    (case k31 => k_is)
    (case a32 => k_is)
    (case i32 => k_is)
    (case l32 => k_is)
    (case c32 => k_is)
    (case k32 => k_is)
    (case a33 => k_is)
    (case i33 => k_is)
    (case l33 => k_is)
    (case c33 => k_is)
    (case k33 => k_is)
    (case a34 => k_is)
    (case i34 => k_is)
    (case l34 => k_is)
    (case c34 => k_is)
    (case k34 => k_is)
    (case a35 => k_is)
    (case i35 => k_is)
    (case l35 => k_is)
    (case c35 => k_is)
    (case k35 => k_is)
    (case a36 => k_is)
    (case i36 => k_is)
    (case l36 => k_is)
    (case c36 => k_is)
    (case k36 => k_is)
    (case a37 => k_is)
    (case i37 => k_is)
    (case l37 => k_is)
    (case c37 => k_is)
    (case k37 => k_is)
    (case a38 => k_is)
    (case i38 => k_is)
    (case l38 => k_is)
    (case c38 => k_is)
    (case k38 => k_is)
    (case a39 => k_is)
    (case i39 => k_is)
    (case l39 => k_is)
    (case c39 => k_is)
    (case k39 => k_is)
    (case a40 => k_is)
    (case i40 => k_is)
    (case l40 => k_is)
    (case c40 => k_is)
    (case k40 => k_is)
    (case a41 => k_is)
    (case i41 => k_is)
    (case l41 => k_is)
    (case c41 => k_is)
    (case k41 => k_is)
    (case a42 => k_is)
    (case i42 => k_is)
    (case l42 => k_is)
    (case c42 => k_is)
    (case k42 => k_is)
    (case a43 => k_is)
    (case i43 => k_is)
    (case l43 => k_is)
    (case c43 => k_is)
    (case k43 => k_is)
    (case a44 => k_is)
    (case i44 => k_is)
    (case l44 => k_is)
    (case c44 => k_is)
    (case k44 => k_is)
    (case a45 => k_is)
    (case i45 => k_is)
    (case l45 => k_is)
    (case c45 => k_is)
    (case k45 => k_is)
    (case a46 => k_is)
    (case i46 => k_is)
    (case l46 => k_is)
    (case c46 => k_is)
    (case k46 => k_is)
    (case a47 => k_is)
    (case i47 => k_is)
    (case l47 => k_is)
    (case c47 => k_is)
    (case k47 => k_is)
    (case a48 => k_is)
    (case i48 => k_is)
    (case l48 => k_is)
    (case c48 => k_is)
    (case k48 => k_is)
    (case a49 => k_is)
    (case i49 => k_is)
    (case l49 => k_is)
    (case c49 => k_is)
    (case k49 => k_is)
    (case a50 => k_is)
    (case i50 => k_is)
    (case l50 => k_is)
    (case c50 => k_is)
    (case k50 => k_is)
    (case a51 => k_is)
    (case i51 => k_is)
    (case l51 => k_is)
    (case c51 => k_is)
    (case k51 => k_is)
    (case a52 => k_is)
    (case i52 => k_is)
    (case l52 => k_is)
    (case c52 => k_is)
    (case k52 => k_is)
    (case a53 => k_is)
    (case i53 => k_is)
    (case l53 => k_is)
    (case c53 => k_is)
    (case k53 => k_is)
    (case a54 => k_is)
    (case i54 => k_is)
    (case l54 => k_is)
    (case c54 => k_is)
    (case k54 => k_is)
    (case a55 => k_is)
    (case i55 => k_is)
    (case l55 => k_is)
    (case c55 => k_is)
    (case k55 => k_is)
    (case a56 => k_is)
    (case i56 => k_is)
    (case l56 => k_is)
    (case c56 => k_is)
    (case k56 => k_is)
    (case a57 => k_is)
    (case i57 => k_is)
    (case l57 => k_is)
    (case c57 => k_is)
    (case k57 => k_is)
    (case a58 => k_is)
    (case i58 => k_is)
    (case l58 => k_is)
    (case c58 => k_is)
    (case k58 => k_is)
    (case z_all => k_is)
    (case z_bool => k_is)
    (case z_int => k_is)
    (case z_isinstance => k_is)
    (case z_len => k_is)
    (case z_list => k_is)
    (case z_max => k_is)
    (case z_min => k_is)
    (case z_ord => k_is)
    (case z_range => k_is)
    (case z_str => k_is)
    (case z_sum => k_is)
    (case z_super => k_is)
    (case z_tuple => k_is)
    (case z_zip => k_is)
    (case q_LONGEST_SIDE => k_is)
    (case q_MOST_PIXELS => k_is)
    (case q_MOST_CAPTURES => k_is)
    (case q_MOST_READ_captures => k_is)
    (case q_LONGEST_TEXT_fetches => k_is)
    (case q_MOST_FETCHES => k_is)
    (case q_MOST_WATCHES => k_is)
    (case q_MOST_READ_fetches => k_is)
    (case q_MOST_READ_offers => k_is)
    (case q_MOST_SOURCES => k_is)
    (case q_MOST_KINDS => k_is)
    (case q_MOST_OCTETS_sources => k_is)
    (case q_LONGEST_TEXT_sources => k_is)
    (case q_MOST_SENT_OCTETS => k_is)
    (case q_MOST_SENT_NAMES => k_is)
    (case q_GREATEST_NUMBER => k_is)
    (case q_LEAST_INT => k_is)
    (case q_GREATEST_INT => k_is)
    (case q_LONGEST_TEXT_fields => k_is)
    (case q_MOST_OCTETS_fields => k_is)
    (case q__FIRST_CODE => k_is)
    (case q__LAST_CODE => k_is)
    (case q__PERCENT_CODE => k_is)
    (case q_HEADER_SIZE => k_is)
    (case q_GREATEST_SIZE => k_is)
    (case q_GREATEST_OPCODE => k_is)
    (case q_MOST_ARGUMENTS => k_is)
    (case q__EVENTS => k_is)
    (case dl_EVENTS => k_is)
    (case dk_EVENTS => k_keys)
    (case de_EVENTS_k11 => k_is)
    (case w_EVENTS_k11 => k_is)
    (case w_EVENTS_k11_0 => k_is)
    (case w_EVENTS_k11_0_1 => k_is)
    (case w_EVENTS_k11_1 => k_is)
    (case w_EVENTS_k11_1_1 => k_is)
    (case w_EVENTS_k11_2 => k_is)
    (case w_EVENTS_k11_2_1 => k_is)
    (case pgCaptures => k_is)
    (case hdCaptures => k_is)
    (case poCaptures => k_is)
    (case saCaptures => k_is)
    (case mkCaptures => k_is)
    (case kcCaptures => k_is)
    (case nCaptures__pictures => k_is)
    (case pgFetch => k_is)
    (case hdFetch => k_is)
    (case poFetch => k_is)
    (case saFetch => k_is)
    (case mkFetch => k_is)
    (case kcFetch => k_is)
    (case nFetch_name => k_is)
    (case nFetch_octets => k_is)
    (case pgWatch => k_is)
    (case hdWatch => k_is)
    (case poWatch => k_is)
    (case saWatch => k_is)
    (case mkWatch => k_is)
    (case kcWatch => k_is)
    (case nWatch_label => k_is)
    (case nWatch_told => k_is)
    (case pgFetches => k_is)
    (case hdFetches => k_is)
    (case poFetches => k_is)
    (case saFetches => k_is)
    (case mkFetches => k_is)
    (case kcFetches => k_is)
    (case nFetches__fetches => k_is)
    (case nFetches__watches => k_is)
    (case pgOffers => k_is)
    (case hdOffers => k_is)
    (case poOffers => k_is)
    (case saOffers => k_is)
    (case mkOffers => k_is)
    (case kcOffers => k_is)
    (case nOffers__transfers => k_is)
    (case nOffers__kept => k_is)
    (case nOffers__is_hovered => k_is)
    (case pgSource => k_is)
    (case hdSource => k_is)
    (case poSource => k_is)
    (case saSource => k_is)
    (case mkSource => k_is)
    (case kcSource => k_is)
    (case nSource_pieces => k_is)
    (case nSource_is_used => k_is)
    (case pgSources => k_is)
    (case hdSources => k_is)
    (case poSources => k_is)
    (case saSources => k_is)
    (case mkSources => k_is)
    (case kcSources => k_is)
    (case nSources__sources => k_is)
    (case pgHoldings => k_is)
    (case hdHoldings => k_is)
    (case poHoldings => k_is)
    (case saHoldings => k_is)
    (case mkHoldings => k_is)
    (case kcHoldings => k_is)
    (case nHoldings__sources => k_is)
    (case nHoldings__offers => k_is)
    (case nHoldings__captures => k_is)
    (case nHoldings__fetches => k_is)
    (case nHoldings__sent_names => k_is)
    (case pgReply => k_is)
    (case hdReply => k_is)
    (case poReply => k_is)
    (case saReply => k_is)
    (case mkReply => k_is)
    (case kcReply => k_is)
    (case nReply_told => k_is)
    (case nReply_ended => k_is)
    (case nReply_wishes => k_is)
    (case nReply_applied => k_is)
    (case pgRequest => k_is)
    (case hdRequest => k_is)
    (case poRequest => k_is)
    (case saRequest => k_is)
    (case mkRequest => k_is)
    (case kcRequest => k_is)
    (case nRequest_number => k_is)
    (case nRequest_interface => k_is)
    (case nRequest_name => k_is)
    (case nRequest_arguments => k_is)
    (case nRequest_ends => k_is)
    (case xBadMessage => k_exc)
    (case keBadMessage => k_is)
    (case bxBadMessage => k_is)
    (case txBadMessage => k_is)
    (case ixBadMessage => k_is)
    (case sxBadMessage => first | rfl | k_is)
    (case xMessageTooLong => k_exc)
    (case keMessageTooLong => k_is)
    (case bxMessageTooLong => k_is)
    (case txMessageTooLong => k_is)
    (case ixMessageTooLong => k_is)
    (case sxMessageTooLong => first | rfl | k_is)
    (case loFault => k_is)
    (case rmFault => first | rfl | decide +kernel)
    (case keFault => k_is)
    (case bxFault => k_is)
    (case txFault => k_is)
    (case ixFault => k_is)
    (case sxFault => first | rfl | k_is)
    (case saFault => k_is)
    (case mrFault => k_is)
    (case ksFault => ks_is)
    (case veFault => k_is)
    (case tpFault => k_is)
    (case gaFault => k_is)
    (case gtFault => k_is)
    (case hxFault => k_is)
    (case fcFault => k_is)
    (case moFault => k_is)
    (case sgFault => k_is)
    (case tkFault => k_is)
    (case nFault_number => k_is)
    (case nFault_code => k_is)
    (case nFault_words => k_is)
