import PyProof.Rows.All
import Wide.All
import OpenK.AllK
import Wide.FinOn
import HandS.ForMost
import HandS.Exc
import HandS.TryOnly
import HandS.ExcOwn
import HandS.WordsExc
import HandS.IsInst
import HandS.Wide
import HandS.Flow
import HandS.More
import HandS.Codes
import HandS.Walk
import HandS.TupLe
import HandS.WordsDict
import HandS.Conv
import HandS.TryMany
import HandS.ExcIs
import KE.KBits
import HandS.CallLocal
import HandS.Strs
import HandS.SetFor
import HandS.Set
import HandS.Property
import KE.GoesMore
import KE.KTurns
import KE.KDictZip
import HandS.Keys
import KE.KExcSuper
import KE.RegKSuper
import KE.KExcIs
import HandS.ExcInit
import HandS.ExcField
import PySem.Challenge.RW_sillwatch_k14_replies_and_faults
set_option Elab.async false
set_option linter.all false
set_option maxRecDepth 100000
set_option maxHeartbeats 4000000
namespace My
open PySem L2
section
/-! ### a def whose first statement is super().__init__(e, ..), in an own exception (our own rule) -/
open PySem PySem.Spec PyProof.Rows
structure SupScope (N P : List Str) (sc : Scope) : Prop where
  kind : sc.kind = .function
  co : sc.isCoroutine = false
  gen : sc.isGenerator = false
  nd : N.Nodup
  pre : N.take P.length = P
  par : ∀ x ∈ P, sc.names.lookup x = some .local
  nocell : ∀ y ∈ sc.names, y.2 ≠ .cell
  free : ∀ y ∈ sc.names, y.2 = .free → y.1 = "__class__"
  cls : sc.names.lookup ("__class__" : Str) = some .free
  sup : sc.names.lookup ("super" : Str) = some .globalImplicit
abbrev envSup (qual : Str) (scope : Scope) (L f : Addr) (cd : Value) (cc : Addr) : Env := PySem.W.envX qual scope L f cd [("__class__", cc)]
def cxSup (CX : CXT) (P : Program) (w : World) (K : PySem.W.Frag) (mg : Str → Option Value) (base : Heap) (N : List Str) (qual : Str) (scope : Scope) (f : Addr) (cd : Value) (cc : Addr) (A : Around) (outer : List Env) (s : Shared) (H : Hp) (E : XK) : Cx where
  prog := P
  w := w
  K := K
  mg := mg
  base := base
  A := A.deeper (envSup qual scope s.heap.objs.size f cd cc)
  N := N
  s_0 := s
  H_0 := H
  env := envSup qual scope s.heap.objs.size f cd cc
  outer := outer
  stack := envSup qual scope s.heap.objs.size f cd cc :: outer
  ex := []
  calm := true
  fn := fun x => x != ("__class__" : Str)
  pn := []
  xe := fun e s' => wpAny (model P w) (A.deeper (envSup qual scope s.heap.objs.size f cd cc)) (leaving (envSup qual scope s.heap.objs.size f cd cc) e) (fun _ s'' => CX outer H s E e s'') (fun e' s'' => CX outer H s E e' s'') s'
theorem zip_rev_out {x : Str} : ∀ {ps : List Str} {us : List Value}, x ∉ ps → ((ps.zip us).reverse.lookup x) = none := by
  intro ps us h
  rw [List.lookup_eq_none_iff]
  intro p hp
  rw [List.mem_reverse] at hp
  have := (List.of_mem_zip (a := p.1) (b := p.2) hp).1
  simp only [beq_eq_false_iff_ne, bne_iff_ne, ne_eq]
  intro e
  rw [e] at h
  exact h this
theorem zip_rev_get {x : Str} {u : Value} : ∀ {ps : List Str} {us : List Value} {i : Nat}, ps.Nodup → ps[i]? = some x → us[i]? = some u → (ps.zip us).reverse.lookup x = some u
  | [], _, _, _, h, _ => by simp at h
  | _ :: _, [], _, _, _, h => by simp at h
  | p :: ps, v :: us, 0, nd, h1, h2 => by
    simp at h1 h2; subst h1; subst h2
    rw [List.zip_cons_cons, List.reverse_cons, List.lookup_append, zip_rev_out (List.nodup_cons.mp nd).1]
    simp [List.lookup]
  | p :: ps, v :: us, i + 1, nd, h1, h2 => by
    rw [List.zip_cons_cons, List.reverse_cons, List.lookup_append, zip_rev_get (i := i) (List.nodup_cons.mp nd).2 (by simpa using h1) (by simpa using h2)]
    rfl
theorem sup_cell {x : Str} {c cc : Addr} (h : List.lookup x [(("__class__" : Str), cc)] = some c) : x = "__class__" ∧ c = cc := by
  rw [List.lookup_cons] at h
  cases e : (x == ("__class__" : Str)) with
  | true =>
    rw [e] at h
    exact ⟨by simpa using e, by cases h; rfl⟩
  | false => rw [e] at h; cases h
theorem inv_sup {CX : CXT} {P : Program} {w : World} {K : PySem.W.Frag} {mg : Str → Option Value} {base : Heap} {N ps : List Str} {qual : Str} {scope : Scope} {f cc : Addr} {cd : Value} {A : Around} {outer : List Env} {s : Shared} {H : Hp} {E : XK} {us : List Value} {vs : List V} {h1 : Heap} {tk : Nat}
    {cl : Value} {cld : Option Addr} {cv : Option Value} {csl : Array (Option Value)} (S : SupScope N ps scope) (hd : A.handled = none) (e0 : Env0 P w K mg base A outer s H) (hl : vs.length = ps.length) (r : Vals vs us) (hcc : K.lookup cc = some ⟨cl, cld, .cell cv, csl⟩)
    (hns : h1.Ns s.heap.objs.size (fun x => (ps.zip us).reverse.lookup x)) (hk : ∀ b o, s.heap.get? b = some o → h1.get? b = some o) :
    Inv (cxSup CX P w K mg base N qual scope f cd cc A outer s H E) [] (L2.start N vs) H { s with heap := h1, toks := tk } := by
  have hpl : ps.length ≤ N.length := by have := congrArg List.length S.pre; rw [List.length_take] at this; omega
  have noA : ∀ b : Addr, b ∉ (cxSup CX P w K mg base N qual scope f cd cc A outer s H E).ex := fun b z => absurd (show b ∈ ([] : List Addr) from z) (by simp)
  have hcb : base.get? cc = some ⟨cl, cld, .cell cv, csl⟩ := e0.mod.kin _ _ hcc
  have hcs := (e0.bs _ _ hcb).1
  refine ⟨⟨e0.mod, S.kind, rfl, rfl, Nat.le_refl _, fun y z c a b => ?_, fun y hy => ?_, fun y c hf h => ?_, fun _ => hd, Around.frames_deeper e0.frames, .inr ⟨rfl, rfl⟩, fun b z => absurd z (noA b), e0.bs, e0.bsz, fun b _ _ => noA b, fun b z => absurd z (noA b), e0.funs, e0.frf⟩,
    rfl, e0.bare, Un.kept hk, ⟨_, hns, fun i y v a b c => ?_⟩, fun y c h => ?_, e0.hok.fresh (Nat.le_refl _), fun y c h => ?_, fun p hp => absurd (show p ∈ ([] : List (Addr × Obj)) from hp) (by simp), e0.hok.kept hk, ?_⟩
  · rw [(sup_cell a).1, (sup_cell b).1]
  · have hy : scope.names.lookup y = some .cell ∨ scope.names.lookup y = some .free := hy
    rcases hy with hy | hy
    · exact absurd rfl (S.nocell _ (PySem.mem_of_lookup hy))
    · have e := S.free _ (PySem.mem_of_lookup hy) rfl
      refine ⟨cc, ?_⟩
      show List.lookup y [(("__class__" : Str), cc)] = some cc
      rw [show y = "__class__" from e]
      exact List.lookup_cons_self
  · have := (sup_cell h).1
    subst this
    exact absurd hf (by show ¬ ((("__class__" : Str) != ("__class__" : Str)) = true); decide)
  · have hi : i < vs.length := by
      unfold L2.start at b
      by_cases hi : i < vs.length
      · exact hi
      · rw [List.getElem?_append_right (by simpa using hi)] at b
        rw [List.getElem?_replicate] at b
        split at b <;> cases b
    have ha : vs[i]? = some v := by
      unfold L2.start at b
      rw [List.getElem?_append_left (by simpa using hi), List.getElem?_map] at b
      cases e : vs[i]? with
      | none => rw [e] at b; cases b
      | some a => rw [e] at b; cases b; rfl
    obtain ⟨u, hu, rv⟩ := r.get ha
    have hp : ps[i]? = some y := by
      rw [← S.pre, List.getElem?_take_of_lt (by omega)]; exact a
    have ndP : ps.Nodup := by rw [← S.pre]; exact S.nd.sublist (List.take_sublist _ _)
    exact ⟨u, rv, .inl ⟨S.par y (List.mem_of_getElem? hp), zip_rev_get ndP hp hu⟩⟩
  · obtain ⟨_, rfl⟩ := sup_cell h
    exact ⟨cv, _, hk _ _ hcs, rfl⟩
  · obtain ⟨_, rfl⟩ := sup_cell h
    exact (e0.bs _ _ hcb).2
  · unfold L2.start
    show _ = N.length
    rw [List.length_append, List.length_map, List.length_replicate]
    omega
/-- ValueError's __init__ called through the wrapper that super() gave -/
theorem sup_call {X : Cx} {pins : List (Addr × Obj)} {σ : L2.St} {H : Hp} {s : Shared} {a C u : Addr} {us : List Value} {Q : Value → Shared → Prop} {E : Value → Shared → Prop} {A : Around} (T : OexC X.K C) (I : Inv X pins σ H s) (e : H a = some (exo a C none))
    (hu : s.heap.get? u = some (PySem.W.kxs_mw "ValueError.__init__" a)) (hl : us.length ≤ sizeLine) (h : ∀ s', Inv X pins σ H s' → Q .none s') :
    wpAny (model X.prog X.w) A (call (.ref u) us) Q E s := by
  obtain ⟨nm, q, N, bs, bm, sn, sub, ab, col, dd, k0, k1, k2, k3, k5, hC, hbm⟩ := T.cls
  obtain ⟨t1, ho⟩ := exo_at I.hok e
  have hCs := I.kIn _ _ hC
  obtain ⟨hp, g, d, t, os⟩ := s
  refine wpAny_call (codeAny_of_tree ?_)
  show wpAny _ A.in1 (callAny (.ref u) ⟨us, []⟩) _ _ _
  simp only [callAny]
  refine wpAny_bind (wpAny_load hu ?_)
  simp only [PySem.W.kxs_mw, show (Value.type "method-wrapper" == Value.type "method" || Value.type "method-wrapper" == Value.type "builtin_function_or_method" || Value.type "method-wrapper" == Value.type "method-wrapper") = true by decide, if_true]
  refine PySem.W.KFB.if_so (by decide) ?_
  refine wpAny_bind (PySem.W.check_bound_init F.excBase_ValueError.toExcCallFacts hCs ho rfl ?_)
  refine wpAny_bind (wpAny_pure (wpAny_pure ?_))
  refine ⟨PySem.plainId_quiet F.excBase_ValueError.init.plain _, codeAny_builtin F.excBase_ValueError.initEntry ?_⟩
  refine PySem.W.exc_init_tree (cls := .ref C) (t0 := t1) (dv := none) (c2 := .none) (c3 := .none) (b4 := .bool false) ho hl (fun h' k hx _ => ?_)
  have J := I.write (t' := t) (x := a) (e := a) (o := exo a C none) (by rw [e]; exact True.intro) (.inl rfl) k ⟨_, hx⟩ (exo_ok hx)
  have eu : upd H a (exo a C none) = H := by
    funext b
    by_cases hb : b = a
    · rw [hb, upd_same, e]
    · rw [upd_ne hb]
  rw [eu] at J
  exact h _ J
/-- what the written part says of an own exception's class C whose __init__ D has -/
structure SupC (K : PySem.W.Frag) (C D : Addr) : Prop where
  ox : OexC K C
  up : PySem.W.mroIn K C (.ref D) = some true
  get : PySem.W.ks_superIn K C D "__init__" = some (some (.builtin "ValueError.__init__"))
  ve : PySem.W.subIn K (.ref C) (.type "ValueError") = some true
  tp : PySem.W.nsIn K PySem.cStatics "thirdparty.any" = some none
theorem fn_sup {CX : CXT} {P : Program} {w : World} {K : PySem.W.Frag} {mg : Str → Option Value} {base : Heap} {k : Nat} {f cc cda D : Addr} {name qual : Str} {params : Arguments} {e : Expr} {es : List Expr} {p0 p1 p2 p3 p4 : Pos} {rest : List Stmt} {scope : Scope} {dV kV doc pm ct oc cl ccl : Value} {an od cld cdd : Option Addr}
    {osl csl ccs : Array (Option Value)} {N ps : List Str} {sp : Sp} {ar : Arg} {fvs : Array Value} {file : Str} {tf : Tok} {cdD : ClassData}
    (lk : K.lookup f = some ⟨oc, od, .func (PySem.W.fnX name qual params (.Expr (.Call (.Attribute (.Call (.Name "super" p0) [] [] p1) "__init__" p2) (e :: es) [] p3) p4 :: rest) scope [("__class__", cc)] dV kV doc pm an (.ref cda) ct), osl⟩)
    (hcd : PySem.W.codeIn K (.ref cda) qual = true) (S : SupScope N ps scope) (len : ∀ vs H Q E, sp vs H Q E → vs.length = ps.length)
    (hpar : (params.posonlyargs ++ params.args).head? = some ar) (har : ps[0]? = some ar.arg)
    (hcode : K.lookup cda = some ⟨ccl, cdd, .fields fvs, ccs⟩) (hvs : fvs[2]? = some (.str file tf)) (hfile : ((P.main.file : Str) == file) = true)
    (hcc : K.lookup cc = some ⟨cl, cld, .cell (some (.ref D)), csl⟩) (hD : PySem.W.clsIn K D = some cdD) (hsuper : mg "super" = none) (htop : (P.main.scope.names.lookup ("super" : Str)).isSome = false)
    (pl : Addr → Sem Bool) (hev : ∀ L : Addr, eval (.Call (.Attribute (.Call (.Name "super" p0) [] [] p1) "__init__" p2) (e :: es) [] p3) (envSup qual scope L f (.ref cda) cc) = (do
      let ov ← attributeBase (.Call (.Name "super" p0) [] [] p1) "__init__" (envSup qual scope L f (.ref cda) cc) (eval (.Call (.Name "super" p0) [] [] p1) (envSup qual scope L f (.ref cda) cc))
      standAt p2.atName
      let (fx, first) ← holding [ov] (getMethod ov "__init__" (pl L))
      callWith p3 fx first (backTo p3 (starEach (e :: es) (envSup qual scope L f (.ref cda) cc))) []))
    (he : ∀ X : Cx, starEach (e :: es) X.env = (false, eval e X.env) :: starEach es X.env) (hpl : ∀ X : Cx, (backTo p3 (starEach es X.env)).any (·.1) = false)
    (hbody : ∀ (A : Around) (outer : List Env) (s : Shared) (H : Hp) (vs : List V) (Q : VK) (E : XK), Room k (A.deeper (envSup qual scope s.heap.objs.size f (.ref cda) cc)) → sp vs H Q E →
      ∃ (ta : TA) (t : TS) (a C : Addr) (ws : List V), PA (cxSup CX P w K mg base N qual scope f (.ref cda) cc A outer s H E) (e :: es) ta ∧ PSs (cxSup CX P w K mg base N qual scope f (.ref cda) cc A outer s H E) rest t ∧ vs = .ref a :: ws ∧ H a = some (exo a C none) ∧ SupC K C D ∧
        ta (L2.start N vs) H fun us H1 => us.length ≤ 1000 ∧ H1 a = some (exo a C none) ∧ t { nx := fun _ H' => Q .non H', rt := Q } (L2.start N vs) H1) :
    FnOk P w K mg base CX (k + 1) f (PySem.W.fnX name qual params (.Expr (.Call (.Attribute (.Call (.Name "super" p0) [] [] p1) "__init__" p2) (e :: es) [] p3) p4 :: rest) scope [("__class__", cc)] dV kV doc pm an (.ref cda) ct) ps sp := by
  refine ⟨len, fun A outer s H args us vs Q E hr e0 hb r hsp => ?_⟩
  have hl := len _ _ _ _ hsp
  have KX : K.In s.heap := e0.mod.kin.keeps fun b o e => (e0.bs b o e).1
  have lim : s.heap.NoLimit := e0.mod.nolimit.keeps fun b o e => (e0.bs b o e).1
  refine PySem.ks_codeAny_call_defAt (fd := PySem.W.fnX name qual params (.Expr (.Call (.Attribute (.Call (.Name "super" p0) [] [] p1) "__init__" p2) (e :: es) [] p3) p4 :: rest) scope [("__class__", cc)] dV kV doc pm an (.ref cda) ct) (binds := ps.zip us)
    hr.depth (KX _ _ lk) rfl lim (PySem.W.codeRec_of KX hcd) rfl hb S.nocell (fun ⟨n, v⟩ hy => S.par n (List.of_mem_zip hy).1) (fun h₀ hns hk => ?_) S.co S.gen S.kind
  obtain ⟨ta, t, a, C, ws, hPA, hPS, rfl, ea, T, hq⟩ := hbody A outer s H vs Q E (hr.deeper _) hsp
  have I : Inv (cxSup CX P w K mg base N qual scope f (.ref cda) cc A outer s H E) [] (L2.start N (.ref a :: ws)) H { s with heap := h₀, toks := s.toks + (ps.zip us).length } := inv_sup S hr.hd e0 hl r hcc hns hk
  have ndP : ps.Nodup := by rw [← S.pre]; exact S.nd.sublist (List.take_sublist _ _)
  have hus : ∃ ur, us = .ref a :: ur := by
    cases r with
    | cons h _ => obtain rfl := (show _ = Value.ref a from h); exact ⟨_, rfl⟩
  obtain ⟨ur, rfl⟩ := hus
  have hself : (ps.zip (.ref a :: ur)).reverse.lookup ar.arg = some (.ref a) := zip_rev_get (i := 0) ndP har rfl
  obtain ⟨t1, ho⟩ := exo_at I.hok ea
  have K0 : K.In h₀ := I.kIn
  obtain ⟨oD, hD1, hD2⟩ : ∃ oD, h₀.get? D = some oD ∧ oD.data = .cls cdD := by
    unfold PySem.W.clsIn at hD
    split at hD
    · rename_i c d cd' sl ho
      cases hD
      exact ⟨_, K0 _ _ ho, rfl⟩
    · cases hD
  show PySem.wpAt (model P w) (A.deeper (envSup qual scope s.heap.objs.size f (.ref cda) cc)) (.func (.Expr (.Call (.Attribute (.Call (.Name "super" p0) [] [] p1) "__init__" p2) (e :: es) [] p3) p4 :: rest) (envSup qual scope s.heap.objs.size f (.ref cda) cc)) (execs (.Expr (.Call (.Attribute (.Call (.Name "super" p0) [] [] p1) "__init__" p2) (e :: es) [] p3) p4 :: rest) (envSup qual scope s.heap.objs.size f (.ref cda) cc)) _ _ _
  refine PySem.ks_wpAt_execs_cons (PySem.ks_wpAt_Expr_any (PySem.ks_wpAt_MethodCall ?_ (hev _)) I.quiet)
  refine PySem.ks_wpAt_super_base (f := f) (cc := cda) (ar := ar) (vs := fvs) (file := file) (tf := tf) (env := envSup qual scope s.heap.objs.size f (.ref cda) cc) S.sup S.cls (by decide) rfl (K0 _ _ lk) rfl hpar rfl (K0 _ _ hcode) rfl hvs hfile htop ?_
  obtain ⟨mb, hb1, hb2⟩ := I.mod.blt
  refine PySem.W.ks_loadName_global S.kind S.sup (Calls.loadGlobal_builtin (I.mod.glob.keeps I.bk) hsuper (hb1.keeps I.bk) ((hb2 _ (by decide)).trans (by first | rfl | kernel_rfl | decide +kernel)) ⟨rfl, ?_⟩)
  refine wpAny_loadName_free S.kind S.cls (c := cc) rfl ⟨_, K0 _ _ hcc, rfl⟩ ?_
  refine wpAny_loadName_local S.kind (S.par _ (List.mem_of_getElem? har)) hns hself ?_
  refine PySem.ks_wpAny_isType_cls hD1 hD2 ⟨rfl, ?_⟩
  refine PySem.ks_wpAny_call_super hD1 hD2 ho rfl (fun c z => by cases z) (PySem.W.looks_mroIn K0 T.up) (fun h' eso k => ?_)
  have I' := I.kept (t' := s.toks + (ps.zip (Value.ref a :: ur)).length) k
  have K' : K.In h' := I'.kIn
  have ho' := k _ _ ho
  obtain ⟨nm, q, N', bs, bm, sn, sub, ab, col, dd, k0, k1, k2, k3, k5, hC, hbm⟩ := T.ox.cls
  have hcl : PySem.W.clsIn K C = some { name := nm, bases := bs, mro := .ref C :: bm, ns := N', qualname := q, hasDict := true, slotNames := sn, subclasses := sub, abstract := ab, collection := col, hasDel := false } := by unfold PySem.W.clsIn; rw [hC] <;> rfl
  have hget := T.get
  unfold PySem.W.ks_superIn at hget
  rw [hcl, Option.bind_some] at hget
  have haC : a ≠ C := fun z => by
    have := (e0.bs _ _ (e0.mod.kin _ _ hC)).2
    rw [← z, ea] at this; cases this
  have IA : PySem.W.InstAt h' a { cls := .ref C, dict := none, data := .fields #[.ref t1, .none, .none, .none, .bool false, .none] } C none := ⟨ho', rfl, rfl, trivial⟩
  refine PySem.W.kxs_getMethod PySem.W.kxs_ValueError eso (PySem.W.looks_opaque K' T.tp) ((PySem.W.looks_clsIn K' hcl).andThen .now) rfl K' hget (IA.type.andThen (PySem.W.looks_subIn K' T.ve)) haC (by decide) ?_
  have I2 := I'.kept (t' := s.toks + (ps.zip (Value.ref a :: ur)).length + 1) (h' := h'.push (PySem.W.kxs_mw "ValueError.__init__" a)) (fun b o e => Heap.get?_push_of_some _ e)
  have I3 : Inv (cxSup CX P w K mg base N qual scope f (.ref cda) cc A outer s H E) [(h'.objs.size, PySem.W.kxs_mw "ValueError.__init__" a)] (L2.start N (.ref a :: ws)) H { s with heap := h'.push (PySem.W.kxs_mw "ValueError.__init__" a), toks := s.toks + (ps.zip (Value.ref a :: ur)).length + 1 } :=
    I2.pins_of fun p hp => by
      rw [List.mem_singleton.mp hp]
      exact ⟨Heap.get?_push_at rfl rfl, I'.hok.fresh (Nat.le_refl _), Nat.ne_of_gt I'.lt, I'.nofs (Nat.le_refl _), fun v z => by cases z⟩
  have hX := he (cxSup CX P w K mg base N qual scope f (.ref cda) cc A outer s H E)
  have hpl2 := hpl (cxSup CX P w K mg base N qual scope f (.ref cda) cc A outer s H E)
  have hrun := hPA.run p3 _ _ _ _ _ I3 hq
  show wpAny _ _ (callWith p3 (Value.ref h'.objs.size) [] (backTo p3 (starEach (e :: es) (cxSup CX P w K mg base N qual scope f (.ref cda) cc A outer s H E).env)) []) _ _ _
  rw [hX] at hrun ⊢
  refine PySem.W.kxs_callWith (i := "ValueError.__init__") (x := a) (by show (false || (backTo p3 (starEach es _)).any (·.1)) = false; rw [hpl2]; rfl) (Calls.evalArgs_plain (wpAny_mono hrun (fun ws' s1 hh => ?_) fun _ _ z => z))
  obtain ⟨vs1, H1, I4, r1, hl1, e1, ht⟩ := hh
  refine ⟨(I4.pin _ (List.mem_append_right _ (List.mem_singleton.mpr rfl))).1, ?_⟩
  refine sup_call T.ox I4 e1 (I4.pin _ (List.mem_append_right _ (List.mem_singleton.mpr rfl))).1 (by rw [List.nil_append, ← Paired.length r1, sizeLine_eq]; omega) (fun s2 J => ?_)
  refine wpAt_of_wpAny ?_
  refine wpAny_mono (hPS.run _ s2 _ H1 _ J ht) (fun fl s' hs => ?_) fun e s' hs => hs
  have fin : ∀ {σ' : L2.St} {H' : Hp} {v : V} {u : Value}, Inv (cxSup CX P w K mg base N qual scope f (.ref cda) cc A outer s H E) [(h'.objs.size, PySem.W.kxs_mw "ValueError.__init__" a)] σ' H' s' → RelV v u → Q v H' → CE outer P w H s Q u s' :=
    fun {σ' H' v u} J rv q => ⟨v, H', J.os, J.bare, J.base, J.hok, rv, q⟩
  cases fl with
  | ret u =>
    obtain ⟨v, σ', H', J, rv, q⟩ := hs
    exact fin J rv q
  | next =>
    obtain ⟨σ', H', J, q⟩ := hs
    exact fin (v := V.non) (u := Value.none) J rfl q
  | brk =>
    obtain ⟨_, _, _, q⟩ := hs
    exact False.elim q
  | cont =>
    obtain ⟨_, _, _, q⟩ := hs
    exact False.elim q
/-- what the program says of its own file, and of the name super -/
structure Prg (P : Program) : Prop where
  file : ((P.main.file : Str) == ("/claim/cut.py" : Str)) = true
  top : (P.main.scope.names.lookup ("super" : Str)).isSome = false
/-- such a def of the text as it stands behind the top -/
structure FunSup (K : PySem.W.Frag) (x qual : Str) (st : Stmt) (f : Addr) (fd : FuncData) (D : Addr) : Prop where
  ex : ∃ (oc : Value) (od : Option Addr) (kV doc pm : Value) (an : Option Addr) (cda : Addr) (ct : Value) (osl : Array (Option Value)) (cc : Addr) (cl ccl : Value) (cld cdd : Option Addr) (csl ccs : Array (Option Value)) (fvs : Array Value) (tf : Tok) (cdD : ClassData),
    fd = PySem.W.fnX x qual (defArgs st) (defBody st) (defScope st) [("__class__", cc)] .none kV doc pm an (.ref cda) ct ∧ K.lookup f = some ⟨oc, od, .func fd, osl⟩ ∧ PySem.W.codeIn K (.ref cda) qual = true ∧ K.lookup cda = some ⟨ccl, cdd, .fields fvs, ccs⟩ ∧
    fvs[2]? = some (.str "/claim/cut.py" tf) ∧ K.lookup cc = some ⟨cl, cld, .cell (some (.ref D)), csl⟩ ∧ PySem.W.clsIn K D = some cdD
theorem FunSup.ok {CX : CXT} {P : Program} {w : World} {K : PySem.W.Frag} {mg : Str → Option Value} {base : Heap} {x qual : Str} {st : Stmt} {f D : Addr} {fd : FuncData} {N ps : List Str} {k : Nat} {sp : Sp} {ar : Arg} {e : Expr} {es : List Expr} {p0 p1 p2 p3 p4 : Pos} {rest : List Stmt}
    (F : FunSup K x qual st f fd D) (hP : Prg P) (S : SupScope N ps (defScope st)) (len : ∀ vs H Q E, sp vs H Q E → vs.length = ps.length)
    (hst : defBody st = .Expr (.Call (.Attribute (.Call (.Name "super" p0) [] [] p1) "__init__" p2) (e :: es) [] p3) p4 :: rest) (hpar : ((defArgs st).posonlyargs ++ (defArgs st).args).head? = some ar) (har : ps[0]? = some ar.arg) (hsuper : mg "super" = none)
    {pl : Addr → Addr → Addr → Sem Bool} (hev : ∀ cc cda L : Addr, eval (.Call (.Attribute (.Call (.Name "super" p0) [] [] p1) "__init__" p2) (e :: es) [] p3) (envSup qual (defScope st) L f (.ref cda) cc) = (do
      let ov ← attributeBase (.Call (.Name "super" p0) [] [] p1) "__init__" (envSup qual (defScope st) L f (.ref cda) cc) (eval (.Call (.Name "super" p0) [] [] p1) (envSup qual (defScope st) L f (.ref cda) cc))
      standAt p2.atName
      let (fx, first) ← holding [ov] (getMethod ov "__init__" (pl cc cda L))
      callWith p3 fx first (backTo p3 (starEach (e :: es) (envSup qual (defScope st) L f (.ref cda) cc))) []))
    (he : ∀ X : Cx, starEach (e :: es) X.env = (false, eval e X.env) :: starEach es X.env) (hpl : ∀ X : Cx, (backTo p3 (starEach es X.env)).any (·.1) = false)
    (hbody : ∀ (cc cda : Addr) (A : Around) (outer : List Env) (s : Shared) (H : Hp) (vs : List V) (Q : VK) (E : XK), Room k (A.deeper (envSup qual (defScope st) s.heap.objs.size f (.ref cda) cc)) → sp vs H Q E →
      ∃ (ta : TA) (t : TS) (a C : Addr) (ws : List V), PA (cxSup CX P w K mg base N qual (defScope st) f (.ref cda) cc A outer s H E) (e :: es) ta ∧ PSs (cxSup CX P w K mg base N qual (defScope st) f (.ref cda) cc A outer s H E) rest t ∧ vs = .ref a :: ws ∧ H a = some (exo a C none) ∧ SupC K C D ∧
        ta (L2.start N vs) H fun us H1 => us.length ≤ 1000 ∧ H1 a = some (exo a C none) ∧ t { nx := fun _ H' => Q .non H', rt := Q } (L2.start N vs) H1) :
    FnOk P w K mg base CX (k + 1) f fd ps sp := by
  obtain ⟨oc, od, kV, doc, pm, an, cda, ct, osl, cc, cl, ccl, cld, cdd, csl, ccs, fvs, tf, cdD, rfl, lk, hcd, hcode, hvs, hcc, hD⟩ := F.ex
  rw [hst] at lk ⊢
  exact fn_sup lk hcd S len hpar har hcode hvs hP.file hcc hD hsuper hP.top (pl cc cda) (hev cc cda) he hpl (fun A outer s H vs Q E => hbody cc cda A outer s H vs Q E)
end
section
/-! ### an own exception that was made with its own __init__, as a value (our own rules) -/
open PySem PySem.Spec PyProof.Rows
/-- its object and its dict -/
structure ExV (H : Hp) (a C dx : Addr) (fs : List (Str × V)) : Prop where
  ob : H a = some (exo a C (some dx))
  di : H dx = some (exd dx fs)
theorem ExV.to {H H' : Hp} {a C dx : Addr} {fs : List (Str × V)} (h : ExV H a C dx fs) (s : Same H H') : ExV H' a C dx fs := ⟨s _ _ h.ob, s _ _ h.di⟩
theorem exv_inst {X : Cx} {pins : List (Addr × Obj)} {σ : L2.St} {H : Hp} {s : Shared} {a C dx : Addr} {fs : List (Str × V)} (I : Inv X pins σ H s) (h : ExV H a C dx fs) :
    ∃ (ox od : Obj) (mA : Str → Option Value), PySem.W.InstAt s.heap a ox C (some od) ∧ (∀ f, RelO (fs.lookup f) (mA f)) ∧ ∀ n, PySem.W.lookIn n od = some (mA n) := by
  obtain ⟨t1, ho⟩ := exo_at I.hok h.ob
  obtain ⟨mA, hns, hr⟩ := exd_at I.hok h.di
  obtain ⟨od, hod, hl⟩ := lookIn_ns hns
  exact ⟨_, od, mA, ⟨ho, rfl, rfl, hod⟩, hr, hl⟩
/-- isinstance(x, c) of such an exception -/
def rIsExo (K : PySem.W.Frag) : List V → Hp → VK → Prop := fun xs H Q => ∃ (a C dx : Addr) (fs : List (Str × V)) (c : V) (cv : Value) (b : Bool), xs = [.ref a, c] ∧ ExV H a C dx fs ∧ ExcC K C ∧ (∀ u, RelV c u → u = cv) ∧ PySem.W.kitOne K (.ref C) cv = some b ∧ Q (.bl b) H
theorem call_isExo {X : Cx} : CallR X (.builtin "isinstance") (rIsExo X.K) := by
  intro pins s σ H xs us Q I r h
  obtain ⟨a, C, dx, fs, c, cv, b, rfl, ev, T, hcv, e, q⟩ := h
  cases r with
  | cons rx rr =>
    cases rr with
    | cons rt rr =>
      cases rr
      cases rx
      have ec := hcv _ rt
      subst ec
      obtain ⟨ox, od, mA, J, _, _⟩ := exv_inst I ev
      have hcl : (PySem.W.clsIn X.K C).isSome = true := by
        have := T.hd
        unfold PySem.W.hasDictIn at this
        cases z : PySem.W.clsIn X.K C with
        | none => rw [z] at this; cases this
        | some cd => rfl
      exact PySem.W.kia_one (PySem.W.kitx_exc hcl T.hg T.hk T.hs T.ha T.hn T.ht T.hm) I.kIn J e (fun z => nomatch z) fun tk => ⟨.bl b, H, I.kept (t' := tk) fun _ _ z => z, rfl, q⟩
/-- e.f of such an exception -/
def tExf (K : PySem.W.Frag) (n : Str) (te : TE) : TE := fun σ H Q => te σ H fun x H1 => ∃ (a C dx : Addr) (fs : List (Str × V)) (v : V), x = .ref a ∧ ExV H1 a C dx fs ∧ XfC K C ∧ PySem.W.findIn K (.ref C) n = some none ∧ fs.lookup n = some v ∧ Q v H1
theorem pe_exf {X : Cx} {e : Expr} {te : TE} {pos : Pos} {n : Str} (he : PE X e te) (hb : attributeBase e n X.env (eval e X.env) = eval e X.env := by rfl) : PE X (.Attribute e n pos) (tExf X.K n te) := by
  refine ⟨fun pins s σ H Q I h => ?_⟩
  refine attr_of hb (thn (he.run pins s σ H _ I h) fun u s1 hh => ?_)
  obtain ⟨x, H1, I1, rx, a, C, dx, fs, v, ex, ev, T, hno, l, q⟩ := hh
  subst ex
  obtain rfl : u = Value.ref a := rx
  obtain ⟨ox, od, mA, J, hr, hl⟩ := exv_inst I1 ev
  obtain ⟨u, hu, ru⟩ := RelO.some_of (v := v) (o := mA n) (by rw [← l]; exact hr n)
  exact HandSPX.exc_get I1.kIn J T.ga T.gg T.exC (PySem.W.findObj_own T.hdC hno rfl (by rw [hl, hu])) (handed_of ru) ⟨v, H1, I1.tok _, ru, q⟩
/-- C(e, ..) as a value, C's own __init__ keeping sp -/
def tMkV (C : Addr) (sp : Sp) (dvs : List V) (ta : TA) : TE := fun σ H Q => ta σ H fun vs H1 => vs.length ≤ 1000 ∧ ∀ a, H1 a = none → sp (.ref a :: (vs ++ dvs)) (upd H1 a (exo a C none)) (fun v H2 => v = .non ∧ Q (.ref a) H2) (fun _ _ _ => False)
theorem pe_mkv {X : Cx} {e : Expr} {es : List Expr} {ta : TA} {p pos : Pos} {CX : CXT} {x : Str} {C fI : Addr} {k : Nat} {fd : FuncData} {ps : List Str} {sp : Sp} {ds : List Value} {dvs : List V} (T : OexC X.K C) (iC : PySem.W.findIn X.K (.ref C) "__init__" = some (some (.ref fI))) (tI : PySem.W.typeIn X.K (.ref fI) = some (.type "function"))
    (F1 : FnOk X.prog X.w X.K X.mg X.base CX k fI fd ps sp) (hr : Room (k + 1) X.A) (hb : Binds X.K fd ps ds) (hd : Vals dvs ds) (hx : Passes CX X (fun _ _ _ => False)) (hg : Gl X x) (hm : X.mg x = some (.ref C)) (ha : PA X (e :: es) ta)
    (hdb : (x == ("__debug__" : Str)) = false := by decide) (he : starEach (e :: es) X.env = (false, eval e X.env) :: starEach es X.env := by rfl) (hpl : (backTo pos (starEach es X.env)).any (·.1) = false := by rfl) :
    PE X (.Call (.Name x p) (e :: es) [] pos) (tMkV C sp dvs ta) := by
  refine ⟨fun pins s σ H Q I h => ?_⟩
  obtain ⟨nm, q, N, bs, bm, sn, sub, ab, col, dd, k0, k1, k2, k3, k5, hC, hbm⟩ := T.cls
  refine wpAny_Call_Name_kw (ld_glob I hg hm ?_ hdb)
  refine PySem.W.callWith_K (h₀ := X.base) I.ok.mod.kin T.kC (thn (ha.run pos pins s σ H _ I h) fun us s1 ⟨vs, H1, I1, r1, hz, q1⟩ => ⟨I1.kIn, ?_⟩) he hpl
  show wpAny _ _ (call (.ref C) us) _ _ _
  obtain ⟨hp, g, dr, tk, os⟩ := s1
  have hsz : hp.objs.size ≤ hp.objs.size + 1 := Nat.le_succ _
  have hn : H1 (hp.objs.size + 1) = none := I1.hok.fresh hsz
  have hq := q1 (hp.objs.size + 1) hn
  have kk : ∀ b o, hp.get? b = some o → ((hp.push (PySem.W.kdv_tup us)).push (PySem.HandSPX.excO C hp.objs.size)).get? b = some o := fun b o e => Heap.get?_push_of_some _ (Heap.get?_push_of_some _ e)
  have hget : ((hp.push (PySem.W.kdv_tup us)).push (PySem.HandSPX.excO C hp.objs.size)).get? (hp.objs.size + 1) = some (PySem.HandSPX.excO C hp.objs.size) := by heap_get
  have I2 : Inv X pins σ (upd H1 (hp.objs.size + 1) (exo (hp.objs.size + 1) C none)) ⟨(hp.push (PySem.W.kdv_tup us)).push (PySem.HandSPX.excO C hp.objs.size), g, dr, tk, os⟩ :=
    I1.laid (t' := tk) (a := hp.objs.size + 1) (o := exo (hp.objs.size + 1) C none) (h' := (hp.push (PySem.W.kdv_tup us)).push (PySem.HandSPX.excO C hp.objs.size)) kk hsz (exo_ok hget)
  have r2 : Vals (V.ref (hp.objs.size + 1) :: (vs ++ dvs)) (Value.ref (hp.objs.size + 1) :: (us ++ ds)) := .cons rfl (r1.append hd)
  have hl : (Value.ref (hp.objs.size + 1) :: us ++ ds).length = ps.length := by
    have e := r2.length
    rw [F1.len _ _ _ _ hq] at e
    exact e.symm
  have hus : us.length ≤ sizeLine := by
    rw [← Paired.length r1, sizeLine_eq]
    omega
  refine wpAny_call (PySem.HandSPX.call_own F.excBase_ValueError (fun Y => PySem.HandSPX.refsVE_contains Y bm hbm) (I1.kIn _ _ hC) (PySem.W.looks_findIn I1.kIn iC) (fun self => PySem.W.bind_fn I1.kIn self tI) hus
    (codeAny_mono (F1.run _ X.stack _ _ ⟨Value.ref (hp.objs.size + 1) :: us, []⟩ (Value.ref (hp.objs.size + 1) :: (us ++ ds)) _ _ (fun _ _ _ => False) (hr.make C us []) (I2.env0.make C us []) (hb _ (Value.ref (hp.objs.size + 1) :: us) I2.kIn hl) r2 hq) fun r s' hq' => ?_))
  cases r with
  | error er => exact hx pins σ _ _ er s' I2 hq'
  | ok fl =>
    cases fl with
    | ret u =>
      obtain ⟨v, H2, J, rv, ev, q2⟩ := I2.after hq'
      subst ev
      exact ⟨rv, V.ref (hp.objs.size + 1), H2, J, rfl, q2⟩
    | next => exact False.elim hq'
    | brk => exact False.elim hq'
    | cont => exact False.elim hq'
end
def topS (i : Nat) : Stmt := PySem.Challenge.pw_sillwatch_k14_replies_and_faults.main.body.getD i (.Pass ⟨0, 0, 0, 0⟩)
abbrev s_is_integer : Stmt := topS 15
abbrev s_is_text : Stmt := topS 16
abbrev s_number_octets : Stmt := topS 17
abbrev s_field_octets : Stmt := topS 18
abbrev s__is_code : Stmt := topS 19
abbrev s__is_of : Stmt := topS 20
abbrev s__are_octets : Stmt := topS 21
abbrev s__is_bound : Stmt := topS 22
abbrev s__text_octets : Stmt := topS 23
abbrev s__padded : Stmt := topS 24
abbrev s_encode_message : Stmt := topS 30
abbrev s_event_octets : Stmt := topS 33
abbrev s__opcode_of : Stmt := topS 34
abbrev s_fault_octets : Stmt := topS 36
abbrev s__law_cell : Stmt := topS 40
abbrev s__law_row : Stmt := topS 41
abbrev s__law_sign : Stmt := topS 42
abbrev s__law_text : Stmt := topS 43
abbrev s__law_deeds : Stmt := topS 47
abbrev s_law : Stmt := topS 48
abbrev s_Fault___init__ : Stmt := inClass (topS 4) 0
abbrev s_Reply___init__ : Stmt := inClass (topS 38) 0
abbrev s_Reply_tell : Stmt := inClass (topS 38) 1
abbrev s_Reply_end : Stmt := inClass (topS 38) 2
abbrev s_Reply_wish : Stmt := inClass (topS 38) 3
structure Adr where
  fis_integer : Addr
  dis_integer : FuncData
  fis_text : Addr
  dis_text : FuncData
  fnumber_octets : Addr
  dnumber_octets : FuncData
  ffield_octets : Addr
  dfield_octets : FuncData
  f_is_code : Addr
  d_is_code : FuncData
  f_is_of : Addr
  d_is_of : FuncData
  f_are_octets : Addr
  d_are_octets : FuncData
  f_is_bound : Addr
  d_is_bound : FuncData
  f_text_octets : Addr
  d_text_octets : FuncData
  f_padded : Addr
  d_padded : FuncData
  fencode_message : Addr
  dencode_message : FuncData
  fevent_octets : Addr
  devent_octets : FuncData
  f_opcode_of : Addr
  d_opcode_of : FuncData
  ffault_octets : Addr
  dfault_octets : FuncData
  f_law_cell : Addr
  d_law_cell : FuncData
  f_law_row : Addr
  d_law_row : FuncData
  f_law_sign : Addr
  d_law_sign : FuncData
  f_law_text : Addr
  d_law_text : FuncData
  f_law_deeds : Addr
  d_law_deeds : FuncData
  flaw : Addr
  dlaw : FuncData
  fFault___init__ : Addr
  dFault___init__ : FuncData
  fReply___init__ : Addr
  dReply___init__ : FuncData
  fReply_tell : Addr
  dReply_tell : FuncData
  fReply_end : Addr
  dReply_end : FuncData
  fReply_wish : Addr
  dReply_wish : FuncData
  tDISPLAY : Tok
  tGREATEST_NUMBER : Tok
  tLEAST_INT : Tok
  tGREATEST_INT : Tok
  tLONGEST_TEXT : Tok
  tMOST_OCTETS : Tok
  t_FIRST_CODE : Tok
  t_LAST_CODE : Tok
  t_PERCENT_CODE : Tok
  tHEADER_SIZE : Tok
  tGREATEST_SIZE : Tok
  tGREATEST_OPCODE : Tok
  tMOST_ARGUMENTS : Tok
  a_EVENTS : Addr
  a_EVENTS_k0 : Addr
  a_EVENTS_k0_0 : Addr
  a_EVENTS_k0_0_1 : Addr
  a_EVENTS_k0_1 : Addr
  a_EVENTS_k0_1_1 : Addr
  a_EVENTS_k1 : Addr
  a_EVENTS_k1_0 : Addr
  a_EVENTS_k1_0_1 : Addr
  a_EVENTS_k2 : Addr
  a_EVENTS_k2_0 : Addr
  a_EVENTS_k2_0_1 : Addr
  a_EVENTS_k2_1 : Addr
  a_EVENTS_k2_1_1 : Addr
  a_EVENTS_k3 : Addr
  a_EVENTS_k3_0 : Addr
  a_EVENTS_k3_0_1 : Addr
  a_EVENTS_k4 : Addr
  a_EVENTS_k4_0 : Addr
  a_EVENTS_k4_0_1 : Addr
  a_EVENTS_k5 : Addr
  a_EVENTS_k5_0 : Addr
  a_EVENTS_k5_0_1 : Addr
  a_EVENTS_k5_1 : Addr
  a_EVENTS_k5_1_1 : Addr
  a_EVENTS_k5_2 : Addr
  a_EVENTS_k5_2_1 : Addr
  a_EVENTS_k5_3 : Addr
  a_EVENTS_k5_3_1 : Addr
  a_EVENTS_k6 : Addr
  a_EVENTS_k6_0 : Addr
  a_EVENTS_k6_0_1 : Addr
  a_EVENTS_k6_1 : Addr
  a_EVENTS_k6_1_1 : Addr
  a_EVENTS_k7 : Addr
  a_EVENTS_k7_0 : Addr
  a_EVENTS_k7_0_1 : Addr
  a_EVENTS_k7_1 : Addr
  a_EVENTS_k7_1_1 : Addr
  a_EVENTS_k7_2 : Addr
  a_EVENTS_k7_2_1 : Addr
  a_EVENTS_k7_3 : Addr
  a_EVENTS_k7_3_1 : Addr
  a_EVENTS_k7_4 : Addr
  a_EVENTS_k7_4_1 : Addr
  a_EVENTS_k8 : Addr
  a_EVENTS_k8_0 : Addr
  a_EVENTS_k8_0_1 : Addr
  a_EVENTS_k8_1 : Addr
  a_EVENTS_k8_1_1 : Addr
  a_EVENTS_k8_2 : Addr
  a_EVENTS_k8_2_1 : Addr
  a_EVENTS_k8_3 : Addr
  a_EVENTS_k8_3_1 : Addr
  a_EVENTS_k8_4 : Addr
  a_EVENTS_k8_4_1 : Addr
  a_EVENTS_k9 : Addr
  a_EVENTS_k9_0 : Addr
  a_EVENTS_k9_0_1 : Addr
  a_EVENTS_k9_1 : Addr
  a_EVENTS_k9_1_1 : Addr
  a_EVENTS_k9_2 : Addr
  a_EVENTS_k9_2_1 : Addr
  a_EVENTS_k9_3 : Addr
  a_EVENTS_k9_3_1 : Addr
  a_EVENTS_k9_4 : Addr
  a_EVENTS_k9_4_1 : Addr
  a_EVENTS_k9_5 : Addr
  a_EVENTS_k9_5_1 : Addr
  a_EVENTS_k10 : Addr
  a_EVENTS_k10_0 : Addr
  a_EVENTS_k10_0_1 : Addr
  a_EVENTS_k10_1 : Addr
  a_EVENTS_k10_1_1 : Addr
  a_EVENTS_k11 : Addr
  a_EVENTS_k11_0 : Addr
  a_EVENTS_k11_0_1 : Addr
  a_EVENTS_k11_1 : Addr
  a_EVENTS_k11_1_1 : Addr
  a_EVENTS_k11_2 : Addr
  a_EVENTS_k11_2_1 : Addr
  a_EVENTS_k12 : Addr
  a_EVENTS_k12_0 : Addr
  a_EVENTS_k12_0_1 : Addr
  a_EVENTS_k12_1 : Addr
  a_EVENTS_k12_1_1 : Addr
  a_EVENTS_k12_2 : Addr
  a_EVENTS_k12_2_1 : Addr
  a_EVENTS_k13 : Addr
  a_EVENTS_k13_0 : Addr
  a_EVENTS_k13_0_1 : Addr
  a_EVENTS_k13_1 : Addr
  a_EVENTS_k13_1_1 : Addr
  CReply : Addr
  CDisplayError : Addr
  CBadMessage : Addr
  CMessageTooLong : Addr
  CFault : Addr
structure Txt0 (P : Program) (K : PySem.W.Frag) (mg : Str → Option Value) (A : Adr) : Prop where
  prg : Prg P
  Fis_integer : Fun K "is_integer" "is_integer" s_is_integer A.fis_integer A.dis_integer
  bis_integer : Binds K A.dis_integer ["value", "least", "greatest"] []
  gis_integer : mg "is_integer" = some (.ref A.fis_integer)
  kis_integer : PySem.W.keepIn K (.ref A.fis_integer) = true
  Fis_text : Fun K "is_text" "is_text" s_is_text A.fis_text A.dis_text
  bis_text : Binds K A.dis_text ["value"] []
  gis_text : mg "is_text" = some (.ref A.fis_text)
  kis_text : PySem.W.keepIn K (.ref A.fis_text) = true
  Fnumber_octets : Fun K "number_octets" "number_octets" s_number_octets A.fnumber_octets A.dnumber_octets
  bnumber_octets : Binds K A.dnumber_octets ["number", "count"] []
  gnumber_octets : mg "number_octets" = some (.ref A.fnumber_octets)
  knumber_octets : PySem.W.keepIn K (.ref A.fnumber_octets) = true
  Ffield_octets : Fun K "field_octets" "field_octets" s_field_octets A.ffield_octets A.dfield_octets
  bfield_octets : Binds K A.dfield_octets ["kind", "value"] []
  gfield_octets : mg "field_octets" = some (.ref A.ffield_octets)
  kfield_octets : PySem.W.keepIn K (.ref A.ffield_octets) = true
  F_is_code : Fun K "_is_code" "_is_code" s__is_code A.f_is_code A.d_is_code
  b_is_code : Binds K A.d_is_code ["code"] []
  g_is_code : mg "_is_code" = some (.ref A.f_is_code)
  k_is_code : PySem.W.keepIn K (.ref A.f_is_code) = true
  F_is_of : Fun K "_is_of" "_is_of" s__is_of A.f_is_of A.d_is_of
  b_is_of : Binds K A.d_is_of ["kind", "value"] []
  g_is_of : mg "_is_of" = some (.ref A.f_is_of)
  k_is_of : PySem.W.keepIn K (.ref A.f_is_of) = true
  F_are_octets : Fun K "_are_octets" "_are_octets" s__are_octets A.f_are_octets A.d_are_octets
  b_are_octets : Binds K A.d_are_octets ["value"] []
  g_are_octets : mg "_are_octets" = some (.ref A.f_are_octets)
  k_are_octets : PySem.W.keepIn K (.ref A.f_are_octets) = true
  F_is_bound : Fun K "_is_bound" "_is_bound" s__is_bound A.f_is_bound A.d_is_bound
  b_is_bound : Binds K A.d_is_bound ["value"] []
  g_is_bound : mg "_is_bound" = some (.ref A.f_is_bound)
  k_is_bound : PySem.W.keepIn K (.ref A.f_is_bound) = true
  F_text_octets : Fun K "_text_octets" "_text_octets" s__text_octets A.f_text_octets A.d_text_octets
  b_text_octets : Binds K A.d_text_octets ["text"] []
  g_text_octets : mg "_text_octets" = some (.ref A.f_text_octets)
  k_text_octets : PySem.W.keepIn K (.ref A.f_text_octets) = true
  F_padded : Fun K "_padded" "_padded" s__padded A.f_padded A.d_padded
  b_padded : Binds K A.d_padded ["octets"] []
  g_padded : mg "_padded" = some (.ref A.f_padded)
  k_padded : PySem.W.keepIn K (.ref A.f_padded) = true
  Fencode_message : Fun K "encode_message" "encode_message" s_encode_message A.fencode_message A.dencode_message
  bencode_message : Binds K A.dencode_message ["number", "opcode", "arguments"] []
  gencode_message : mg "encode_message" = some (.ref A.fencode_message)
  kencode_message : PySem.W.keepIn K (.ref A.fencode_message) = true
  Fevent_octets : Fun K "event_octets" "event_octets" s_event_octets A.fevent_octets A.devent_octets
  bevent_octets : Binds K A.devent_octets ["number", "interface", "name", "values"] []
  gevent_octets : mg "event_octets" = some (.ref A.fevent_octets)
  kevent_octets : PySem.W.keepIn K (.ref A.fevent_octets) = true
  F_opcode_of : Fun K "_opcode_of" "_opcode_of" s__opcode_of A.f_opcode_of A.d_opcode_of
  b_opcode_of : Binds K A.d_opcode_of ["rows", "name"] []
  g_opcode_of : mg "_opcode_of" = some (.ref A.f_opcode_of)
  k_opcode_of : PySem.W.keepIn K (.ref A.f_opcode_of) = true
  Ffault_octets : Fun K "fault_octets" "fault_octets" s_fault_octets A.ffault_octets A.dfault_octets
  bfault_octets : Binds K A.dfault_octets ["fault"] []
  gfault_octets : mg "fault_octets" = some (.ref A.ffault_octets)
  kfault_octets : PySem.W.keepIn K (.ref A.ffault_octets) = true
  F_law_cell : Fun K "_law_cell" "_law_cell" s__law_cell A.f_law_cell A.d_law_cell
  b_law_cell : Binds K A.d_law_cell ["script", "k"] []
  g_law_cell : mg "_law_cell" = some (.ref A.f_law_cell)
  k_law_cell : PySem.W.keepIn K (.ref A.f_law_cell) = true
  F_law_row : Fun K "_law_row" "_law_row" s__law_row A.f_law_row A.d_law_row
  b_law_row : Binds K A.d_law_row ["script", "k"] []
  g_law_row : mg "_law_row" = some (.ref A.f_law_row)
  k_law_row : PySem.W.keepIn K (.ref A.f_law_row) = true
  F_law_sign : Fun K "_law_sign" "_law_sign" s__law_sign A.f_law_sign A.d_law_sign
  b_law_sign : Binds K A.d_law_sign ["digit"] []
  g_law_sign : mg "_law_sign" = some (.ref A.f_law_sign)
  k_law_sign : PySem.W.keepIn K (.ref A.f_law_sign) = true
  F_law_text : Fun K "_law_text" "_law_text" s__law_text A.f_law_text A.d_law_text
  b_law_text : Binds K A.d_law_text ["row", "size"] []
  g_law_text : mg "_law_text" = some (.ref A.f_law_text)
  k_law_text : PySem.W.keepIn K (.ref A.f_law_text) = true
  F_law_deeds : Fun K "_law_deeds" "_law_deeds" s__law_deeds A.f_law_deeds A.d_law_deeds
  b_law_deeds : Binds K A.d_law_deeds ["script", "k", "reply", "told", "ended", "wishes"] []
  g_law_deeds : mg "_law_deeds" = some (.ref A.f_law_deeds)
  k_law_deeds : PySem.W.keepIn K (.ref A.f_law_deeds) = true
  Flaw : Fun K "law" "law" s_law A.flaw A.dlaw
  blaw : Binds K A.dlaw ["script"] []
  glaw : mg "law" = some (.ref A.flaw)
  klaw : PySem.W.keepIn K (.ref A.flaw) = true
  FFault___init__ : FunSup K "__init__" "Fault.__init__" s_Fault___init__ A.fFault___init__ A.dFault___init__ A.CFault
  bFault___init__ : Binds K A.dFault___init__ ["self", "number", "code", "words"] []
  MFault : PySem.W.findIn K (.ref A.CFault) "__init__" = some (some (.ref A.fFault___init__))
  TFault : PySem.W.typeIn K (.ref A.fFault___init__) = some (.type "function")
  FReply___init__ : Fun K "__init__" "Reply.__init__" s_Reply___init__ A.fReply___init__ A.dReply___init__
  bReply___init__ : Binds K A.dReply___init__ ["self"] []
  MReply : Mk K A.CReply A.fReply___init__
  FReply_tell : Fun K "tell" "Reply.tell" s_Reply_tell A.fReply_tell A.dReply_tell
  bReply_tell : Binds K A.dReply_tell ["self", "number", "interface", "name", "values"] []
  mReply_tell : Meth K A.CReply "tell" A.fReply_tell
  FReply_end : Fun K "end" "Reply.end" s_Reply_end A.fReply_end A.dReply_end
  bReply_end : Binds K A.dReply_end ["self", "number"] []
  mReply_end : Meth K A.CReply "end" A.fReply_end
  FReply_wish : Fun K "wish" "Reply.wish" s_Reply_wish A.fReply_wish A.dReply_wish
  bReply_wish : Binds K A.dReply_wish ["self", "deed"] []
  mReply_wish : Meth K A.CReply "wish" A.fReply_wish
  all : mg "all" = none
  bool : mg "bool" = none
  int : mg "int" = none
  isinstance : mg "isinstance" = none
  len : mg "len" = none
  list : mg "list" = none
  min : mg "min" = none
  ord : mg "ord" = none
  range : mg "range" = none
  str : mg "str" = none
  super : mg "super" = none
  tuple : mg "tuple" = none
  zip : mg "zip" = none
  gDISPLAY : mg "DISPLAY" = some (.int (1) A.tDISPLAY)
  gGREATEST_NUMBER : mg "GREATEST_NUMBER" = some (.int (4294967295) A.tGREATEST_NUMBER)
  gLEAST_INT : mg "LEAST_INT" = some (.int (-2147483648) A.tLEAST_INT)
  gGREATEST_INT : mg "GREATEST_INT" = some (.int (2147483647) A.tGREATEST_INT)
  gLONGEST_TEXT : mg "LONGEST_TEXT" = some (.int (1000) A.tLONGEST_TEXT)
  gMOST_OCTETS : mg "MOST_OCTETS" = some (.int (16384) A.tMOST_OCTETS)
  g_FIRST_CODE : mg "_FIRST_CODE" = some (.int (32) A.t_FIRST_CODE)
  g_LAST_CODE : mg "_LAST_CODE" = some (.int (126) A.t_LAST_CODE)
  g_PERCENT_CODE : mg "_PERCENT_CODE" = some (.int (37) A.t_PERCENT_CODE)
  gHEADER_SIZE : mg "HEADER_SIZE" = some (.int (8) A.tHEADER_SIZE)
  gGREATEST_SIZE : mg "GREATEST_SIZE" = some (.int (20480) A.tGREATEST_SIZE)
  gGREATEST_OPCODE : mg "GREATEST_OPCODE" = some (.int (65535) A.tGREATEST_OPCODE)
  gMOST_ARGUMENTS : mg "MOST_ARGUMENTS" = some (.int (20) A.tMOST_ARGUMENTS)
  g_EVENTS : mg "_EVENTS" = some (.ref A.a_EVENTS)
  w_EVENTS_k0 : ∀ H : Hp, SqT K H A.a_EVENTS_k0 [.ref A.a_EVENTS_k0_0, .ref A.a_EVENTS_k0_1]
  w_EVENTS_k0_0 : ∀ H : Hp, SqT K H A.a_EVENTS_k0_0 [.str "error", .ref A.a_EVENTS_k0_0_1]
  w_EVENTS_k0_0_1 : ∀ H : Hp, SqT K H A.a_EVENTS_k0_0_1 [.str "uint", .str "uint", .str "text"]
  w_EVENTS_k0_1 : ∀ H : Hp, SqT K H A.a_EVENTS_k0_1 [.str "removed", .ref A.a_EVENTS_k0_1_1]
  w_EVENTS_k0_1_1 : ∀ H : Hp, SqT K H A.a_EVENTS_k0_1_1 [.str "uint"]
  w_EVENTS_k1 : ∀ H : Hp, SqT K H A.a_EVENTS_k1 [.ref A.a_EVENTS_k1_0]
  w_EVENTS_k1_0 : ∀ H : Hp, SqT K H A.a_EVENTS_k1_0 [.str "done", .ref A.a_EVENTS_k1_0_1]
  w_EVENTS_k1_0_1 : ∀ H : Hp, SqT K H A.a_EVENTS_k1_0_1 [.str "uint"]
  w_EVENTS_k2 : ∀ H : Hp, SqT K H A.a_EVENTS_k2 [.ref A.a_EVENTS_k2_0, .ref A.a_EVENTS_k2_1]
  w_EVENTS_k2_0 : ∀ H : Hp, SqT K H A.a_EVENTS_k2_0 [.str "there", .ref A.a_EVENTS_k2_0_1]
  w_EVENTS_k2_0_1 : ∀ H : Hp, SqT K H A.a_EVENTS_k2_0_1 [.str "uint", .str "text"]
  w_EVENTS_k2_1 : ∀ H : Hp, SqT K H A.a_EVENTS_k2_1 [.str "gone", .ref A.a_EVENTS_k2_1_1]
  w_EVENTS_k2_1_1 : ∀ H : Hp, SqT K H A.a_EVENTS_k2_1_1 [.str "uint"]
  w_EVENTS_k3 : ∀ H : Hp, SqT K H A.a_EVENTS_k3 [.ref A.a_EVENTS_k3_0]
  w_EVENTS_k3_0 : ∀ H : Hp, SqT K H A.a_EVENTS_k3_0 [.str "release", .ref A.a_EVENTS_k3_0_1]
  w_EVENTS_k3_0_1 : ∀ H : Hp, SqT K H A.a_EVENTS_k3_0_1 []
  w_EVENTS_k4 : ∀ H : Hp, SqT K H A.a_EVENTS_k4 [.ref A.a_EVENTS_k4_0]
  w_EVENTS_k4_0 : ∀ H : Hp, SqT K H A.a_EVENTS_k4_0 [.str "size", .ref A.a_EVENTS_k4_0_1]
  w_EVENTS_k4_0_1 : ∀ H : Hp, SqT K H A.a_EVENTS_k4_0_1 [.str "uint", .str "uint", .str "uint", .str "uint"]
  w_EVENTS_k5 : ∀ H : Hp, SqT K H A.a_EVENTS_k5 [.ref A.a_EVENTS_k5_0, .ref A.a_EVENTS_k5_1, .ref A.a_EVENTS_k5_2, .ref A.a_EVENTS_k5_3]
  w_EVENTS_k5_0 : ∀ H : Hp, SqT K H A.a_EVENTS_k5_0 [.str "configure", .ref A.a_EVENTS_k5_0_1]
  w_EVENTS_k5_0_1 : ∀ H : Hp, SqT K H A.a_EVENTS_k5_0_1 [.str "uint", .str "uint", .str "uint", .str "uint"]
  w_EVENTS_k5_1 : ∀ H : Hp, SqT K H A.a_EVENTS_k5_1 [.str "close", .ref A.a_EVENTS_k5_1_1]
  w_EVENTS_k5_1_1 : ∀ H : Hp, SqT K H A.a_EVENTS_k5_1_1 []
  w_EVENTS_k5_2 : ∀ H : Hp, SqT K H A.a_EVENTS_k5_2 [.str "output", .ref A.a_EVENTS_k5_2_1]
  w_EVENTS_k5_2_1 : ∀ H : Hp, SqT K H A.a_EVENTS_k5_2_1 [.str "uint"]
  w_EVENTS_k5_3 : ∀ H : Hp, SqT K H A.a_EVENTS_k5_3 [.str "left", .ref A.a_EVENTS_k5_3_1]
  w_EVENTS_k5_3_1 : ∀ H : Hp, SqT K H A.a_EVENTS_k5_3_1 [.str "uint"]
  w_EVENTS_k6 : ∀ H : Hp, SqT K H A.a_EVENTS_k6 [.ref A.a_EVENTS_k6_0, .ref A.a_EVENTS_k6_1]
  w_EVENTS_k6_0 : ∀ H : Hp, SqT K H A.a_EVENTS_k6_0 [.str "placed", .ref A.a_EVENTS_k6_0_1]
  w_EVENTS_k6_0_1 : ∀ H : Hp, SqT K H A.a_EVENTS_k6_0_1 [.str "int", .str "int", .str "uint", .str "uint"]
  w_EVENTS_k6_1 : ∀ H : Hp, SqT K H A.a_EVENTS_k6_1 [.str "done", .ref A.a_EVENTS_k6_1_1]
  w_EVENTS_k6_1_1 : ∀ H : Hp, SqT K H A.a_EVENTS_k6_1_1 []
  w_EVENTS_k7 : ∀ H : Hp, SqT K H A.a_EVENTS_k7 [.ref A.a_EVENTS_k7_0, .ref A.a_EVENTS_k7_1, .ref A.a_EVENTS_k7_2, .ref A.a_EVENTS_k7_3, .ref A.a_EVENTS_k7_4]
  w_EVENTS_k7_0 : ∀ H : Hp, SqT K H A.a_EVENTS_k7_0 [.str "enter", .ref A.a_EVENTS_k7_0_1]
  w_EVENTS_k7_0_1 : ∀ H : Hp, SqT K H A.a_EVENTS_k7_0_1 [.str "object", .str "int", .str "int"]
  w_EVENTS_k7_1 : ∀ H : Hp, SqT K H A.a_EVENTS_k7_1 [.str "leave", .ref A.a_EVENTS_k7_1_1]
  w_EVENTS_k7_1_1 : ∀ H : Hp, SqT K H A.a_EVENTS_k7_1_1 [.str "object"]
  w_EVENTS_k7_2 : ∀ H : Hp, SqT K H A.a_EVENTS_k7_2 [.str "motion", .ref A.a_EVENTS_k7_2_1]
  w_EVENTS_k7_2_1 : ∀ H : Hp, SqT K H A.a_EVENTS_k7_2_1 [.str "int", .str "int", .str "uint"]
  w_EVENTS_k7_3 : ∀ H : Hp, SqT K H A.a_EVENTS_k7_3 [.str "button", .ref A.a_EVENTS_k7_3_1]
  w_EVENTS_k7_3_1 : ∀ H : Hp, SqT K H A.a_EVENTS_k7_3_1 [.str "uint", .str "uint", .str "uint", .str "uint"]
  w_EVENTS_k7_4 : ∀ H : Hp, SqT K H A.a_EVENTS_k7_4 [.str "axis", .ref A.a_EVENTS_k7_4_1]
  w_EVENTS_k7_4_1 : ∀ H : Hp, SqT K H A.a_EVENTS_k7_4_1 [.str "int", .str "int", .str "uint"]
  w_EVENTS_k8 : ∀ H : Hp, SqT K H A.a_EVENTS_k8 [.ref A.a_EVENTS_k8_0, .ref A.a_EVENTS_k8_1, .ref A.a_EVENTS_k8_2, .ref A.a_EVENTS_k8_3, .ref A.a_EVENTS_k8_4]
  w_EVENTS_k8_0 : ∀ H : Hp, SqT K H A.a_EVENTS_k8_0 [.str "keymap", .ref A.a_EVENTS_k8_0_1]
  w_EVENTS_k8_0_1 : ∀ H : Hp, SqT K H A.a_EVENTS_k8_0_1 [.str "text"]
  w_EVENTS_k8_1 : ∀ H : Hp, SqT K H A.a_EVENTS_k8_1 [.str "enter", .ref A.a_EVENTS_k8_1_1]
  w_EVENTS_k8_1_1 : ∀ H : Hp, SqT K H A.a_EVENTS_k8_1_1 [.str "object"]
  w_EVENTS_k8_2 : ∀ H : Hp, SqT K H A.a_EVENTS_k8_2 [.str "leave", .ref A.a_EVENTS_k8_2_1]
  w_EVENTS_k8_2_1 : ∀ H : Hp, SqT K H A.a_EVENTS_k8_2_1 [.str "object"]
  w_EVENTS_k8_3 : ∀ H : Hp, SqT K H A.a_EVENTS_k8_3 [.str "key", .ref A.a_EVENTS_k8_3_1]
  w_EVENTS_k8_3_1 : ∀ H : Hp, SqT K H A.a_EVENTS_k8_3_1 [.str "uint", .str "uint", .str "uint", .str "uint"]
  w_EVENTS_k8_4 : ∀ H : Hp, SqT K H A.a_EVENTS_k8_4 [.str "symbol", .ref A.a_EVENTS_k8_4_1]
  w_EVENTS_k8_4_1 : ∀ H : Hp, SqT K H A.a_EVENTS_k8_4_1 [.str "text", .str "text", .str "uint"]
  w_EVENTS_k9 : ∀ H : Hp, SqT K H A.a_EVENTS_k9 [.ref A.a_EVENTS_k9_0, .ref A.a_EVENTS_k9_1, .ref A.a_EVENTS_k9_2, .ref A.a_EVENTS_k9_3, .ref A.a_EVENTS_k9_4, .ref A.a_EVENTS_k9_5]
  w_EVENTS_k9_0 : ∀ H : Hp, SqT K H A.a_EVENTS_k9_0 [.str "offer", .ref A.a_EVENTS_k9_0_1]
  w_EVENTS_k9_0_1 : ∀ H : Hp, SqT K H A.a_EVENTS_k9_0_1 [.str "new", .str "uint"]
  w_EVENTS_k9_1 : ∀ H : Hp, SqT K H A.a_EVENTS_k9_1 [.str "hover", .ref A.a_EVENTS_k9_1_1]
  w_EVENTS_k9_1_1 : ∀ H : Hp, SqT K H A.a_EVENTS_k9_1_1 [.str "object", .str "int", .str "int"]
  w_EVENTS_k9_2 : ∀ H : Hp, SqT K H A.a_EVENTS_k9_2 [.str "hover_kind", .ref A.a_EVENTS_k9_2_1]
  w_EVENTS_k9_2_1 : ∀ H : Hp, SqT K H A.a_EVENTS_k9_2_1 [.str "text"]
  w_EVENTS_k9_3 : ∀ H : Hp, SqT K H A.a_EVENTS_k9_3 [.str "moved", .ref A.a_EVENTS_k9_3_1]
  w_EVENTS_k9_3_1 : ∀ H : Hp, SqT K H A.a_EVENTS_k9_3_1 [.str "uint", .str "int", .str "int"]
  w_EVENTS_k9_4 : ∀ H : Hp, SqT K H A.a_EVENTS_k9_4 [.str "away", .ref A.a_EVENTS_k9_4_1]
  w_EVENTS_k9_4_1 : ∀ H : Hp, SqT K H A.a_EVENTS_k9_4_1 []
  w_EVENTS_k9_5 : ∀ H : Hp, SqT K H A.a_EVENTS_k9_5 [.str "ended", .ref A.a_EVENTS_k9_5_1]
  w_EVENTS_k9_5_1 : ∀ H : Hp, SqT K H A.a_EVENTS_k9_5_1 []
  w_EVENTS_k10 : ∀ H : Hp, SqT K H A.a_EVENTS_k10 [.ref A.a_EVENTS_k10_0, .ref A.a_EVENTS_k10_1]
  w_EVENTS_k10_0 : ∀ H : Hp, SqT K H A.a_EVENTS_k10_0 [.str "kind", .ref A.a_EVENTS_k10_0_1]
  w_EVENTS_k10_0_1 : ∀ H : Hp, SqT K H A.a_EVENTS_k10_0_1 [.str "text", .str "uint"]
  w_EVENTS_k10_1 : ∀ H : Hp, SqT K H A.a_EVENTS_k10_1 [.str "part", .ref A.a_EVENTS_k10_1_1]
  w_EVENTS_k10_1_1 : ∀ H : Hp, SqT K H A.a_EVENTS_k10_1_1 [.str "text", .str "uint", .str "octets"]
  w_EVENTS_k11 : ∀ H : Hp, SqT K H A.a_EVENTS_k11 [.ref A.a_EVENTS_k11_0, .ref A.a_EVENTS_k11_1, .ref A.a_EVENTS_k11_2]
  w_EVENTS_k11_0 : ∀ H : Hp, SqT K H A.a_EVENTS_k11_0 [.str "allowed", .ref A.a_EVENTS_k11_0_1]
  w_EVENTS_k11_0_1 : ∀ H : Hp, SqT K H A.a_EVENTS_k11_0_1 [.str "uint", .str "uint"]
  w_EVENTS_k11_1 : ∀ H : Hp, SqT K H A.a_EVENTS_k11_1 [.str "refused", .ref A.a_EVENTS_k11_1_1]
  w_EVENTS_k11_1_1 : ∀ H : Hp, SqT K H A.a_EVENTS_k11_1_1 []
  w_EVENTS_k11_2 : ∀ H : Hp, SqT K H A.a_EVENTS_k11_2 [.str "rows", .ref A.a_EVENTS_k11_2_1]
  w_EVENTS_k11_2_1 : ∀ H : Hp, SqT K H A.a_EVENTS_k11_2_1 [.str "uint", .str "octets"]
  w_EVENTS_k12 : ∀ H : Hp, SqT K H A.a_EVENTS_k12 [.ref A.a_EVENTS_k12_0, .ref A.a_EVENTS_k12_1, .ref A.a_EVENTS_k12_2]
  w_EVENTS_k12_0 : ∀ H : Hp, SqT K H A.a_EVENTS_k12_0 [.str "changed", .ref A.a_EVENTS_k12_0_1]
  w_EVENTS_k12_0_1 : ∀ H : Hp, SqT K H A.a_EVENTS_k12_0_1 [.str "uint"]
  w_EVENTS_k12_1 : ∀ H : Hp, SqT K H A.a_EVENTS_k12_1 [.str "gone", .ref A.a_EVENTS_k12_1_1]
  w_EVENTS_k12_1_1 : ∀ H : Hp, SqT K H A.a_EVENTS_k12_1_1 []
  w_EVENTS_k12_2 : ∀ H : Hp, SqT K H A.a_EVENTS_k12_2 [.str "part", .ref A.a_EVENTS_k12_2_1]
  w_EVENTS_k12_2_1 : ∀ H : Hp, SqT K H A.a_EVENTS_k12_2_1 [.str "uint", .str "octets"]
  w_EVENTS_k13 : ∀ H : Hp, SqT K H A.a_EVENTS_k13 [.ref A.a_EVENTS_k13_0, .ref A.a_EVENTS_k13_1]
  w_EVENTS_k13_0 : ∀ H : Hp, SqT K H A.a_EVENTS_k13_0 [.str "there", .ref A.a_EVENTS_k13_0_1]
  w_EVENTS_k13_0_1 : ∀ H : Hp, SqT K H A.a_EVENTS_k13_0_1 []
  w_EVENTS_k13_1 : ∀ H : Hp, SqT K H A.a_EVENTS_k13_1 [.str "gone", .ref A.a_EVENTS_k13_1_1]
  w_EVENTS_k13_1_1 : ∀ H : Hp, SqT K H A.a_EVENTS_k13_1_1 []
  clReply : Cls K A.CReply
  gReply : mg "Reply" = some (.ref A.CReply)
  nReply_told : NoAttr K A.CReply "told"
  nReply_ended : NoAttr K A.CReply "ended"
  nReply_wishes : NoAttr K A.CReply "wishes"
  nReply_applied : NoAttr K A.CReply "applied"
  gDisplayError : mg "DisplayError" = some (.ref A.CDisplayError)
  xDisplayError : PySem.W.excIn K A.CDisplayError [.type "ValueError", .type "Exception", .type "BaseException", .type "object"] "ValueError.__new__" = true
  kDisplayError : PySem.W.keepIn K (.ref A.CDisplayError) = true
  bxDisplayError : PySem.W.subIn K (.ref A.CDisplayError) (.type "BaseException") = some true
  txDisplayError : PySem.W.typeIn K (.ref A.CDisplayError) = some (.type "type")
  exDisplayError : PySem.W.exmOne K (.ref A.CDisplayError) (.ref A.CDisplayError) = some true
  gBadMessage : mg "BadMessage" = some (.ref A.CBadMessage)
  xBadMessage : PySem.W.excIn K A.CBadMessage [.type "ValueError", .type "Exception", .type "BaseException", .type "object"] "ValueError.__new__" = true
  kBadMessage : PySem.W.keepIn K (.ref A.CBadMessage) = true
  bxBadMessage : PySem.W.subIn K (.ref A.CBadMessage) (.type "BaseException") = some true
  txBadMessage : PySem.W.typeIn K (.ref A.CBadMessage) = some (.type "type")
  exBadMessage : PySem.W.exmOne K (.ref A.CBadMessage) (.ref A.CBadMessage) = some true
  gMessageTooLong : mg "MessageTooLong" = some (.ref A.CMessageTooLong)
  xMessageTooLong : PySem.W.excIn K A.CMessageTooLong [.type "ValueError", .type "Exception", .type "BaseException", .type "object"] "ValueError.__new__" = true
  kMessageTooLong : PySem.W.keepIn K (.ref A.CMessageTooLong) = true
  bxMessageTooLong : PySem.W.subIn K (.ref A.CMessageTooLong) (.type "BaseException") = some true
  txMessageTooLong : PySem.W.typeIn K (.ref A.CMessageTooLong) = some (.type "type")
  exMessageTooLong : PySem.W.exmOne K (.ref A.CMessageTooLong) (.ref A.CMessageTooLong) = some true
  gFault : mg "Fault" = some (.ref A.CFault)
  oFault : OexC K A.CFault
  vFault : SupC K A.CFault A.CFault
  xfFault : XfC K A.CFault
  iXFault : ExcC K A.CFault
  kFault : PySem.W.keepIn K (.ref A.CFault) = true
  nFault_number : PySem.W.findIn K (.ref A.CFault) "number" = some none
  nFault_code : PySem.W.findIn K (.ref A.CFault) "code" = some none
  nFault_words : PySem.W.findIn K (.ref A.CFault) "words" = some none
  isFault_DisplayError : PySem.W.kitOne K (.ref A.CFault) (.ref A.CDisplayError) = some true
  bxFault : PySem.W.subIn K (.ref A.CFault) (.type "BaseException") = some true
  txFault : PySem.W.typeIn K (.ref A.CFault) = some (.type "type")
  exFault : PySem.W.exmOne K (.ref A.CFault) (.ref A.CFault) = some true
structure Dic (w : World) (K : PySem.W.Frag) (A : Adr) : Prop where
  d_EVENTS_k0 : KDct K w A.a_EVENTS "display" (.ref A.a_EVENTS_k0)
  d_EVENTS_k1 : KDct K w A.a_EVENTS "callback" (.ref A.a_EVENTS_k1)
  d_EVENTS_k2 : KDct K w A.a_EVENTS "registry" (.ref A.a_EVENTS_k2)
  d_EVENTS_k3 : KDct K w A.a_EVENTS "buffer" (.ref A.a_EVENTS_k3)
  d_EVENTS_k4 : KDct K w A.a_EVENTS "output" (.ref A.a_EVENTS_k4)
  d_EVENTS_k5 : KDct K w A.a_EVENTS "window" (.ref A.a_EVENTS_k5)
  d_EVENTS_k6 : KDct K w A.a_EVENTS "popup" (.ref A.a_EVENTS_k6)
  d_EVENTS_k7 : KDct K w A.a_EVENTS "pointer" (.ref A.a_EVENTS_k7)
  d_EVENTS_k8 : KDct K w A.a_EVENTS "keyboard" (.ref A.a_EVENTS_k8)
  d_EVENTS_k9 : KDct K w A.a_EVENTS "transfer" (.ref A.a_EVENTS_k9)
  d_EVENTS_k10 : KDct K w A.a_EVENTS "offer" (.ref A.a_EVENTS_k10)
  d_EVENTS_k11 : KDct K w A.a_EVENTS "capture" (.ref A.a_EVENTS_k11)
  d_EVENTS_k12 : KDct K w A.a_EVENTS "fetch" (.ref A.a_EVENTS_k12)
  d_EVENTS_k13 : KDct K w A.a_EVENTS "watch" (.ref A.a_EVENTS_k13)
section
variable {P : Program} {w : World} {K : PySem.W.Frag} {mg : Str → Option Value} {base : Heap} {A : Adr}
/-! ### common: tests, errors, small words -/
theorem exm_self {K : PySem.W.Frag} {S : Addr} (h1 : PySem.W.subIn K (.ref S) (.type "BaseException") = some true) (h2 : PySem.W.isClsIn K S = true) (h3 : PySem.W.typeIn K (.ref S) = some (.type "type")) (h4 : PySem.W.subIn K (.ref S) (.ref S) = some true) :
    PySem.W.exmOne K (.ref S) (.ref S) = some true := by
  have g1 : (PySem.W.subIn K (.ref S) (.type "BaseException") == some true) = true := by rw [h1]; rfl
  have g0 : (PySem.W.clsIn K S).isSome = true := h2
  have g2 : ((PySem.W.clsIn K S).isSome && PySem.W.typeIn K (.ref S) == some (.type "type")) = true := by rw [g0, h3]; rfl
  show (if (PySem.W.subIn K (.ref S) (.type "BaseException") == some true) = true then (if ((PySem.W.clsIn K S).isSome && PySem.W.typeIn K (.ref S) == some (.type "type")) = true then PySem.W.subIn K (.ref S) (.ref S) else none) else none) = some true
  rw [if_pos g1, if_pos g2]
  exact h4
theorem exm_cross {K : PySem.W.Frag} {S R : Addr} {b : Bool} (h1 : PySem.W.subIn K (.ref S) (.type "BaseException") = some true) (h2 : PySem.W.isClsIn K S = true) (h3 : PySem.W.typeIn K (.ref S) = some (.type "type")) (h4 : PySem.W.subIn K (.ref R) (.ref S) = some b) :
    PySem.W.exmOne K (.ref R) (.ref S) = some b := by
  have g1 : (PySem.W.subIn K (.ref S) (.type "BaseException") == some true) = true := by rw [h1]; rfl
  have g0 : (PySem.W.clsIn K S).isSome = true := h2
  have g2 : ((PySem.W.clsIn K S).isSome && PySem.W.typeIn K (.ref S) == some (.type "type")) = true := by rw [g0, h3]; rfl
  show (if (PySem.W.subIn K (.ref S) (.type "BaseException") == some true) = true then (if ((PySem.W.clsIn K S).isSome && PySem.W.typeIn K (.ref S) == some (.type "type")) = true then PySem.W.subIn K (.ref R) (.ref S) else none) else none) = some b
  rw [if_pos g1, if_pos g2]
  exact h4
/-- the law's own promise -/
def sp_law (K : PySem.W.Frag) : Sp := fun vs H Q _ => ∃ (a : Addr) (ns : List Int), vs = [.ref a] ∧ SqL K H a (ns.map V.int) ∧ ns.length ≤ 63 ∧ ∀ H', Q (.bl true) H'
theorem iteP {p A B : Prop} [Decidable p] (h1 : p → A) (h2 : ¬ p → B) : if decide p = true then A else B := by
  by_cases h : p
  · rw [decide_eq_true h]; exact iteT (h1 h)
  · rw [decide_eq_false h]; exact iteF (h2 h)
theorem iteN {p A B : Prop} [Decidable p] (h1 : ¬ p → A) (h2 : p → B) : if (!decide p) = true then A else B := by
  by_cases h : p
  · rw [decide_eq_true h]; exact iteF (h2 h)
  · rw [decide_eq_false h]; exact iteT (h1 h)
theorem iteEq {i j : Int} {A B : Prop} (h1 : i = j → A) (h2 : i ≠ j → B) : if decide (V.int i = V.int j) = true then A else B :=
  iteP (fun h => h1 (V.int.inj h)) (fun h => h2 fun e => h (congrArg V.int e))
theorem iteNe {i j : Int} {A B : Prop} (h1 : i ≠ j → A) (h2 : i = j → B) : if (!decide (V.int i = V.int j)) = true then A else B :=
  iteN (fun h => h1 fun e => h (congrArg V.int e)) (fun h => h2 (V.int.inj h))
theorem if_t {b : Bool} {A B : Prop} (e : b = true) (h : A) : if b = true then A else B := by rw [if_pos e]; exact h
theorem if_f {b : Bool} {A B : Prop} (e : b = false) (h : B) : if b = true then A else B := by rw [e]; exact iteF h
theorem if_b {b : Bool} {A B : Prop} (h1 : b = true → A) (h2 : b = false → B) : if b = true then A else B := by
  cases b with
  | true => exact iteT (h1 rfl)
  | false => exact iteF (h2 rfl)
theorem same_upd {H : Hp} {p : Addr} {o : HO} (h : H p = none) : Same H (upd H p o) := fun b x e => by
  rw [upd_ne (ne_of_none e h)]
  exact e
theorem len_line {n : Nat} (h : n ≤ 100000) : n ≤ sizeLine := Nat.le_trans h (by decide)
theorem lt_line {n : Nat} (h : n < 100000) : n < sizeLine := Nat.lt_of_lt_of_le h (by decide)
local macro_rules | `(tactic| walk_at "rd") => `(tactic| repeat (first
  | refine ⟨_, rfl, ?_⟩
  | refine ⟨_, _, rfl, rfl, ?_⟩
  | refine ⟨rfl, ?_⟩
  | refine Or.inl ⟨_, rfl, ?_⟩
  | refine ⟨(by show (0 : Int) < _; decide), ?_⟩
  | refine ⟨(⟨by decide, by decide⟩ : CDiv _ _), ?_⟩
  | refine ⟨(Or.inl ⟨by decide, by decide⟩ : CMul _ _), ?_⟩
  | refine ⟨(Or.inr ⟨by decide, by decide⟩ : CMul _ _), ?_⟩))
/-! ### data that are compared -/
def Sh (n : Nat) (d : PyData) : Prop := d.canLay0 = true ∧ d.depth ≤ n
theorem Sh.mono {n m : Nat} {d : PyData} (h : Sh n d) (l : n ≤ m) : Sh m d := ⟨h.1, Nat.le_trans h.2 l⟩
theorem sh_all : ∀ {n : Nat} {ds : List PyData}, (∀ d ∈ ds, Sh n d) → PyData.canLayAll0 ds = true ∧ PyData.depthAll ds ≤ n
  | n, [], _ => ⟨by simp [PyData.canLayAll0], by simp [PyData.depthAll]⟩
  | n, d :: ds, h => by
    have h1 := h d List.mem_cons_self
    have h2 := sh_all fun e he => h e (List.mem_cons_of_mem _ he)
    refine ⟨?_, ?_⟩
    · simp only [PyData.canLayAll0, Bool.and_eq_true]; exact ⟨h1.1, h2.1⟩
    · simp only [PyData.depthAll]; exact Nat.max_le.mpr ⟨h1.2, h2.2⟩
theorem sh_list {n : Nat} {ds : List PyData} (h : ∀ d ∈ ds, Sh n d) : Sh (n + 1) (.list ds) := by
  have q := sh_all h
  exact ⟨by simp only [PyData.canLay0]; exact q.1, by simp only [PyData.depth]; exact Nat.succ_le_succ q.2⟩
theorem sh_tuple {n : Nat} {ds : List PyData} (h : ∀ d ∈ ds, Sh n d) : Sh (n + 1) (.tuple ds) := by
  have q := sh_all h
  exact ⟨by simp only [PyData.canLay0]; exact q.1, by simp only [PyData.depth]; exact Nat.succ_le_succ q.2⟩
theorem sh_int (i : Int) : Sh 0 (.int i) := ⟨by simp [PyData.canLay0], by simp [PyData.depth]⟩
theorem sh_bool (i : Bool) : Sh 0 (.bool i) := ⟨by simp [PyData.canLay0], by simp [PyData.depth]⟩
theorem sh_none : Sh 0 .none := ⟨by simp [PyData.canLay0], by simp [PyData.depth]⟩
theorem sh_str {s : Str} (h : PyData.strOk s = true) : Sh 0 (.str s) := ⟨by simp only [PyData.canLay0]; exact h, by simp [PyData.depth]⟩
theorem Sh.shaped {n : Nat} {d : PyData} (h : Sh n d) (l : n ≤ 64 := by decide) : SeqAt.shaped d = true := by
  show (d.canLay0 && decide (d.depth ≤ 64)) = true
  rw [h.1, decide_eq_true (Nat.le_trans h.2 l)]
  rfl
theorem Sh.self {n : Nat} {d : PyData} (h : Sh n d) : PyData.eqv d d = true := SeqAt.eqv_refl d h.1
def pInts (xs : List Int) : PyData := .list (xs.map PyData.int)
theorem sh_ints (xs : List Int) : Sh 1 (pInts xs) := sh_list fun d hd => by
  obtain ⟨i, _, rfl⟩ := List.mem_map.mp hd
  exact sh_int i
theorem dpall_ints {K : PySem.W.Frag} {H : Hp} : ∀ xs : List Int, DpAll K H (xs.map V.int) (xs.map PyData.int)
  | [] => .nil
  | x :: r => .cons (.int x) (dpall_ints r)
theorem dp_ints {K : PySem.W.Frag} {H : Hp} {p : Addr} {xs : List Int} (h : SqL K H p (xs.map V.int)) : Dp K H (.ref p) (pInts xs) := .lst h (dpall_ints xs)
/-! ### views: what is new, what stands -/
structure Ext (V H V' H' : Hp) : Prop where
  vv : Same V V'
  vh : Same V' H'
  hh : Same H H'
  nw : ∀ a, V' a ≠ none → V a ≠ none ∨ H a = none
theorem Ext.refl {V H : Hp} (h : Same V H) : Ext V H V H := ⟨Same.refl V, h, Same.refl H, fun _ h => Or.inl h⟩
theorem Ext.trans {V H V1 H1 V2 H2 : Hp} (a : Ext V H V1 H1) (b : Ext V1 H1 V2 H2) : Ext V H V2 H2 :=
  ⟨a.vv.trans b.vv, b.vh, a.hh.trans b.hh, fun x h => by
    rcases b.nw x h with q | q
    · exact a.nw x q
    · exact Or.inr (a.hh.free q)⟩
theorem none_of_same {V H : Hp} {p : Addr} (s : Same V H) (h : H p = none) : V p = none := s.free h
theorem Ext.new {V H : Hp} {p : Addr} {o : HO} (s : Same V H) (h : H p = none) : Ext V H (upd V p o) (upd H p o) :=
  ⟨same_upd (s.free h), fun b u e => by
    by_cases hb : b = p
    · subst hb; rw [upd_same] at e ⊢; exact e
    · rw [upd_ne hb] at e ⊢; exact s b u e, same_upd h, fun a e => by
    by_cases ha : a = p
    · subst ha; exact Or.inr h
    · rw [upd_ne ha] at e; exact Or.inl e⟩
/-- a new object that the view does not take in -/
theorem Ext.skip {V H : Hp} {p : Addr} {o : HO} (s : Same V H) (h : H p = none) : Ext V H V (upd H p o) :=
  ⟨Same.refl V, s.trans (same_upd h), same_upd h, fun _ e => Or.inl e⟩
theorem Ext.keepOut {V H V' H' : Hp} (x : Ext V H V' H') {D : Addr} (h : V D = none) (hd : H D ≠ none) : V' D = none := by
  cases e : V' D with
  | none => rfl
  | some o =>
    rcases x.nw D (by rw [e]; exact fun z => by cases z) with q | q
    · exact absurd h q
    · exact absurd q hd
/-- an object outside of the view changes -/
theorem Ext.poke {V H V' H' : Hp} (x : Ext V H V' H') {D : Addr} {o : HO} (hd : H D = none) (h : V' D = none) : Ext V H V' (upd H' D o) :=
  ⟨x.vv, fun b u e => by
    have hb : b ≠ D := fun z => by rw [z, h] at e; cases e
    rw [upd_ne hb]; exact x.vh b u e, fun b u e => by
    have hb : b ≠ D := ne_of_none e hd
    rw [upd_ne hb]; exact x.hh b u e, x.nw⟩
/-- the object at D, done, is taken in -/
theorem Ext.take {V H V' H' : Hp} (x : Ext V H V' H') {D : Addr} {o : HO} (hd : H D = none) (h : V' D = none) (e : H' D = some o) : Ext V H (upd V' D o) H' :=
  ⟨x.vv.trans (same_upd h), fun b u q => by
    by_cases hb : b = D
    · subst hb; rw [upd_same] at q; rw [e]; exact q
    · rw [upd_ne hb] at q; exact x.vh b u q, x.hh, fun a q => by
    by_cases ha : a = D
    · subst ha; exact Or.inr hd
    · rw [upd_ne ha] at q; exact x.nw a q⟩
theorem _root_.L2.Same.sqt {K : PySem.W.Frag} {H H' : Hp} {a : Addr} {xs : List V} (e : Same H H') (h : SqT K H a xs) : SqT K H' a xs := by
  rcases h with (h | ⟨o, h⟩) | h
  · exact .inl (.inl (e _ _ h))
  · exact .inl (.inr ⟨o, e _ _ h⟩)
  · exact .inr h
mutual
theorem dp_same {K : PySem.W.Frag} {H H' : Hp} (s : Same H H') : ∀ (d : PyData) (v : V), Dp K H v d → Dp K H' v d
  | .none, _, h => by cases h; exact .non
  | .bool b, _, h => by cases h; exact .bl b
  | .int i, _, h => by cases h; exact .int i
  | .str x, _, h => by cases h; exact .str x
  | .list ds, _, h => by
    cases h with
    | lst q r => exact .lst (s.seq q) (dpall_same s ds _ r)
  | .tuple ds, _, h => by
    cases h with
    | tup q r => exact .tup (s.sqt q) (dpall_same s ds _ r)
  | .dict _, _, h => by cases h
theorem dpall_same {K : PySem.W.Frag} {H H' : Hp} (s : Same H H') : ∀ (ds : List PyData) (vs : List V), DpAll K H vs ds → DpAll K H' vs ds
  | [], _, h => by cases h; exact .nil
  | d :: ds, _, h => by
    cases h with
    | cons q r => exact .cons (dp_same s d _ q) (dpall_same s ds _ r)
end
theorem _root_.L2.Dp.to {K : PySem.W.Frag} {H H' : Hp} {v : V} {d : PyData} (h : Dp K H v d) (s : Same H H') : Dp K H' v d := dp_same s d v h
theorem _root_.L2.DpAll.to {K : PySem.W.Frag} {H H' : Hp} {v : List V} {d : List PyData} (h : DpAll K H v d) (s : Same H H') : DpAll K H' v d := dpall_same s d v h
theorem dpall_len {K : PySem.W.Frag} {H : Hp} : ∀ {vs : List V} {ds : List PyData}, DpAll K H vs ds → vs.length = ds.length
  | _, [], h => by cases h; rfl
  | _, d :: ds, h => by
    cases h with
    | cons q r => exact congrArg (· + 1) (dpall_len r)
theorem dpall_get {K : PySem.W.Frag} {H : Hp} : ∀ {vs : List V} {ds : List PyData} {i : Nat} {v : V}, DpAll K H vs ds → vs[i]? = some v → ∃ d, ds[i]? = some d ∧ Dp K H v d
  | _, [], i, v, h, e => by cases h; cases e
  | _, d :: ds, i, v, h, e => by
    cases h with
    | cons q r =>
      match i, e with
      | 0, e => cases e; exact ⟨d, rfl, q⟩
      | i + 1, e => exact dpall_get (i := i) r e
theorem dpall_get' {K : PySem.W.Frag} {H : Hp} : ∀ {vs : List V} {ds : List PyData} {i : Nat} {d : PyData}, DpAll K H vs ds → ds[i]? = some d → ∃ v, vs[i]? = some v ∧ Dp K H v d
  | _, [], i, d, h, e => by cases e
  | _, d :: ds, i, d', h, e => by
    cases h with
    | cons q r =>
      match i, e with
      | 0, e => cases e; exact ⟨_, rfl, q⟩
      | i + 1, e => exact dpall_get' (i := i) r e
theorem dpall_app {K : PySem.W.Frag} {H : Hp} : ∀ {vs ws : List V} {ds es : List PyData}, DpAll K H vs ds → DpAll K H ws es → DpAll K H (vs ++ ws) (ds ++ es)
  | _, _, [], _, h, g => by cases h; exact g
  | _, _, d :: ds, _, h, g => by
    cases h with
    | cons q r => exact .cons q (dpall_app r g)
theorem dp_list {K : PySem.W.Frag} {H : Hp} {v : V} {ds : List PyData} (h : Dp K H v (.list ds)) : ∃ a xs, v = .ref a ∧ SqL K H a xs ∧ DpAll K H xs ds := by
  cases h with
  | lst q r => exact ⟨_, _, rfl, q, r⟩
theorem dp_tuple {K : PySem.W.Frag} {H : Hp} {v : V} {ds : List PyData} (h : Dp K H v (.tuple ds)) : ∃ a xs, v = .ref a ∧ SqT K H a xs ∧ DpAll K H xs ds := by
  cases h with
  | tup q r => exact ⟨_, _, rfl, q, r⟩
theorem dp_int {K : PySem.W.Frag} {H : Hp} {v : V} {i : Int} (h : Dp K H v (.int i)) : v = .int i := by cases h; rfl
theorem dp_str {K : PySem.W.Frag} {H : Hp} {v : V} {i : Str} (h : Dp K H v (.str i)) : v = .str i := by cases h; rfl
theorem dp_bool {K : PySem.W.Frag} {H : Hp} {v : V} {i : Bool} (h : Dp K H v (.bool i)) : v = .bl i := by cases h; rfl
/-! ### comprehensions over any walk -/
def fm {α : Type} (f : Nat → Option α) (n : Nat) : List α := (List.range n).filterMap f
theorem fm_succ {α : Type} (f : Nat → Option α) (n : Nat) : fm f (n + 1) = fm f n ++ (f n).toList := by
  unfold fm
  rw [List.range_succ, List.filterMap_append]
  congr 1
theorem fm_len {α : Type} (f : Nat → Option α) (n : Nat) : (fm f n).length ≤ n := by
  have h := List.length_filterMap_le f (List.range n)
  rw [List.length_range] at h
  exact h
structure LcInv (K : PySem.W.Frag) (V0 H0 : Hp) (D : Addr) (acc : List PyData) (H : Hp) : Prop where
  ex : ∃ V xs, Ext V0 H0 V H ∧ V D = none ∧ H D = some (.lst xs) ∧ DpAll K V xs acc
theorem LcInv.start {K : PySem.W.Frag} {V0 H0 : Hp} {D : Addr} (s : Same V0 H0) (hD : H0 D = none) : LcInv K V0 H0 D [] (upd H0 D (.lst [])) :=
  ⟨V0, [], Ext.skip s hD, s.free hD, upd_same, .nil⟩
theorem LcInv.done {K : PySem.W.Frag} {V0 H0 H : Hp} {D : Addr} {acc : List PyData} (hD : H0 D = none) (i : LcInv K V0 H0 D acc H) : ∃ U xs, Ext V0 H0 U H ∧ U D = some (.lst xs) ∧ DpAll K U xs acc ∧ Dp K U (.ref D) (.list acc) := by
  obtain ⟨V, xs, x, hv, hd, dp⟩ := i.ex
  exact ⟨_, xs, x.take hD hv hd, upd_same, dp.to (same_upd hv), .lst (SqL.of upd_same) (dp.to (same_upd hv))⟩
/-- one more item -/
theorem LcInv.push {K : PySem.W.Frag} {V0 H0 U H U' H' : Hp} {D : Addr} {acc : List PyData} {xs : List V} {y : V} {d : PyData} (hD : H0 D = none) (x : Ext V0 H0 U H) (hv : U D = none) (hd : H D = some (.lst xs)) (dp : DpAll K U xs acc)
    (x2 : Ext U H U' H') (e : Dp K U' y d) (hl : acc.length < 100000) :
    ∃ acc', H' D = some (.lst acc') ∧ acc'.length < sizeLine ∧ LcInv K V0 H0 D (acc ++ [d]) (upd H' D (.lst (acc' ++ [y]))) := by
  have hv' : U' D = none := x2.keepOut hv (by rw [hd]; exact fun z => by cases z)
  refine ⟨xs, x2.hh _ _ hd, lt_line (by rw [dpall_len dp]; exact hl), U', xs ++ [y], (x.trans x2).poke hD hv', hv', upd_same, dpall_app (dp.to x2.vv) (.cons e .nil)⟩
/-- a comprehension's reading over a walk that leaves the heap as it is: at turn i the item x, then f i: the data of what is put in, or none -/
theorem lc_dp0 {J : It} {n : Nat} {G : Hp → Prop} {Y : Nat → Hp → V → Hp → Prop} (wk : Walk J n G Y) {K : PySem.W.Frag} {V0 H0 : Hp} {D : Addr} {g : TG} {tt : TT} {te : TE} {vs : List Nat} {σ : St} {Qd : Hp → Prop} (f : Nat → Option PyData) (σ0 : St) (hσ : wipe σ vs = σ0) (s0 : Same V0 H0) (hD : H0 D = none) (hn : n < 100000)
    (hG : ∀ H, Same H0 H → G H) (hY : ∀ i H x H', Y i H x H' → H' = H)
    (hs : ∀ i x V H, i < n → Ext V0 H0 V H → Y i H x H → ∀ (Qy : VK) (Qn : Hp → Prop), (∀ d y V' H', f i = some d → Ext V H V' H' → Dp K V' y d → Qy y H') → (f i = none → ∀ V' H', Ext V H V' H' → Qn H') →
      g x σ0 H fun σ2 H2 => wipe σ2 vs = σ0 ∧ tt σ2 H2 fun b H3 => if b = true then te σ2 H3 Qy else Qn H3)
    (hd : ∀ (U H : Hp) (xs : List V), Ext V0 H0 U H → U D = none → H D = some (.lst xs) → DpAll K U xs (fm f n) → Qd H) :
    ∃ W : Nat → Nat → Hp → Prop, (∃ m, W 0 m (upd H0 D (.lst []))) ∧ ∀ i m H, W i m H →
      (J.stop i H ∧ Qd H) ∨ (J.go i H ∧ ∃ Nx : Hp → Prop, (∀ H', Nx H' → ∃ m', m' < m ∧ W (i + 1) m' H') ∧ ∀ x H', J.yld i H x H' → g x (wipe σ vs) H' fun σ2 H2 => wipe σ2 vs = wipe σ vs ∧ tt σ2 H2 fun b H3 =>
        if b = true then te σ2 H3 fun y H4 => ∃ acc, H4 D = some (.lst acc) ∧ acc.length < sizeLine ∧ Nx (upd H4 D (.lst (acc ++ [y]))) else Nx H3) := by
  subst hσ
  refine lc_it wk (fun i H => LcInv K V0 H0 D (fm f i) H) (LcInv.start s0 hD) (fun i H _ p => ?_) (fun i x H H' hi p y => ?_) (fun H p => ?_)
  · obtain ⟨V, xs, x, _⟩ := p.ex
    exact hG H x.hh
  · obtain ⟨V, xs, x0, hv, hdd, dp⟩ := p.ex
    obtain rfl := hY i H x H' y
    refine hs i x V H' hi x0 y _ _ (fun d y' V' H4 e x2 dy => ?_) (fun e V' H4 x2 => ?_)
    · have hl : (fm f i).length < 100000 := Nat.lt_of_le_of_lt (fm_len f i) (Nat.lt_trans hi hn)
      obtain ⟨acc', a1, a2, a3⟩ := LcInv.push hD x0 hv hdd dp x2 dy hl
      refine ⟨acc', a1, a2, ?_⟩
      rw [fm_succ, e]
      exact a3
    · have hv' : V' D = none := x2.keepOut hv (by rw [hdd]; exact fun z => by cases z)
      rw [fm_succ, e]
      show LcInv K V0 H0 D (fm f i ++ []) H4
      rw [List.append_nil]
      exact ⟨V', xs, x0.trans x2, hv', x2.hh _ _ hdd, dp.to x2.vv⟩
  · obtain ⟨U, xs, x, hv, hdd, dp⟩ := p.ex
    exact hd U H xs x hv hdd dp
/-- a comprehension's reading over a walk that leaves the heap as it is: at turn i the item x, then f i: the data of what is put in, or none -/
theorem lc_dp {J : It} {n : Nat} {G : Hp → Prop} {Y : Nat → Hp → V → Hp → Prop} (wk : Walk J n G Y) {K : PySem.W.Frag} {V0 H0 : Hp} {D : Addr} {g : TG} {tt : TT} {te : TE} {vs : List Nat} {σ : St} {Qd : Hp → Prop} (f : Nat → Option PyData) (σ0 : St) (hσ : wipe σ vs = σ0) (s0 : Same V0 H0) (hD : H0 D = none) (hn : n < 100000)
    (hG : ∀ H, Same H0 H → G H) (hY : ∀ i H x H', Y i H x H' → H' = H)
    (hs : ∀ i x V H, i < n → Ext V0 H0 V H → Y i H x H → ∀ (Qy : VK) (Qn : Hp → Prop), (∀ d y V' H', f i = some d → Ext V H V' H' → Dp K V' y d → Qy y H') → (f i = none → ∀ V' H', Ext V H V' H' → Qn H') →
      g x σ0 H fun σ2 H2 => wipe σ2 vs = σ0 ∧ tt σ2 H2 fun b H3 => if b = true then te σ2 H3 Qy else Qn H3)
    (hd : ∀ (U H : Hp) (xs : List V), Ext V0 H0 U H → U D = some (.lst xs) → DpAll K U xs (fm f n) → Dp K U (.ref D) (.list (fm f n)) → Qd H) :
    ∃ W : Nat → Nat → Hp → Prop, (∃ m, W 0 m (upd H0 D (.lst []))) ∧ ∀ i m H, W i m H →
      (J.stop i H ∧ Qd H) ∨ (J.go i H ∧ ∃ Nx : Hp → Prop, (∀ H', Nx H' → ∃ m', m' < m ∧ W (i + 1) m' H') ∧ ∀ x H', J.yld i H x H' → g x (wipe σ vs) H' fun σ2 H2 => wipe σ2 vs = wipe σ vs ∧ tt σ2 H2 fun b H3 =>
        if b = true then te σ2 H3 fun y H4 => ∃ acc, H4 D = some (.lst acc) ∧ acc.length < sizeLine ∧ Nx (upd H4 D (.lst (acc ++ [y]))) else Nx H3) := by
  refine lc_dp0 wk f σ0 hσ s0 hD hn hG hY hs fun U H xs x hv hdd dp => ?_
  exact hd _ H xs (x.take hD hv hdd) upd_same (dp.to (same_upd hv)) (.lst (SqL.of upd_same) (dp.to (same_upd hv)))
theorem fm_map {α β : Type} (f : α → β) : ∀ (xs : List α), fm (fun i => (xs[i]?).map f) xs.length = xs.map f := by
  intro xs
  have h : ∀ n, n ≤ xs.length → fm (fun i => (xs[i]?).map f) n = (xs.take n).map f := by
    intro n
    induction n with
    | zero => intro _; rfl
    | succ n ih =>
      intro hn
      rw [fm_succ, ih (by omega), List.getElem?_eq_getElem (by omega), List.take_succ_eq_append_getElem (by omega), List.map_append]
      rfl
  rw [h _ (Nat.le_refl _), List.take_length]

theorem lc2_outer {J : It} {n : Nat} {G : Hp → Prop} {Y : Nat → Hp → V → Hp → Prop} (wk : Walk J n G Y) {K : PySem.W.Frag} {V0 H0 : Hp} {D : Addr} {g : TG} {vs : List Nat} {σ : St} {body : St → Hp → (Hp → Prop) → Prop} {Qd : Hp → Prop} (F : Nat → List PyData) (σ0 : St) (hσ : wipe σ vs = σ0) (s0 : Same V0 H0) (hD : H0 D = none) (hF : F 0 = [])
    (hG : ∀ H, Same H0 H → G H) (hY : ∀ i H x H', Y i H x H' → H' = H)
    (hs : ∀ i x H, i < n → LcInv K V0 H0 D (F i) H → Y i H x H → ∀ Nx : Hp → Prop, (∀ H', LcInv K V0 H0 D (F (i + 1)) H' → Nx H') → g x σ0 H fun σ2 H2 => wipe σ2 vs = σ0 ∧ body σ2 H2 Nx)
    (hd : ∀ (U H : Hp) (xs : List V), Ext V0 H0 U H → U D = some (.lst xs) → DpAll K U xs (F n) → Dp K U (.ref D) (.list (F n)) → Qd H) :
    ∃ W : Nat → Nat → Hp → Prop, (∃ m, W 0 m (upd H0 D (.lst []))) ∧ ∀ i m H, W i m H →
      (J.stop i H ∧ Qd H) ∨ (J.go i H ∧ ∃ Nx : Hp → Prop, (∀ H', Nx H' → ∃ m', m' < m ∧ W (i + 1) m' H') ∧ ∀ x H', J.yld i H x H' → g x (wipe σ vs) H' fun σ2 H2 => wipe σ2 vs = wipe σ vs ∧ body σ2 H2 Nx) := by
  subst hσ
  refine ⟨fun i m H => m = n - i ∧ i ≤ n ∧ LcInv K V0 H0 D (F i) H, ⟨n, by simp, Nat.zero_le _, by rw [hF]; exact LcInv.start s0 hD⟩, ?_⟩
  rintro i m H ⟨rfl, hi, p⟩
  have sH : Same H0 H := by obtain ⟨_, _, x, _⟩ := p.ex; exact x.hh
  by_cases hlt : i < n
  · refine .inr ⟨wk.goes i H hlt (hG H sH), fun H' => LcInv K V0 H0 D (F (i + 1)) H', fun H' p' => ⟨n - (i + 1), by omega, rfl, hlt, p'⟩, fun x H' y => ?_⟩
    have y' := wk.yields i H x H' hlt (hG H sH) y
    obtain rfl := hY i H x H' y'
    exact hs i x H' hlt p y' _ fun _ h => h
  · have e : i = n := by omega
    subst e
    obtain ⟨U, xs, x, e1, e2, e3⟩ := p.done hD
    exact .inl ⟨wk.stops H (hG H sH), hd U H xs x e1 e2 e3⟩
theorem lc2_inner {J : It} {n : Nat} {G : Hp → Prop} {Y : Nat → Hp → V → Hp → Prop} (wk : Walk J n G Y) {K : PySem.W.Frag} {V0 H0 H4 : Hp} {D : Addr} {acc0 : List PyData} {g : TG} {tt : TT} {te : TE} {vs : List Nat} {σ : St} {Nx : Hp → Prop} (f : Nat → Option PyData) (σ0 : St) (hσ : wipe σ vs = σ0) (hD : H0 D = none)
    (inv : LcInv K V0 H0 D acc0 H4) (hn : acc0.length + n < 100000) (hG : ∀ H, Same H0 H → G H) (hY : ∀ i H x H', Y i H x H' → H' = H)
    (hs : ∀ i x V H, i < n → Ext V0 H0 V H → Y i H x H → ∀ (Qy : VK) (Qn : Hp → Prop), (∀ d y V' H', f i = some d → Ext V H V' H' → Dp K V' y d → Qy y H') → (f i = none → ∀ V' H', Ext V H V' H' → Qn H') →
      g x σ0 H fun σ2 H2 => wipe σ2 vs = σ0 ∧ tt σ2 H2 fun b H3 => if b = true then te σ2 H3 Qy else Qn H3)
    (hd : ∀ H, LcInv K V0 H0 D (acc0 ++ fm f n) H → Nx H) :
    ∃ W : Nat → Nat → Hp → Prop, (∃ m, W 0 m H4) ∧ ∀ i m H, W i m H →
      (J.stop i H ∧ Nx H) ∨ (J.go i H ∧ ∃ Nx1 : Hp → Prop, (∀ H', Nx1 H' → ∃ m', m' < m ∧ W (i + 1) m' H') ∧ ∀ x H', J.yld i H x H' → g x (wipe σ vs) H' fun σ2 H2 => wipe σ2 vs = wipe σ vs ∧ tt σ2 H2 fun b H3 =>
        if b = true then te σ2 H3 fun y H4 => ∃ acc, H4 D = some (.lst acc) ∧ acc.length < sizeLine ∧ Nx1 (upd H4 D (.lst (acc ++ [y]))) else Nx1 H3) := by
  subst hσ
  refine ⟨fun i m H => m = n - i ∧ i ≤ n ∧ LcInv K V0 H0 D (acc0 ++ fm f i) H, ⟨n, by simp, Nat.zero_le _, by rw [show fm f 0 = [] from rfl, List.append_nil]; exact inv⟩, ?_⟩
  rintro i m H ⟨rfl, hi, p⟩
  have sH : Same H0 H := by obtain ⟨_, _, x, _⟩ := p.ex; exact x.hh
  by_cases hlt : i < n
  · refine .inr ⟨wk.goes i H hlt (hG H sH), fun H' => LcInv K V0 H0 D (acc0 ++ fm f (i + 1)) H', fun H' p' => ⟨n - (i + 1), by omega, rfl, hlt, p'⟩, fun x H' y => ?_⟩
    have y' := wk.yields i H x H' hlt (hG H sH) y
    obtain rfl := hY i H x H' y'
    obtain ⟨V, xs, x0, hv, hdd, dp⟩ := p.ex
    refine hs i x V H' hlt x0 y' _ _ (fun d y' V' H4 e x2 dy => ?_) (fun e V' H4 x2 => ?_)
    · have hl : (acc0 ++ fm f i).length < 100000 := by have := fm_len f i; rw [List.length_append]; omega
      obtain ⟨acc', a1, a2, a3⟩ := LcInv.push hD x0 hv hdd dp x2 dy hl
      refine ⟨acc', a1, a2, ?_⟩
      rw [fm_succ, e, ← List.append_assoc]
      exact a3
    · have hv' : V' D = none := x2.keepOut hv (by rw [hdd]; exact fun z => by cases z)
      rw [fm_succ, e]
      show LcInv K V0 H0 D (acc0 ++ (fm f i ++ [])) H4
      rw [List.append_nil]
      exact ⟨V', xs, x0.trans x2, hv', x2.hh _ _ hdd, dp.to x2.vv⟩
  · have e : i = n := by omega
    subst e
    exact .inl ⟨wk.stops H (hG H sH), hd H p⟩
theorem fm_some {α : Type} (f : Nat → α) (n : Nat) : fm (fun i => some (f i)) n = (List.range n).map f := by
  induction n with
  | zero => rfl
  | succ n ih => rw [fm_succ, ih, List.range_succ, List.map_append]; rfl
theorem fl_take' {α : Type} {β : Type} (f : α → List β) : ∀ (xs : List α) (i : Nat) (x : α), xs[i]? = some x → (xs.take (i + 1)).flatMap f = (xs.take i).flatMap f ++ f x := by
  intro xs i x h
  obtain ⟨hi, e⟩ := List.getElem?_eq_some_iff.mp h
  rw [List.take_succ_eq_append_getElem hi, List.flatMap_append, e]
  show _ ++ (f x ++ []) = _
  rw [List.append_nil]
theorem fl_le' {α : Type} {β : Type} (f : α → List β) (xs : List α) (i : Nat) : ((xs.take i).flatMap f).length ≤ (xs.flatMap f).length := by
  have : xs.flatMap f = (xs.take i).flatMap f ++ (xs.drop i).flatMap f := by rw [← List.flatMap_append, List.take_append_drop]
  rw [this, List.length_append]; omega
/-! ### lists of ints, texts -/
theorem tyL {K : PySem.W.Frag} {H : Hp} {a : Addr} {xs : List V} (h : SqL K H a xs) : TyX K H (.ref a) (.type "list") := by
  rcases h with (h | ⟨o, h⟩) | ⟨o, its, n, h, c, _⟩
  · exact .base (.lst h)
  · exact .base (.frz h)
  · exact .kList h c
theorem tyT {K : PySem.W.Frag} {H : Hp} {a : Addr} {xs : List V} (h : SqT K H a xs) : TyX K H (.ref a) (.type "tuple") := by
  rcases h with (h | ⟨o, h⟩) | ⟨o, its, n, h, c, _⟩
  · exact .base (.tup h)
  · exact .fTuple h
  · exact .kTuple h c
theorem dp_intsV {K : PySem.W.Frag} {H : Hp} : ∀ {xs : List V} {is : List Int}, DpAll K H xs (is.map PyData.int) → xs = is.map V.int
  | _, [], r => by cases r; rfl
  | _, i :: is, r => by
    cases r with
    | cons r1 r2 => cases r1; rw [dp_intsV r2]; rfl
theorem dp_intsL {K : PySem.W.Frag} {H : Hp} {a : Addr} {is : List Int} (h : Dp K H (.ref a) (.list (is.map PyData.int))) : SqL K H a (is.map V.int) := by
  obtain ⟨a', xs, e, q, r⟩ := dp_list h
  cases e
  rw [← dp_intsV r]; exact q
theorem dp_strsV {K : PySem.W.Frag} {H : Hp} : ∀ {xs : List V} {is : List Str}, DpAll K H xs (is.map PyData.str) → xs = is.map V.str
  | _, [], r => by cases r; rfl
  | _, i :: is, r => by
    cases r with
    | cons r1 r2 => cases r1; rw [dp_strsV r2]; rfl
theorem dp_boolsV {K : PySem.W.Frag} {H : Hp} : ∀ {xs : List V} {is : List Bool}, DpAll K H xs (is.map PyData.bool) → xs = is.map V.bl
  | _, [], r => by cases r; rfl
  | _, i :: is, r => by
    cases r with
    | cons r1 r2 => cases r1; rw [dp_boolsV r2]; rfl
theorem dp_boolsL {K : PySem.W.Frag} {H : Hp} {a : Addr} {is : List Bool} (h : Dp K H (.ref a) (.list (is.map PyData.bool))) : SqL K H a (is.map V.bl) := by
  obtain ⟨a', xs, e, q, r⟩ := dp_list h
  cases e
  rw [← dp_boolsV r]; exact q
theorem size_eq (z : Str) : z.cps.size = z.cps.toList.length := by simp
theorem cps_at (z : Str) (i : Nat) : z.cps[i]? = z.cps.toList[i]? := by simp
theorem fm_list {α β : Type} (f : α → β) (xs : List α) (n : Nat) (h : n = xs.length) (g : Nat → Option β) (hg : ∀ i x, xs[i]? = some x → g i = some (f x)) : fm g n = xs.map f := by
  subst h
  rw [← fm_map f xs]
  unfold fm
  have : ∀ l : List Nat, (∀ i ∈ l, i < xs.length) → l.filterMap g = l.filterMap fun i => (xs[i]?).map f := by
    intro l
    induction l with
    | nil => intro _; rfl
    | cons i l ih =>
      intro hl
      have hi' := hl i List.mem_cons_self
      rw [List.filterMap_cons, List.filterMap_cons, hg i _ (List.getElem?_eq_getElem hi'), List.getElem?_eq_getElem hi', ih fun j hj => hl j (List.mem_cons_of_mem _ hj)]
      rfl
  exact this _ fun i hi => List.mem_range.mp hi
theorem rep_flat {α : Type} (v : α) : ∀ n : Nat, (List.replicate n [v]).flatten = List.replicate n v
  | 0 => rfl
  | n + 1 => by rw [List.replicate_succ, List.replicate_succ, List.flatten_cons, rep_flat v n]; rfl
/-- a list's object that is tracked, at p, new -/
structure NewL (H H' : Hp) (p : Addr) (xs : List V) : Prop where
  new : H p = none
  same : Same H H'
  at_ : H' p = some (.lst xs)
theorem NewL.ext {U H H' : Hp} {p : Addr} {xs : List V} (n : NewL H H' p xs) (s : Same U H) : Ext U H (upd U p (.lst xs)) H' :=
  ⟨same_upd (s.free n.new), fun b u e => by
    by_cases hb : b = p
    · subst hb; rw [upd_same] at e; rw [n.at_]; exact e
    · rw [upd_ne hb] at e; exact n.same _ _ (s b u e), n.same, fun a e => by
    by_cases ha : a = p
    · subst ha; exact Or.inr n.new
    · rw [upd_ne ha] at e; exact Or.inl e⟩
theorem str_app (x y : Str) : (x ++ y).cps.toList = x.cps.toList ++ y.cps.toList := Array.toList_append
theorem str_len_app (x y : Str) : (x ++ y).length = x.length + y.length := by
  show (x ++ y).cps.size = x.cps.size + y.cps.size
  rw [size_eq, str_app, List.length_append, ← size_eq, ← size_eq]
/-! ### _law_cell, _law_row -/
def lawCell (ns : List Int) (k : Nat) : Int :=
  let c := if 0 < ns.length then ns.getD (k % ns.length) 0 else 0
  if c < 0 then 1 - 2 * c else c
theorem lawCell_nn (ns : List Int) (k : Nat) : 0 ≤ lawCell ns k := by
  unfold lawCell
  simp only
  split <;> omega
def lawOne (c : Int) (k : Nat) : Int := (c * 48271 + (k : Int) * 69621 + 12345) % 2147483647
def lawTwo (o : Int) (k : Nat) : Int := (o * o + 16807 * (k : Int) + 7) % 2147483629
def lawRow (ns : List Int) (k : Nat) : Int :=
  if k < ns.length ∧ 1000000000 ≤ lawCell ns k then lawCell ns k
  else (lawTwo (lawOne (lawCell ns k) k) k * lawTwo (lawOne (lawCell ns k) k) k + lawOne (lawCell ns k) k) % 4294967291 + 4294967296 * (lawOne (lawCell ns k) k + 1)
theorem lawOne_b (c : Int) (k : Nat) : 0 ≤ lawOne c k ∧ lawOne c k < 2147483647 := by unfold lawOne; omega
theorem lawTwo_b (c : Int) (k : Nat) : 0 ≤ lawTwo c k ∧ lawTwo c k < 2147483629 := by
  unfold lawTwo
  generalize c * c + 16807 * (k : Int) + 7 = x
  omega
theorem lawRow_nn (ns : List Int) (k : Nat) : 0 ≤ lawRow ns k := by
  unfold lawRow
  have h1 := lawOne_b (lawCell ns k) k
  split
  · exact lawCell_nn ns k
  · generalize lawTwo (lawOne (lawCell ns k) k) k * lawTwo (lawOne (lawCell ns k) k) k + lawOne (lawCell ns k) k = x
    omega
def sp__law_cell (K : PySem.W.Frag) : Sp := fun vs H Q _ => ∃ (a : Addr) (ns : List Int) (k : Nat), vs = [.ref a, .int (k : Int)] ∧ SqL K H a (ns.map V.int) ∧ Q (.int (lawCell ns k)) H
theorem sc__law_cell : FnScope ["script", "k", "cell"] ["script", "k"] (defScope s__law_cell) := ⟨rfl, rfl, rfl, by decide +kernel, rfl, by decide +kernel, by decide +kernel⟩
theorem ok__law_cell (T : Txt0 P K mg A) : FnOk P w K mg base CX0 1 A.f_law_cell A.d_law_cell ["script", "k"] (sp__law_cell K) := by
  refine T.F_law_cell.ok sc__law_cell (fun vs H Q E h => ?_) (fun cdv Ar outer s H vs Q E hr h => ?_)
  · obtain ⟨a, ns, k, rfl, _⟩ := h
    rfl
  · obtain ⟨a, ns, k, rfl, hS, q⟩ := h
    refine ⟨_, (pss_cons (ps_set (i := 2) sc__law_cell.nd rfl (Or.inl rfl) pe_int)
      (pss_cons (ps_if (pt_cmpR op_gt (pe_callB call_len_seq (by rfl) T.len PySem.boot_len (pa_cons (pv 0) pa_nil)) pe_int (nomark _))
      (pss_one (ps_set (i := 2) sc__law_cell.nd rfl (Or.inl rfl) (pe_ix ix_list (pv 0) (pe_op op_mod (pe_callTy call_int1 (by rfl) T.int (by decide +kernel) (pa_cons (pv 1) pa_nil)) (pe_callB call_len_seq (by rfl) T.len PySem.boot_len (pa_cons (pv 0) pa_nil))) (fun _ _ => rfl))))
      pss_nil)
      (pss_cons (ps_if (pt_cmpR op_lt (pv 2) pe_int (nomark _))
      (pss_one (ps_set (i := 2) sc__law_cell.nd rfl (Or.inl rfl) (pe_op op_sub pe_int (pe_op op_mul pe_int (pv 2)))))
      pss_nil)
      (pss_one (ps_ret (pv 2)))))), ?_⟩
    have two : ∀ (c : Int), (if c < 0 then 1 - 2 * c else c) = lawCell ns k → tSeq (tIfS (tTest (tOp (rI0 fun i j => .bl (decide (i < j))) (tVar 2) (tC (.int 0)))) (tAsg (tOp (rI0 fun i j => .int (i - j)) (tC (.int 1)) (tOp (rI CMul fun i j => .int (i * j)) (tC (.int 2)) (tVar 2))) (gName 2)) tNext) (tRet (tVar 2))
        { nx := fun _ H' => Q .non H', rt := Q } [some (.ref a), some (.int (k : Int)), some (.int c)] H := by
      intro c hc
      walk_at "rd"
      refine iteP (fun h => ?_) (fun h => ?_)
      · rw [if_pos h] at hc
        walk_at "rd"
        rw [← hc] at q; exact q
      · rw [if_neg h] at hc
        walk_at "rd"
        rw [← hc] at q; exact q
    refine ⟨.ref a, rfl, a, _, rfl, .inl hS, _, _, rfl, rfl, _, rfl, iteP (fun h => ?_) (fun h => ?_)⟩
    · have h0 : 0 < ns.length := by rw [List.length_map] at h; omega
      refine ⟨_, rfl, _, rfl, Or.inl ⟨_, rfl, ?_⟩⟩
      refine ⟨_, rfl, a, _, rfl, .inl hS, _, _, rfl, rfl, by show (0 : Int) < _; omega, a, _, _, .int (ns.getD (k % ns.length) 0), rfl, rfl, hS, ?_, ?_⟩
      · refine at_of (j := k % ns.length) ?_ ?_
        · rw [List.length_map]; exact (Int.natCast_emod _ _).symm
        · rw [List.getElem?_map, List.getElem?_eq_getElem (Nat.mod_lt _ h0), List.getD_eq_getElem?_getD, List.getElem?_eq_getElem (Nat.mod_lt _ h0)]; rfl
      · refine two _ ?_
        unfold lawCell; rw [if_pos h0]
    · have h0 : ¬ 0 < ns.length := by rw [List.length_map] at h; omega
      refine two _ ?_
      unfold lawCell; rw [if_neg h0]
def sp__law_row (K : PySem.W.Frag) : Sp := fun vs H Q _ => ∃ (a : Addr) (ns : List Int) (k : Nat), vs = [.ref a, .int (k : Int)] ∧ SqL K H a (ns.map V.int) ∧ Q (.int (lawRow ns k)) H
theorem sc__law_row : FnScope ["script", "k", "cell", "one", "two"] ["script", "k"] (defScope s__law_row) := ⟨rfl, rfl, rfl, by decide +kernel, rfl, by decide +kernel, by decide +kernel⟩
theorem ok__law_row (T : Txt0 P K mg A) : FnOk P w K mg base CX0 2 A.f_law_row A.d_law_row ["script", "k"] (sp__law_row K) := by
  refine T.F_law_row.ok sc__law_row (fun vs H Q E h => ?_) (fun cdv Ar outer s H vs Q E hr h => ?_)
  · obtain ⟨a, ns, k, rfl, _⟩ := h
    rfl
  · obtain ⟨a, ns, k, rfl, hS, q⟩ := h
    refine ⟨_, (pss_cons (ps_set (i := 2) sc__law_row.nd rfl (Or.inl rfl) (pe_call (ok__law_cell T) (hr.mono (by decide)) rfl T.g_law_cell T.k_law_cell T.b_law_cell .nil pass0 (pa_cons (pv 0) (pa_cons (pv 1) pa_nil))))
      (pss_cons (ps_if (PW.pt (pw_and (pt_cmpR op_lt (pv 1) (pe_callB call_len_seq (by rfl) T.len PySem.boot_len (pa_cons (pv 0) pa_nil)) (nomark _)) (pw_and1 (pt_cmpR op_ge (pv 2) pe_int (nomark _)))))
      (pss_one (ps_ret (pv 2)))
      pss_nil)
      (pss_cons (ps_set (i := 3) sc__law_row.nd rfl (Or.inl rfl) (pe_op op_mod (pe_callTy call_int1 (by rfl) T.int (by decide +kernel) (pa_cons (pe_op op_add (pe_op op_add (pe_op op_mul (pv 2) pe_int) (pe_op op_mul (pv 1) pe_int)) pe_int) pa_nil)) pe_int))
      (pss_cons (ps_set (i := 4) sc__law_row.nd rfl (Or.inl rfl) (pe_op op_mod (pe_callTy call_int1 (by rfl) T.int (by decide +kernel) (pa_cons (pe_op op_add (pe_op op_add (pe_op op_mul (pv 3) (pv 3)) (pe_op op_mul pe_int (pv 1))) pe_int) pa_nil)) pe_int))
      (pss_one (ps_ret (pe_op op_add (pe_op op_mod (pe_callTy call_int1 (by rfl) T.int (by decide +kernel) (pa_cons (pe_op op_add (pe_op op_mul (pv 4) (pv 4)) (pv 3)) pa_nil)) pe_int) (pe_op op_mul pe_int (pe_op op_add (pv 3) pe_int))))))))), ?_⟩
    have b1 := lawOne_b (lawCell ns k) k
    have b2 := lawTwo_b (lawOne (lawCell ns k) k) k
    have m1 : CMul (lawOne (lawCell ns k) k) (lawOne (lawCell ns k) k) := Or.inl ⟨by omega, by omega⟩
    have m2 : CMul (lawTwo (lawOne (lawCell ns k) k) k) (lawTwo (lawOne (lawCell ns k) k) k) := Or.inl ⟨by omega, by omega⟩
    refine ⟨_, rfl, _, rfl, a, ns, k, rfl, hS, ?_⟩
    refine ⟨_, rfl, _, rfl, a, _, rfl, .inl hS, _, _, rfl, rfl, _, rfl, ?_⟩
    refine iteP (fun h => ?_) (fun h => ?_)
    · refine ⟨_, rfl, _, _, rfl, rfl, _, rfl, iteP (fun h2 => ?_) (fun h2 => ?_)⟩
      · have e : lawRow ns k = lawCell ns k := by unfold lawRow; rw [if_pos ⟨by rw [List.length_map] at h; omega, h2⟩]
        rw [e] at q
        exact ⟨_, rfl, q⟩
      · unfold lawRow at q
        rw [if_neg fun z => h2 z.2] at q
        walk_at "rd"
        refine ⟨m1, ?_⟩
        walk_at "rd"
        refine ⟨m2, ?_⟩
        walk_at "rd"
        exact q
    · unfold lawRow at q
      rw [if_neg fun z => h (by rw [List.length_map]; omega)] at q
      walk_at "rd"
      refine ⟨m1, ?_⟩
      walk_at "rd"
      refine ⟨m2, ?_⟩
      walk_at "rd"
      exact q
/-! ### a word that goes on by itself -/
theorem iteVP {p A B : Prop} [Decidable p] (h1 : p → A) (h2 : ¬ p → B) : if p then A else B := by
  by_cases h : p
  · rw [if_pos h]; exact h1 h
  · rw [if_neg h]; exact h2 h
/-- a new tuple is handed back -/
def RetT (H : Hp) (Q : VK) (xs : List V) : Prop := ∀ p H', Same H H' → H' p = some (.tup xs) → Q (.ref p) H'
theorem RetT.go {H : Hp} {Q : VK} {xs : List V} (h : ∀ p H', Same H H' → H' p = some (.tup xs) → Q (.ref p) H') : RetT H Q xs := h
theorem ne_self {d e : PyData} {A B : Prop} (hs : SeqAt.shaped d = true) (h : d = e) (hB : B) : if (!PyData.eqv d e) = true then A else B := by
  subst h
  have h2 : (d.canLay0 && decide (d.depth ≤ 64)) = true := hs
  have : PyData.eqv d d = true := SeqAt.eqv_refl d (by rw [Bool.and_eq_true] at h2; exact h2.1)
  rw [this]
  exact iteF hB
theorem eq_self {d e : PyData} {A B : Prop} (hs : SeqAt.shaped d = true) (h : d = e) (hA : A) : if PyData.eqv d e = true then A else B := by
  subst h
  have h2 : (d.canLay0 && decide (d.depth ≤ 64)) = true := hs
  have : PyData.eqv d d = true := SeqAt.eqv_refl d (by rw [Bool.and_eq_true] at h2; exact h2.1)
  rw [this]
  exact iteT hA
theorem t_ne {K : PySem.W.Frag} {x y : V} {H : Hp} {Q : VK} {d e : PyData} (h1 : Dp K H x d) (h2 : Dp K H y e) (s1 : SeqAt.shaped d = true) (s2 : SeqAt.shaped e = true) (q : Q (.bl (!PyData.eqv d e)) H) : rNeD K x y H Q := ⟨d, e, h1, h2, s1, s2, q⟩
theorem t_eq {K : PySem.W.Frag} {x y : V} {H : Hp} {Q : VK} {d e : PyData} (h1 : Dp K H x d) (h2 : Dp K H y e) (s1 : SeqAt.shaped d = true) (s2 : SeqAt.shaped e = true) (q : Q (.bl (PyData.eqv d e)) H) : rEqD K x y H Q := ⟨d, e, h1, h2, s1, s2, q⟩
/-! words that go on by themselves -/
local macro_rules | `(tactic| walk_at "sq") => `(tactic| first
  | exact SqT.of upd_same
  | exact SqL.of upd_same
  | assumption
  | exact SqT.of (by assumption)
  | exact SqL.of (by assumption)
  | (apply Same.sqt (same_upd (by assumption)); walk_at "sq")
  | (apply Same.seq (same_upd (by assumption)); walk_at "sq")
  | (apply Same.sqt (by assumption); walk_at "sq")
  | (apply Same.seq (by assumption); walk_at "sq"))
local macro_rules | `(tactic| walk_at "sm") => `(tactic| first
  | exact Same.refl _
  | assumption
  | (apply Same.trans _ (same_upd (by assumption)); walk_at "sm")
  | (apply Same.trans _ (by assumption); walk_at "sm"))
local macro_rules | `(tactic| walk_at "at") => `(tactic| first
  | exact atI_nat (j := 0) rfl
  | exact atI_nat (j := 1) rfl
  | exact atI_nat (j := 2) rfl
  | exact atI_nat (j := 3) rfl
  | exact atI_nat (j := 4) rfl
  | exact atI_nat (j := 5) rfl)
local macro_rules | `(tactic| walk_at "go1") => `(tactic| first
  | refine ⟨_, rfl, ?_⟩
  | refine ⟨_, _, rfl, rfl, ?_⟩
  | refine ⟨rfl, ?_⟩
  | refine Or.inl ⟨_, rfl, ?_⟩
  | refine ⟨(by show (0 : Int) < _; decide), ?_⟩
  | refine ⟨(⟨by decide, by decide⟩ : CDiv _ _), ?_⟩
  | refine ⟨(Or.inl ⟨by decide, by decide⟩ : CMul _ _), ?_⟩
  | refine ⟨(Or.inr ⟨by decide, by decide⟩ : CMul _ _), ?_⟩
  | refine ⟨_, _, rfl, ?_⟩
  | refine ⟨_, _, _, rfl, ?_⟩
  | refine ⟨_, _, _, _, rfl, ?_⟩
  | (refine And.intro (a := (0 : Int) ≤ _) ?_ ?_; focus omega)
  | (refine And.intro (a := _ ≤ sizeLine) ?_ (fun p hp => ?_); (focus (exact len_line (Nat.le_of_ble_eq_true rfl))))
  | refine RetT.go (fun p H' s e => ?_)
  | refine if_t rfl ?_
  | refine if_f rfl ?_
  | refine ⟨_, _, rfl, (by walk_at "sq"), rfl, ?_⟩
  | refine ⟨_, _, rfl, Or.inl (by walk_at "sq"), ?_⟩
  | refine ⟨_, _, rfl, Or.inr (by walk_at "sq"), ?_⟩
  | refine ⟨_, _, _, _, rfl, rfl, (by walk_at "sq"), (by walk_at "at"), ?_⟩
  | refine ⟨_, _, rfl, (by walk_at "sq"), (by show ¬(HT.sIx 4 0 (some 2) = 0 ∧ HT.sIx 4 4 none = 4); decide), fun p hp => ?_⟩
  | refine ⟨_, _, _, _, rfl, rfl, (by walk_at "sq"), (by walk_at "sq"), (by intro h; cases h), len_line (Nat.le_of_ble_eq_true rfl), (fun h => by cases h), fun _ p hp => ?_⟩)
local macro_rules | `(tactic| walk_at "go") => `(tactic| repeat walk_at "go1")
local macro_rules | `(tactic| walk_at "dps") => `(tactic| first
  | exact DpAll.nil
  | (apply DpAll.cons; (focus (walk_at "dp")); (focus (walk_at "dps"))))
local macro_rules | `(tactic| walk_at "dp") => `(tactic| first
  | exact Dp.int _
  | exact Dp.bl _
  | exact Dp.str _
  | exact Dp.non
  | (apply Dp.tup; (focus (walk_at "sq")); (focus (walk_at "dps")))
  | (apply Dp.lst; (focus (walk_at "sq")); (focus (walk_at "dps"))))
local macro_rules | `(tactic| walk_at "sh") => `(tactic| (show (PyData.canLay0 _ && decide (PyData.depth _ ≤ 64)) = true; simp [PyData.canLay0, PyData.canLayAll0, PyData.depth, PyData.depthAll]))
/-- a deep comparison: what is left is the if -/
local macro_rules | `(tactic| walk_at "ne") => `(tactic| (apply t_ne; (focus (walk_at "dp")); (focus (walk_at "dp")); (focus (walk_at "sh")); (focus (walk_at "sh")); refine ⟨_, rfl, ?_⟩))
local macro_rules | `(tactic| walk_at "neS") => `(tactic| (walk_at "ne"; refine ne_self ?_ ?_ ?_; (focus (walk_at "sh"))))
/-! ### more words -/
local macro_rules | `(tactic| walk_at "go2") => `(tactic| first
  | walk_at "go1"
  | refine ⟨(⟨by omega, by omega⟩ : CDiv _ _), ?_⟩
  | refine ⟨(Or.inl ⟨by omega, by omega⟩ : CMul _ _), ?_⟩
  | refine ⟨(Or.inr ⟨by omega, by omega⟩ : CMul _ _), ?_⟩
  | refine ⟨(by show (0 : Int) < _; omega), ?_⟩)
local macro_rules | `(tactic| walk_at "gx") => `(tactic| repeat walk_at "go2")
/-! ### is_integer, number_octets -/
def sp_is_integer (K : PySem.W.Frag) : Sp := fun vs H Q _ => ∃ (i lo hi : Int), vs = [.int i, .int lo, .int hi] ∧ Q (.bl (decide (lo ≤ i ∧ i ≤ hi))) H
theorem sc_is_integer : FnScope ["value", "least", "greatest"] ["value", "least", "greatest"] (defScope s_is_integer) := ⟨rfl, rfl, rfl, by decide +kernel, rfl, by decide +kernel, by decide +kernel⟩
theorem ok_is_integer (T : Txt0 P K mg A) : FnOk P w K mg base CX0 1 A.fis_integer A.dis_integer ["value", "least", "greatest"] (sp_is_integer K) := by
  refine T.Fis_integer.ok sc_is_integer (fun vs H Q E h => ?_) (fun cdv Ar outer s H vs Q E hr h => ?_)
  · obtain ⟨i, lo, hi, rfl, _⟩ := h
    rfl
  · obtain ⟨i, lo, hi, rfl, q⟩ := h
    refine ⟨_, (pss_one (ps_ret (pe_and (pe_callB call_isi (by rfl) T.isinstance (by decide +kernel) (pa_cons (pv 0) (pa_cons (pe_bltn (v := .ty "int") (by rfl) T.int (by decide +kernel) rfl) pa_nil))) (pe_and (pe_not (pe_callB call_isi (by rfl) T.isinstance (by decide +kernel) (pa_cons (pv 0) (pa_cons (pe_bltn (v := .ty "bool") (by rfl) T.bool (by decide +kernel) rfl) pa_nil)))) (pe_one (pe_chain op_le op_le (pv 1) (pv 0) (pv 2))))))), ?_⟩
    refine ⟨_, rfl, .int i, .ty "int", .type "int", .type "int", true, rfl, .ty _, .base (.int _), kit_ty (by decide +kernel), _, rfl, iteT ?_⟩
    refine ⟨_, rfl, .int i, .ty "bool", .type "int", .type "bool", false, rfl, .ty _, .base (.int _), kit_ty (by decide +kernel), _, rfl, _, rfl, iteT ?_⟩
    refine ⟨_, rfl, _, rfl, _, _, rfl, rfl, _, rfl, iteP (fun h => ?_) (fun h => ?_)⟩
    · refine ⟨_, rfl, _, _, rfl, rfl, ?_⟩
      have e : decide (lo ≤ i ∧ i ≤ hi) = decide (i ≤ hi) := by
        by_cases c : i ≤ hi
        · rw [decide_eq_true c, decide_eq_true ⟨h, c⟩]
        · rw [decide_eq_false c, decide_eq_false fun z => c z.2]
      rw [e] at q
      exact q
    · rw [decide_eq_false fun z => h z.1] at q
      exact q
def octs (n : Int) (c : Nat) : List Int := (List.range c).map fun k => n / 2 ^ (8 * k) % 256
theorem octs_len (n : Int) (c : Nat) : (octs n c).length = c := by unfold octs; rw [List.length_map, List.length_range]
theorem octs_succ (n : Int) (c : Nat) : octs n (c + 1) = octs n c ++ [n / 2 ^ (8 * c) % 256] := by
  unfold octs; rw [List.range_succ, List.map_append]; rfl
theorem and255 {x : Int} (h : 0 ≤ x) : Builtin.bitAnd x 255 = x % 256 := Bits.bitAnd_mask 8 h
/-- number_octets(n, c), n not negative, c small: a new list -/
def sp_number_octets (K : PySem.W.Frag) : Sp := fun vs H Q _ => ∃ (n : Int) (c : Nat), vs = [.int n, .int (c : Int)] ∧ 0 ≤ n ∧ c ≤ 1000 ∧
  ∀ p H', H p = none → Same H H' → H' p = some (.lst ((octs n c).map V.int)) → Q (.ref p) H'
theorem sc_number_octets : FnScope ["number", "count", "place"] ["number", "count"] (defScope s_number_octets) := ⟨rfl, rfl, rfl, by decide +kernel, rfl, by decide +kernel, by decide +kernel⟩
theorem ok_number_octets (T : Txt0 P K mg A) : FnOk P w K mg base CX0 1 A.fnumber_octets A.dnumber_octets ["number", "count"] (sp_number_octets K) := by
  refine T.Fnumber_octets.ok sc_number_octets (fun vs H Q E h => ?_) (fun cdv Ar outer s H vs Q E hr h => ?_)
  · obtain ⟨n, c, rfl, _⟩ := h
    rfl
  · obtain ⟨n, c, rfl, hn, hc, q⟩ := h
    refine ⟨_, (pss_one (ps_ret (pe_lc (own := [("place", 2)]) (g := gName 2) (tt := tYes) rfl sc_number_octets.nd (pi_range1 (by rfl) T.range (pa_cons (pv 1) pa_nil)) (blkOk_by (own := [("place", 2)]) (N := ["number", "count", "place"]) (sc := defScope s_number_octets) (by decide +kernel)) (fun _ _ _ _ _ => (pg_name (i := 2) sc_number_octets.nd rfl (Or.inl rfl))) (fun _ _ _ _ _ => pts_nil) (fun _ _ _ _ _ => (pe_op op_and (pe_op op_shr (pv 0) (pe_op op_mul pe_int (pv 2))) pe_int))))), ?_⟩
    refine ⟨_, rfl, (c : Int), rfl, by omega, by omega, fun D hD => ?_⟩
    refine lc_range (lo := 0) (n := ((c : Int)).toNat) (fun i H' => Same H H' ∧ H' D = some (.lst ((octs n i).map V.int))) ⟨same_upd hD, upd_same⟩ ?_ ?_
    · rintro i H1 hi ⟨hs, he⟩
      refine ⟨rfl, _, rfl, _, rfl, _, _, rfl, rfl, Or.inl ⟨by decide, by decide⟩, _, _, rfl, rfl, by show (0 : Int) ≤ _; omega, _, _, rfl, rfl, _, he, ?_, ?_, ?_⟩
      · rw [List.length_map, octs_len]; exact lt_line (by omega)
      · intro b o e
        rw [upd_ne (fun z => by rw [z, hD] at e; cases e)]
        exact hs b o e
      · rw [upd_same, octs_succ, List.map_append]
        have e1 : (8 * (0 + (i : Int))).toNat = 8 * i := by omega
        have e2 : Builtin.bitAnd (n / 2 ^ (8 * (0 + (i : Int))).toNat) 255 = n / 2 ^ (8 * i) % 256 := by
          rw [e1, and255 (Int.ediv_nonneg hn (Int.le_of_lt (Int.pow_pos (by decide))))]
        dsimp only
        rw [e2]
        rfl
    · rintro H1 ⟨hs, he⟩
      rw [show ((c : Int)).toNat = c by omega] at he
      exact q D H1 hD hs he
/-! ### is_text, _padded, _text_octets -/
def codeOk (c : Int) : Bool := decide (32 ≤ c ∧ c ≤ 126 ∧ c ≠ 37)
def isText (s : Str) : Bool := decide ((s.length : Int) ≤ 1000) && s.cps.toList.all (fun c : Nat => codeOk (c : Int))
def codesOf (s : Str) : List Int := s.cps.toList.map fun c : Nat => (c : Int)
def padN (n : Nat) : Nat := (-(n : Int) % 4).toNat
def pad (xs : List Int) : List Int := xs ++ List.replicate (padN xs.length) 0
theorem padN_lt (n : Nat) : padN n < 4 := by unfold padN; omega
theorem pad_len (xs : List Int) : (pad xs).length = xs.length + padN xs.length := by unfold pad; rw [List.length_append, List.length_replicate]
def textOcts (s : Str) : List Int := pad (octs (s.length + 1 : Int) 4 ++ codesOf s ++ [0])
theorem codesOf_len (z : Str) : (codesOf z).length = z.length := by unfold codesOf; rw [List.length_map]; exact (size_eq z).symm
theorem textOcts_len (z : Str) : (textOcts z).length ≤ z.length + 8 := by
  unfold textOcts
  rw [pad_len, List.length_append, List.length_append, octs_len, codesOf_len]
  have := padN_lt (4 + z.length + [(0 : Int)].length)
  show 4 + z.length + 1 + padN (4 + z.length + 1) ≤ _
  have h : padN (4 + z.length + 1) < 4 := padN_lt _
  omega
def sp__is_code (K : PySem.W.Frag) : Sp := fun vs H Q _ => ∃ (c : Int), vs = [.int c] ∧ Q (.bl (codeOk c)) H
theorem sc__is_code : FnScope ["code"] ["code"] (defScope s__is_code) := ⟨rfl, rfl, rfl, by decide +kernel, rfl, by decide +kernel, by decide +kernel⟩
theorem ok__is_code (T : Txt0 P K mg A) : FnOk P w K mg base CX0 1 A.f_is_code A.d_is_code ["code"] (sp__is_code K) := by
  refine T.F_is_code.ok sc__is_code (fun vs H Q E h => ?_) (fun cdv Ar outer s H vs Q E hr h => ?_)
  · obtain ⟨c, rfl, _⟩ := h
    rfl
  · obtain ⟨c, rfl, q⟩ := h
    refine ⟨_, (pss_one (ps_ret (pe_and (pe_chain op_le op_le (pe_glob (v := .int (32)) rfl T.g_FIRST_CODE ⟨_, rfl⟩) (pv 0) (pe_glob (v := .int (126)) rfl T.g_LAST_CODE ⟨_, rfl⟩)) (pe_one (pe_cmpR op_ne (pv 0) (pe_glob (v := .int (37)) rfl T.g_PERCENT_CODE ⟨_, rfl⟩) (nomark _)))))), ?_⟩
    unfold codeOk at q
    refine ⟨_, rfl, _, _, rfl, rfl, _, rfl, iteP (fun h1 => ?_) (fun h1 => ?_)⟩
    · refine ⟨_, _, rfl, rfl, ?_⟩
      by_cases h2 : c ≤ 126
      · refine ⟨_, rfl, if_t (decide_eq_true h2) ⟨_, rfl, rfl, ?_⟩⟩
        by_cases h3 : c = 37
        · rw [decide_eq_false fun z => z.2.2 h3] at q
          rw [decide_eq_true (by rw [h3])]; exact q
        · rw [decide_eq_true ⟨h1, h2, h3⟩] at q
          rw [decide_eq_false fun z => h3 (V.int.inj z)]; exact q
      · refine ⟨_, rfl, if_f (decide_eq_false h2) ?_⟩
        rw [decide_eq_false fun z => h2 z.2.1] at q
        exact q
    · refine ⟨_, rfl, if_f rfl ?_⟩
      rw [decide_eq_false fun z => h1 z.1] at q; exact q
def sp_is_text (K : PySem.W.Frag) : Sp := fun vs H Q _ => ∃ (s : Str), vs = [.str s] ∧ s.length < 100000 ∧ ∀ H', Same H H' → Q (.bl (isText s)) H'
theorem sc_is_text : FnScope ["value", "character"] ["value"] (defScope s_is_text) := ⟨rfl, rfl, rfl, by decide +kernel, rfl, by decide +kernel, by decide +kernel⟩
theorem ok_is_text (T : Txt0 P K mg A) : FnOk P w K mg base CX0 2 A.fis_text A.dis_text ["value"] (sp_is_text K) := by
  refine T.Fis_text.ok sc_is_text (fun vs H Q E h => ?_) (fun cdv Ar outer s H vs Q E hr h => ?_)
  · obtain ⟨c, rfl, _⟩ := h
    rfl
  · obtain ⟨z, rfl, hl, q⟩ := h
    refine ⟨_, (pss_one (ps_ret (pe_and (pe_cmpR op_le (pe_callB call_len_str (by rfl) T.len PySem.boot_len (pa_cons (pv 0) pa_nil)) (pe_glob (v := .int (1000)) rfl T.gLONGEST_TEXT ⟨_, rfl⟩) (nomark _)) (pe_one (pe_callB (cr_all rfl) (by rfl) T.all (by decide +kernel) (pa_cons (pe_lc (own := [("character", 1)]) (g := (gName 1)) (tt := tYes) rfl sc_is_text.nd (pi_str (pv 0)) (blkOk_by (own := [("character", 1)]) (N := ["value", "character"]) (sc := defScope s_is_text) (by decide +kernel)) (fun _ _ _ _ _ => (pg_name (i := 1) sc_is_text.nd rfl (Or.inl rfl))) (fun _ _ _ _ _ => pts_nil) (fun _ _ _ _ _ => by exact (pe_call (ok__is_code T) (hr.mono (by decide)) rfl T.g_is_code T.k_is_code T.b_is_code .nil pass0 (pa_cons (pe_callB call_ord (by rfl) T.ord (by decide +kernel) (pa_cons (pv 1) pa_nil)) pa_nil)))) pa_nil)))))), ?_⟩
    refine ⟨_, rfl, z, rfl, len_line (Nat.le_of_lt hl), _, _, rfl, rfl, _, rfl, iteP (fun h1 => ?_) (fun h1 => ?_)⟩
    · refine ⟨_, rfl, z, rfl, fun D hD => ?_⟩
      refine lc_dp (walk_str (z := z)) (K := K) (V0 := H) (H0 := H) (fun i => (z.cps[i]?).map fun c : Nat => PyData.bool (codeOk (c : Int))) [some (.str z), none] rfl (Same.refl _) hD (by show z.length < 100000; exact hl) (fun _ _ => trivial) (fun i x H H' y => y.1) ?_ ?_
      · rintro i x U H1 hi xx ⟨_, c, hc, rfl⟩ Qy Qn hy _
        refine ⟨rfl, _, rfl, _, rfl, rfl, _, rfl, ?_⟩
        exact hy _ _ _ _ (by rw [hc]; rfl) (Ext.refl xx.vh) (.bl _)
      · rintro U H1 _ xx _ _ dl
        rw [size_eq, show fm (fun i => (z.cps[i]?).map fun c : Nat => PyData.bool (codeOk (c : Int))) z.cps.toList.length = (z.cps.toList.map fun c : Nat => codeOk (c : Int)).map PyData.bool from by
          rw [List.map_map]; exact fm_list _ _ _ rfl _ fun i x hx => by rw [cps_at, hx]; rfl] at dl
        refine ⟨D, _, rfl, xx.vh.seq (dp_boolsL dl), ?_⟩
        have := q _ xx.hh
        unfold isText at this
        rw [decide_eq_true h1, Bool.true_and] at this
        rw [List.all_map]; exact this
    · have := q H (Same.refl H)
      unfold isText at this
      rw [decide_eq_false h1] at this
      exact this
/-- _padded(a list): a new list -/
def sp__padded (K : PySem.W.Frag) : Sp := fun vs H Q _ => ∃ (a : Addr) (xs : List Int), vs = [.ref a] ∧ H a = some (.lst (xs.map V.int)) ∧ xs.length < 90000 ∧ ∀ p H', NewL H H' p ((pad xs).map V.int) → Q (.ref p) H'
theorem sc__padded : FnScope ["octets"] ["octets"] (defScope s__padded) := ⟨rfl, rfl, rfl, by decide +kernel, rfl, by decide +kernel, by decide +kernel⟩
theorem ok__padded (T : Txt0 P K mg A) : FnOk P w K mg base CX0 1 A.f_padded A.d_padded ["octets"] (sp__padded K) := by
  refine T.F_padded.ok sc__padded (fun vs H Q E h => ?_) (fun cdv Ar outer s H vs Q E hr h => ?_)
  · obtain ⟨a, xs, rfl, _⟩ := h
    rfl
  · obtain ⟨a, xs, rfl, ha, hl, q⟩ := h
    refine ⟨_, (pss_one (ps_ret (pe_op op_cat (pv 0) (pe_op op_rep (pe_lst (pa_cons pe_int pa_nil)) (pe_op op_mod (pe_un un_neg (pe_callB call_len_seq (by rfl) T.len PySem.boot_len (pa_cons (pv 0) pa_nil))) pe_int))))), ?_⟩
    refine ⟨_, rfl, by decide, fun p1 n1 => ?_⟩
    have ha1 : (upd H p1 (.lst [.int 0])) a = some (.lst (xs.map V.int)) := by rw [upd_ne (ne_of_none ha n1)]; exact ha
    have e1 : -((xs.map V.int).length : Int) % 4 = (padN xs.length : Int) := by rw [List.length_map]; unfold padN; omega
    have pl := padN_lt xs.length
    refine ⟨_, rfl, a, _, rfl, .inl (SqL.of ha1), _, rfl, _, _, rfl, rfl, by show (0 : Int) < 4; decide, p1, _, _, rfl, rfl, upd_same, ?_, ?_, ?_, fun p2 n2 => ?_⟩
    · omega
    · omega
    · exact len_line (by show 1 * _ ≤ _; omega)
    refine ⟨a, p2, _, _, rfl, rfl, by rw [upd_ne (ne_of_none ha1 n2)]; exact ha1, upd_same, ?_, fun p3 n3 => ?_⟩
    · rw [e1]
      exact len_line (by rw [rep_flat, List.length_map, List.length_replicate]; omega)
    refine q p3 _ ⟨?_, ?_, ?_⟩
    · exact (same_upd n1).free ((same_upd n2).free n3)
    · exact ((same_upd n1).trans (same_upd n2)).trans (same_upd n3)
    · rw [upd_same, e1]
      unfold pad
      rw [List.map_append, show ((padN xs.length : Nat) : Int).toNat = padN xs.length by omega]
      rw [rep_flat, List.map_replicate]
def sp__text_octets (K : PySem.W.Frag) : Sp := fun vs H Q _ => ∃ (s : Str), vs = [.str s] ∧ s.length < 80000 ∧ ∀ p H', NewL H H' p ((textOcts s).map V.int) → Q (.ref p) H'
theorem sc__text_octets : FnScope ["text", "codes", "character"] ["text"] (defScope s__text_octets) := ⟨rfl, rfl, rfl, by decide +kernel, rfl, by decide +kernel, by decide +kernel⟩
theorem ok__text_octets (T : Txt0 P K mg A) : FnOk P w K mg base CX0 2 A.f_text_octets A.d_text_octets ["text"] (sp__text_octets K) := by
  refine T.F_text_octets.ok sc__text_octets (fun vs H Q E h => ?_) (fun cdv Ar outer s H vs Q E hr h => ?_)
  · obtain ⟨z, rfl, _⟩ := h
    rfl
  · obtain ⟨z, rfl, hl, q⟩ := h
    refine ⟨_, (pss_cons (ps_setLc (i := 1) (own := [("character", 2)]) (g := (gName 2)) (tt := tYes) rfl sc__text_octets.nd rfl rfl (sw_true rfl rfl rfl (by decide +kernel)) (pi_str (pv 0)) (blkOk_by (own := [("character", 2)]) (N := ["text", "codes", "character"]) (sc := defScope s__text_octets) (by decide +kernel)) (fun _ _ _ _ _ => (pg_name (i := 2) sc__text_octets.nd rfl (Or.inl rfl))) (fun _ _ _ _ _ => pts_nil) (fun _ _ _ _ _ => by exact (pe_callB call_ord (by rfl) T.ord (by decide +kernel) (pa_cons (pv 2) pa_nil))))
      (pss_one (ps_ret (pe_call (ok__padded T) (hr.mono (by decide)) rfl T.g_padded T.k_padded T.b_padded .nil pass0 (pa_cons (pe_op op_cat (pe_op op_cat (pe_call (ok_number_octets T) (hr.mono (by decide)) rfl T.gnumber_octets T.knumber_octets T.bnumber_octets .nil pass0 (pa_cons (pe_op op_add (pe_callB call_len_seq (by rfl) T.len PySem.boot_len (pa_cons (pv 1) pa_nil)) pe_int) (pa_cons pe_int pa_nil))) (pv 1)) (pe_lst (pa_cons pe_int pa_nil))) pa_nil))))), ?_⟩
    refine ⟨_, rfl, z, rfl, fun D hD => ?_⟩
    refine lc_dp (walk_str (z := z)) (K := K) (V0 := H) (H0 := H) (fun i => (z.cps[i]?).map fun c : Nat => PyData.int (c : Int)) [some (.str z), none, none] rfl (Same.refl _) hD (by show z.length < 100000; omega) (fun _ _ => trivial) (fun i x H H' y => y.1) ?_ ?_
    · rintro i x U H1 hi xx ⟨_, c, hc, rfl⟩ Qy Qn hy _
      refine ⟨rfl, _, rfl, _, rfl, rfl, ?_⟩
      exact hy _ _ _ _ (by rw [hc]; rfl) (Ext.refl xx.vh) (.int _)
    · rintro U H1 xs xx hDU dl _
      rw [size_eq, show fm (fun i => (z.cps[i]?).map fun c : Nat => PyData.int (c : Int)) z.cps.toList.length = (codesOf z).map PyData.int from by
          unfold codesOf; rw [List.map_map]; exact fm_list _ _ _ rfl _ fun i x hx => by rw [cps_at, hx]; rfl] at dl
      have hlc : (codesOf z).length = z.length := by unfold codesOf; rw [List.length_map]; exact (size_eq z).symm
      have exs := dp_intsV dl
      subst exs
      have h1D := xx.vh _ _ hDU
      have ev : ∀ (l : Int), l = z.length → (z.length : Int) + 1 = l + 1 := fun l e => by omega
      refine ⟨_, rfl, D, _, rfl, .inl (SqL.of h1D), _, _, rfl, rfl, _, 4, rfl, ?_, by decide, fun p H2 hp hs he => ?_⟩
      · omega
      have h2D := hs _ _ h1D
      rw [List.length_map, hlc] at he
      refine ⟨_, rfl, p, D, _, _, rfl, rfl, he, h2D, ?_, fun p3 n3 => ?_⟩
      · rw [List.length_map, List.length_map, octs_len, hlc]; exact len_line (by omega)
      refine ⟨by decide, fun p4 n4 => ?_⟩
      refine ⟨p3, p4, _, _, rfl, rfl, by rw [upd_ne (ne_of_none upd_same n4)]; exact upd_same, upd_same, ?_, fun p5 n5 => ?_⟩
      · rw [List.length_append, List.length_map, List.length_map, octs_len, hlc]; exact len_line (by show 4 + z.length + 1 ≤ _; omega)
      refine ⟨p5, octs (z.length + 1 : Int) 4 ++ codesOf z ++ [0], rfl, ?_, ?_, fun p6 H6 n6 => q p6 H6 ?_⟩
      · rw [upd_same, List.map_append, List.map_append]; rfl
      · rw [List.length_append, List.length_append, octs_len, hlc]; show 4 + z.length + 1 < 90000; omega
      · exact ⟨xx.hh.free (hs.free ((same_upd n3).free ((same_upd n4).free ((same_upd n5).free n6.new)))), xx.hh.trans (hs.trans ((same_upd n3).trans ((same_upd n4).trans ((same_upd n5).trans n6.same)))), n6.at_⟩
/-! ### the kinds -/
inductive NumKind : Str → Int → Int → Prop
  | uint : NumKind "uint" 0 4294967295
  | maybe : NumKind "maybe" 0 4294967295
  | int : NumKind "int" (-2147483648) 2147483647
  | object : NumKind "object" 1 4294967295
  | new : NumKind "new" 1 4294967295
inductive AV
  | num (i : Int)
  | txt (s : Str)
  | oct (xs : List Int)
  | bnd (s : Str) (n : Int)
def ArgAt (K : PySem.W.Frag) (H : Hp) (v : V) : AV → Prop
  | .num i => v = .int i
  | .txt s => v = .str s ∧ s.length < 80000
  | .oct xs => ∃ a, v = .ref a ∧ H a = some (.lst (xs.map V.int)) ∧ xs.length < 80000
  | .bnd s n => ∃ a, v = .ref a ∧ SqT K H a [.str s, .int n] ∧ s.length < 80000
theorem ArgAt.to {K : PySem.W.Frag} {H H' : Hp} {v : V} {x : AV} (h : ArgAt K H v x) (s : Same H H') : ArgAt K H' v x := by
  cases x with
  | num i => exact h
  | txt z => exact h
  | oct xs => obtain ⟨a, e, q, l⟩ := h; exact ⟨a, e, s _ _ q, l⟩
  | bnd z n => obtain ⟨a, e, q, l⟩ := h; exact ⟨a, e, s.sqt q, l⟩
def octsOk (xs : List Int) : Bool := decide (xs.length ≤ 16384) && xs.all fun x => decide (0 ≤ x ∧ x ≤ 255)
inductive ArgSpec : Str → AV → Bool → List Int → Prop
  | num {k : Str} {lo hi i : Int} (h : NumKind k lo hi) : ArgSpec k (.num i) (decide (lo ≤ i ∧ i ≤ hi)) (octs (i % 4294967296) 4)
  | txt {s : Str} : ArgSpec "text" (.txt s) (isText s) (textOcts s)
  | oct {xs : List Int} : ArgSpec "octets" (.oct xs) (octsOk xs) (pad (octs xs.length 4 ++ xs))
  | bnd {s : Str} {n : Int} : ArgSpec "bound" (.bnd s n) (isText s && decide (1 ≤ n ∧ n ≤ 4294967295)) (textOcts s ++ octs n 4)
def sp__are_octets (K : PySem.W.Frag) : Sp := fun vs H Q _ => ∃ (a : Addr) (xs : List Int), vs = [.ref a] ∧ H a = some (.lst (xs.map V.int)) ∧ xs.length < 80000 ∧ ∀ H', Same H H' → Q (.bl (octsOk xs)) H'
theorem sc__are_octets : FnScope ["value", "octet"] ["value"] (defScope s__are_octets) := ⟨rfl, rfl, rfl, by decide +kernel, rfl, by decide +kernel, by decide +kernel⟩
theorem ok__are_octets (T : Txt0 P K mg A) : FnOk P w K mg base CX0 2 A.f_are_octets A.d_are_octets ["value"] (sp__are_octets K) := by
  refine T.F_are_octets.ok sc__are_octets (fun vs H Q E h => ?_) (fun cdv Ar outer s H vs Q E hr h => ?_)
  · obtain ⟨a, xs, rfl, _⟩ := h
    rfl
  · obtain ⟨a, xs, rfl, ha, hl, q⟩ := h
    refine ⟨_, (pss_cons (ps_if (PW.pt (pw_or (pt_not (pt_val (pe_callB call_isi (by rfl) T.isinstance (by decide +kernel) (pa_cons (pv 0) (pa_cons (pe_bltn (v := .ty "list") (by rfl) T.list (by decide +kernel) rfl) pa_nil))))) (pw_or1 (pt_cmpR op_gt (pe_callB call_len_seq (by rfl) T.len PySem.boot_len (pa_cons (pv 0) pa_nil)) (pe_glob (v := .int (16384)) rfl T.gMOST_OCTETS ⟨_, rfl⟩) (nomark _)))))
      (pss_one (ps_ret pe_bl))
      pss_nil)
      (pss_one (ps_ret (pe_callB (cr_all rfl) (by rfl) T.all (by decide +kernel) (pa_cons (pe_lc (own := [("octet", 1)]) (g := (gName 1)) (tt := tYes) rfl sc__are_octets.nd (pi_list (pv 0)) (blkOk_by (own := [("octet", 1)]) (N := ["value", "octet"]) (sc := defScope s__are_octets) (by decide +kernel)) (fun _ _ _ _ _ => (pg_name (i := 1) sc__are_octets.nd rfl (Or.inl rfl))) (fun _ _ _ _ _ => pts_nil) (fun _ _ _ _ _ => by exact (pe_call (ok_is_integer T) (hr.mono (by decide)) rfl T.gis_integer T.kis_integer T.bis_integer .nil pass0 (pa_cons (pv 1) (pa_cons pe_int (pa_cons pe_int pa_nil)))))) pa_nil))))), ?_⟩
    refine ⟨_, rfl, .ref a, .ty "list", .type "list", .type "list", true, rfl, .ty _, tyL (K := K) (SqL.of ha), kit_ty (by decide +kernel), _, rfl, if_f rfl ?_⟩
    refine ⟨_, rfl, a, _, rfl, .inl (SqL.of ha), _, _, rfl, rfl, _, rfl, iteP (fun h => ?_) (fun h => ?_)⟩
    · have := q H (Same.refl H)
      unfold octsOk at this
      rw [List.length_map] at h
      rw [decide_eq_false (show ¬ xs.length ≤ 16384 by omega)] at this
      exact this
    · rw [List.length_map] at h
      refine ⟨_, rfl, a, rfl, ⟨_, SqL.of ha⟩, fun D hD => ?_⟩
      refine lc_dp (walk_list (K := K) (a := a) (xs := xs.map V.int)) (K := K) (V0 := H) (H0 := H) (fun i => (xs[i]?).map fun x => PyData.bool (decide (0 ≤ x ∧ x ≤ 255))) [some (.ref a), none] rfl (Same.refl _) hD (by rw [List.length_map]; omega) (fun H' s => s.seq (SqL.of ha)) (fun i x H H' y => y.1) ?_ ?_
      · rintro i x U H1 hi xx ⟨_, hx⟩ Qy Qn hy _
        rw [List.getElem?_map] at hx
        obtain ⟨z, hz, rfl⟩ := Option.map_eq_some_iff.mp hx
        exact ⟨rfl, _, rfl, z, 0, 255, rfl, hy _ _ _ _ (by rw [hz]; rfl) (Ext.refl xx.vh) (.bl _)⟩
      · rintro U H1 _ xx _ _ dl
        rw [List.length_map, show fm (fun i => (xs[i]?).map fun x => PyData.bool (decide (0 ≤ x ∧ x ≤ 255))) xs.length = (xs.map fun x => decide (0 ≤ x ∧ x ≤ 255)).map PyData.bool from by
          rw [List.map_map]; exact fm_list _ _ _ rfl _ fun i x hx => by rw [hx]; rfl] at dl
        refine ⟨D, _, rfl, xx.vh.seq (dp_boolsL dl), ?_⟩
        have := q _ xx.hh
        unfold octsOk at this
        rw [decide_eq_true (show xs.length ≤ 16384 by omega), Bool.true_and] at this
        rw [List.all_map]; exact this
theorem sc__is_of : FnScope ["kind", "value"] ["kind", "value"] (defScope s__is_of) := ⟨rfl, rfl, rfl, by decide +kernel, rfl, by decide +kernel, by decide +kernel⟩
/-- the kinds but bound -/
def sp_is_of0 (K : PySem.W.Frag) : Sp := fun vs H Q _ => ∃ (kind : Str) (v : V) (x : AV) (ok : Bool) (os : List Int), vs = [.str kind, v] ∧ ArgSpec kind x ok os ∧ kind ≠ "bound" ∧ ArgAt K H v x ∧ ∀ H', Same H H' → Q (.bl ok) H'
theorem ok_is_of0 (T : Txt0 P K mg A) : FnOk P w K mg base CX0 3 A.f_is_of A.d_is_of ["kind", "value"] (sp_is_of0 K) := by
  refine T.F_is_of.ok sc__is_of (fun vs H Q E h => ?_) (fun cdv Ar outer s H vs Q E hr h => ?_)
  · obtain ⟨kind, v, x, ok, os, rfl, _⟩ := h
    rfl
  · obtain ⟨kind, v, x, ok, os, rfl, hk, nb, ha, q⟩ := h
    refine ⟨_, (pss_cons (ps_if (PW.pt (pw_or (pt_cmpR op_eq (pv 0) pe_str (nomark _)) (pw_or1 (pt_cmpR op_eq (pv 0) pe_str (nomark _)))))
      (pss_one (ps_ret (pe_call (ok_is_integer T) (hr.mono (by decide)) rfl T.gis_integer T.kis_integer T.bis_integer .nil pass0 (pa_cons (pv 1) (pa_cons pe_int (pa_cons (pe_glob (v := .int (4294967295)) rfl T.gGREATEST_NUMBER ⟨_, rfl⟩) pa_nil))))))
      pss_nil)
      (pss_cons (ps_if (pt_cmpR op_eq (pv 0) pe_str (nomark _))
      (pss_one (ps_ret (pe_call (ok_is_integer T) (hr.mono (by decide)) rfl T.gis_integer T.kis_integer T.bis_integer .nil pass0 (pa_cons (pv 1) (pa_cons (pe_glob (v := .int (-2147483648)) rfl T.gLEAST_INT ⟨_, rfl⟩) (pa_cons (pe_glob (v := .int (2147483647)) rfl T.gGREATEST_INT ⟨_, rfl⟩) pa_nil))))))
      pss_nil)
      (pss_cons (ps_if (PW.pt (pw_or (pt_cmpR op_eq (pv 0) pe_str (nomark _)) (pw_or1 (pt_cmpR op_eq (pv 0) pe_str (nomark _)))))
      (pss_one (ps_ret (pe_call (ok_is_integer T) (hr.mono (by decide)) rfl T.gis_integer T.kis_integer T.bis_integer .nil pass0 (pa_cons (pv 1) (pa_cons pe_int (pa_cons (pe_glob (v := .int (4294967295)) rfl T.gGREATEST_NUMBER ⟨_, rfl⟩) pa_nil))))))
      pss_nil)
      (pss_cons (ps_if (pt_cmpR op_eq (pv 0) pe_str (nomark _))
      (pss_one (ps_ret (pe_and (pe_callB call_isi (by rfl) T.isinstance (by decide +kernel) (pa_cons (pv 1) (pa_cons (pe_bltn (v := .ty "str") (by rfl) T.str (by decide +kernel) rfl) pa_nil))) (pe_one (pe_call (ok_is_text T) (hr.mono (by decide)) rfl T.gis_text T.kis_text T.bis_text .nil pass0 (pa_cons (pv 1) pa_nil))))))
      pss_nil)
      (pss_cons (ps_if (pt_cmpR op_eq (pv 0) pe_str (nomark _))
      (pss_one (ps_ret (pe_call (ok__are_octets T) (hr.mono (by decide)) rfl T.g_are_octets T.k_are_octets T.b_are_octets .nil pass0 (pa_cons (pv 1) pa_nil))))
      pss_nil)
      (pss_one ps_never)))))), ?_⟩
    have q0 := q H (Same.refl H)
    cases hk with
    | num h =>
      rename_i lo hi i
      obtain rfl : v = .int i := ha
      cases h with
      | uint => exact ⟨_, rfl, rfl, _, rfl, if_t (by decide +kernel) (if_t rfl ⟨_, rfl, _, _, _, rfl, q0⟩)⟩
      | maybe => exact ⟨_, rfl, rfl, _, rfl, if_f (by decide +kernel) ⟨_, rfl, rfl, _, rfl, if_t (by decide +kernel) ⟨_, rfl, _, _, _, rfl, q0⟩⟩⟩
      | int =>
        refine ⟨_, rfl, rfl, _, rfl, if_f (by decide +kernel) ⟨_, rfl, rfl, _, rfl, if_f (by decide +kernel) ?_⟩⟩
        exact ⟨_, rfl, rfl, _, rfl, if_t (by decide +kernel) ⟨_, rfl, _, _, _, rfl, q0⟩⟩
      | object =>
        refine ⟨_, rfl, rfl, _, rfl, if_f (by decide +kernel) ⟨_, rfl, rfl, _, rfl, if_f (by decide +kernel) ?_⟩⟩
        refine ⟨_, rfl, rfl, _, rfl, if_f (by decide +kernel) ⟨_, rfl, rfl, _, rfl, if_t (by decide +kernel) (if_t rfl ⟨_, rfl, _, _, _, rfl, q0⟩)⟩⟩
      | new =>
        refine ⟨_, rfl, rfl, _, rfl, if_f (by decide +kernel) ⟨_, rfl, rfl, _, rfl, if_f (by decide +kernel) ?_⟩⟩
        refine ⟨_, rfl, rfl, _, rfl, if_f (by decide +kernel) ⟨_, rfl, rfl, _, rfl, if_f (by decide +kernel) ⟨_, rfl, rfl, _, rfl, if_t (by decide +kernel) ⟨_, rfl, _, _, _, rfl, q0⟩⟩⟩⟩
    | txt =>
      rename_i s
      obtain ⟨rfl, hl⟩ := ha
      refine ⟨_, rfl, rfl, _, rfl, if_f (by decide +kernel) ⟨_, rfl, rfl, _, rfl, if_f (by decide +kernel) ?_⟩⟩
      refine ⟨_, rfl, rfl, _, rfl, if_f (by decide +kernel) ⟨_, rfl, rfl, _, rfl, if_f (by decide +kernel) ⟨_, rfl, rfl, _, rfl, if_f (by decide +kernel) ?_⟩⟩⟩
      refine ⟨_, rfl, rfl, _, rfl, if_t (by decide +kernel) ?_⟩
      exact ⟨_, rfl, .str s, .ty "str", .type "str", .type "str", true, rfl, .ty _, .base (.str _), kit_ty (by decide +kernel), _, rfl, if_t rfl ⟨_, rfl, s, rfl, by omega, q⟩⟩
    | oct =>
      rename_i xs
      obtain ⟨a, rfl, ha, hl⟩ := ha
      refine ⟨_, rfl, rfl, _, rfl, if_f (by decide +kernel) ⟨_, rfl, rfl, _, rfl, if_f (by decide +kernel) ?_⟩⟩
      refine ⟨_, rfl, rfl, _, rfl, if_f (by decide +kernel) ⟨_, rfl, rfl, _, rfl, if_f (by decide +kernel) ⟨_, rfl, rfl, _, rfl, if_f (by decide +kernel) ?_⟩⟩⟩
      refine ⟨_, rfl, rfl, _, rfl, if_f (by decide +kernel) ?_⟩
      exact ⟨_, rfl, rfl, _, rfl, if_t (by decide +kernel) ⟨_, rfl, a, xs, rfl, ha, hl, q⟩⟩
    | bnd => exact absurd rfl nb
def sp__is_bound (K : PySem.W.Frag) : Sp := fun vs H Q _ => ∃ (a : Addr) (s : Str) (n : Int), vs = [.ref a] ∧ SqT K H a [.str s, .int n] ∧ s.length < 80000 ∧ ∀ H', Same H H' → Q (.bl (isText s && decide (1 ≤ n ∧ n ≤ 4294967295))) H'
theorem sc__is_bound : FnScope ["value"] ["value"] (defScope s__is_bound) := ⟨rfl, rfl, rfl, by decide +kernel, rfl, by decide +kernel, by decide +kernel⟩
theorem ok__is_bound (T : Txt0 P K mg A) : FnOk P w K mg base CX0 4 A.f_is_bound A.d_is_bound ["value"] (sp__is_bound K) := by
  refine T.F_is_bound.ok sc__is_bound (fun vs H Q E h => ?_) (fun cdv Ar outer s H vs Q E hr h => ?_)
  · obtain ⟨a, s, n, rfl, _⟩ := h
    rfl
  · obtain ⟨a, z, n, rfl, ha, hl, q⟩ := h
    have ok__is_of : ∀ {A' : Adr} (T : Txt0 P K mg A'), FnOk P w K mg base CX0 3 A'.f_is_of A'.d_is_of ["kind", "value"] (sp_is_of0 K) := fun T => ok_is_of0 T
    refine ⟨_, (pss_cons (ps_if (PW.pt (pw_or (pt_not (pt_val (pe_callB call_isi (by rfl) T.isinstance (by decide +kernel) (pa_cons (pv 0) (pa_cons (pe_bltn (v := .ty "tuple") (by rfl) T.tuple (by decide +kernel) rfl) pa_nil))))) (pw_or1 (pt_cmpR op_ne (pe_callB call_len_seq (by rfl) T.len PySem.boot_len (pa_cons (pv 0) pa_nil)) pe_int (nomark _)))))
      (pss_one (ps_ret pe_bl))
      pss_nil)
      (pss_one (ps_ret (pe_and (pe_call (ok__is_of T) (hr.mono (by decide)) rfl T.g_is_of T.k_is_of T.b_is_of .nil pass0 (pa_cons pe_str (pa_cons (pe_ix (r := rIxT K) ix_tup (pv 0) pe_int (fun _ _ => rfl)) pa_nil))) (pe_one (pe_call (ok__is_of T) (hr.mono (by decide)) rfl T.g_is_of T.k_is_of T.b_is_of .nil pass0 (pa_cons pe_str (pa_cons (pe_ix (r := rIxT K) ix_tup (pv 0) pe_int (fun _ _ => rfl)) pa_nil)))))))), ?_⟩
    refine ⟨_, rfl, .ref a, .ty "tuple", .type "tuple", .type "tuple", true, rfl, .ty _, tyT ha, kit_ty (by decide +kernel), _, rfl, if_f rfl ?_⟩
    refine ⟨_, rfl, a, _, rfl, .inr ha, rfl, _, rfl, if_f rfl ?_⟩
    refine ⟨_, rfl, a, _, 0, .str z, rfl, rfl, ha, atI_nat (j := 0) rfl, "text", .str z, .txt z, isText z, _, rfl, .txt, by decide +kernel, ⟨rfl, hl⟩, fun H' s => ⟨_, rfl, if_b (fun c => ?_) (fun c => ?_)⟩⟩
    · refine ⟨_, rfl, a, _, 1, .int n, rfl, rfl, s.sqt ha, atI_nat (j := 1) rfl, "new", .int n, .num n, _, _, rfl, .num .new, by decide +kernel, rfl, fun H2 s2 => ?_⟩
      have := q H2 (s.trans s2)
      rw [c, Bool.true_and] at this
      exact this
    · have := q H' s
      rw [c, Bool.false_and] at this
      exact this
def sp__is_of (K : PySem.W.Frag) : Sp := fun vs H Q _ => ∃ (kind : Str) (v : V) (x : AV) (ok : Bool) (os : List Int), vs = [.str kind, v] ∧ ArgSpec kind x ok os ∧ ArgAt K H v x ∧ ∀ H', Same H H' → Q (.bl ok) H'
theorem ok__is_of (T : Txt0 P K mg A) : FnOk P w K mg base CX0 5 A.f_is_of A.d_is_of ["kind", "value"] (sp__is_of K) := by
  refine T.F_is_of.ok sc__is_of (fun vs H Q E h => ?_) (fun cdv Ar outer s H vs Q E hr h => ?_)
  · obtain ⟨kind, v, x, ok, os, rfl, _⟩ := h
    rfl
  · obtain ⟨kind, v, x, ok, os, rfl, hk, ha, q⟩ := h
    refine ⟨_, (pss_cons (ps_if (PW.pt (pw_or (pt_cmpR op_eq (pv 0) pe_str (nomark _)) (pw_or1 (pt_cmpR op_eq (pv 0) pe_str (nomark _)))))
      (pss_one (ps_ret (pe_call (ok_is_integer T) (hr.mono (by decide)) rfl T.gis_integer T.kis_integer T.bis_integer .nil pass0 (pa_cons (pv 1) (pa_cons pe_int (pa_cons (pe_glob (v := .int (4294967295)) rfl T.gGREATEST_NUMBER ⟨_, rfl⟩) pa_nil))))))
      pss_nil)
      (pss_cons (ps_if (pt_cmpR op_eq (pv 0) pe_str (nomark _))
      (pss_one (ps_ret (pe_call (ok_is_integer T) (hr.mono (by decide)) rfl T.gis_integer T.kis_integer T.bis_integer .nil pass0 (pa_cons (pv 1) (pa_cons (pe_glob (v := .int (-2147483648)) rfl T.gLEAST_INT ⟨_, rfl⟩) (pa_cons (pe_glob (v := .int (2147483647)) rfl T.gGREATEST_INT ⟨_, rfl⟩) pa_nil))))))
      pss_nil)
      (pss_cons (ps_if (PW.pt (pw_or (pt_cmpR op_eq (pv 0) pe_str (nomark _)) (pw_or1 (pt_cmpR op_eq (pv 0) pe_str (nomark _)))))
      (pss_one (ps_ret (pe_call (ok_is_integer T) (hr.mono (by decide)) rfl T.gis_integer T.kis_integer T.bis_integer .nil pass0 (pa_cons (pv 1) (pa_cons pe_int (pa_cons (pe_glob (v := .int (4294967295)) rfl T.gGREATEST_NUMBER ⟨_, rfl⟩) pa_nil))))))
      pss_nil)
      (pss_cons (ps_if (pt_cmpR op_eq (pv 0) pe_str (nomark _))
      (pss_one (ps_ret (pe_and (pe_callB call_isi (by rfl) T.isinstance (by decide +kernel) (pa_cons (pv 1) (pa_cons (pe_bltn (v := .ty "str") (by rfl) T.str (by decide +kernel) rfl) pa_nil))) (pe_one (pe_call (ok_is_text T) (hr.mono (by decide)) rfl T.gis_text T.kis_text T.bis_text .nil pass0 (pa_cons (pv 1) pa_nil))))))
      pss_nil)
      (pss_cons (ps_if (pt_cmpR op_eq (pv 0) pe_str (nomark _))
      (pss_one (ps_ret (pe_call (ok__are_octets T) (hr.mono (by decide)) rfl T.g_are_octets T.k_are_octets T.b_are_octets .nil pass0 (pa_cons (pv 1) pa_nil))))
      pss_nil)
      (pss_one (ps_ret (pe_and (pe_cmpR op_eq (pv 0) pe_str (nomark _)) (pe_one (pe_call (ok__is_bound T) (hr.mono (by decide)) rfl T.g_is_bound T.k_is_bound T.b_is_bound .nil pass0 (pa_cons (pv 1) pa_nil))))))))))), ?_⟩
    have q0 := q H (Same.refl H)
    cases hk with
    | num h =>
      rename_i lo hi i
      obtain rfl : v = .int i := ha
      cases h with
      | uint => exact ⟨_, rfl, rfl, _, rfl, if_t (by decide +kernel) (if_t rfl ⟨_, rfl, _, _, _, rfl, q0⟩)⟩
      | maybe => exact ⟨_, rfl, rfl, _, rfl, if_f (by decide +kernel) ⟨_, rfl, rfl, _, rfl, if_t (by decide +kernel) ⟨_, rfl, _, _, _, rfl, q0⟩⟩⟩
      | int =>
        refine ⟨_, rfl, rfl, _, rfl, if_f (by decide +kernel) ⟨_, rfl, rfl, _, rfl, if_f (by decide +kernel) ?_⟩⟩
        exact ⟨_, rfl, rfl, _, rfl, if_t (by decide +kernel) ⟨_, rfl, _, _, _, rfl, q0⟩⟩
      | object =>
        refine ⟨_, rfl, rfl, _, rfl, if_f (by decide +kernel) ⟨_, rfl, rfl, _, rfl, if_f (by decide +kernel) ?_⟩⟩
        refine ⟨_, rfl, rfl, _, rfl, if_f (by decide +kernel) ⟨_, rfl, rfl, _, rfl, if_t (by decide +kernel) (if_t rfl ⟨_, rfl, _, _, _, rfl, q0⟩)⟩⟩
      | new =>
        refine ⟨_, rfl, rfl, _, rfl, if_f (by decide +kernel) ⟨_, rfl, rfl, _, rfl, if_f (by decide +kernel) ?_⟩⟩
        refine ⟨_, rfl, rfl, _, rfl, if_f (by decide +kernel) ⟨_, rfl, rfl, _, rfl, if_f (by decide +kernel) ⟨_, rfl, rfl, _, rfl, if_t (by decide +kernel) ⟨_, rfl, _, _, _, rfl, q0⟩⟩⟩⟩
    | txt =>
      rename_i s
      obtain ⟨rfl, hl⟩ := ha
      refine ⟨_, rfl, rfl, _, rfl, if_f (by decide +kernel) ⟨_, rfl, rfl, _, rfl, if_f (by decide +kernel) ?_⟩⟩
      refine ⟨_, rfl, rfl, _, rfl, if_f (by decide +kernel) ⟨_, rfl, rfl, _, rfl, if_f (by decide +kernel) ⟨_, rfl, rfl, _, rfl, if_f (by decide +kernel) ?_⟩⟩⟩
      refine ⟨_, rfl, rfl, _, rfl, if_t (by decide +kernel) ?_⟩
      exact ⟨_, rfl, .str s, .ty "str", .type "str", .type "str", true, rfl, .ty _, .base (.str _), kit_ty (by decide +kernel), _, rfl, if_t rfl ⟨_, rfl, s, rfl, by omega, q⟩⟩
    | oct =>
      rename_i xs
      obtain ⟨a, rfl, ha, hl⟩ := ha
      refine ⟨_, rfl, rfl, _, rfl, if_f (by decide +kernel) ⟨_, rfl, rfl, _, rfl, if_f (by decide +kernel) ?_⟩⟩
      refine ⟨_, rfl, rfl, _, rfl, if_f (by decide +kernel) ⟨_, rfl, rfl, _, rfl, if_f (by decide +kernel) ⟨_, rfl, rfl, _, rfl, if_f (by decide +kernel) ?_⟩⟩⟩
      refine ⟨_, rfl, rfl, _, rfl, if_f (by decide +kernel) ?_⟩
      exact ⟨_, rfl, rfl, _, rfl, if_t (by decide +kernel) ⟨_, rfl, a, xs, rfl, ha, hl, q⟩⟩
    | bnd =>
      rename_i z n
      obtain ⟨a, rfl, ha, hl⟩ := ha
      refine ⟨_, rfl, rfl, _, rfl, if_f (by decide +kernel) ⟨_, rfl, rfl, _, rfl, if_f (by decide +kernel) ?_⟩⟩
      refine ⟨_, rfl, rfl, _, rfl, if_f (by decide +kernel) ⟨_, rfl, rfl, _, rfl, if_f (by decide +kernel) ⟨_, rfl, rfl, _, rfl, if_f (by decide +kernel) ?_⟩⟩⟩
      refine ⟨_, rfl, rfl, _, rfl, if_f (by decide +kernel) ?_⟩
      refine ⟨_, rfl, rfl, _, rfl, if_f (by decide +kernel) ?_⟩
      exact ⟨_, rfl, rfl, _, rfl, if_t (by decide +kernel) ⟨_, rfl, a, z, n, rfl, ha, hl, q⟩⟩
/-- field_octets: a new list, or BadMessage -/
def sp_field_octets (K : PySem.W.Frag) (C : Addr) : Sp := fun vs H Q E => ∃ (kind : Str) (v : V) (x : AV) (ok : Bool) (os : List Int), vs = [.str kind, v] ∧ ArgSpec kind x ok os ∧ ArgAt K H v x ∧
  (ok = true → ∀ p H', NewL H H' p (os.map V.int) → Q (.ref p) H') ∧ (ok = false → ∀ H', Same H H' → E (.ref C) none H')
theorem sc_field_octets : FnScope ["kind", "value", "text", "number"] ["kind", "value"] (defScope s_field_octets) := ⟨rfl, rfl, rfl, by decide +kernel, rfl, by decide +kernel, by decide +kernel⟩
theorem ok_field_octets (T : Txt0 P K mg A) : FnOk P w K mg base (L2.CX P w) 6 A.ffield_octets A.dfield_octets ["kind", "value"] (sp_field_octets K A.CBadMessage) := by
  refine T.Ffield_octets.okX sc_field_octets (fun vs H Q E h => ?_) (fun cdv Ar outer s H vs Q E hr h => ?_)
  · obtain ⟨kind, v, x, ok, os, rfl, _⟩ := h
    rfl
  · obtain ⟨kind, v, x, ok, os, rfl, hk, ha, q, e⟩ := h
    refine ⟨_, (pss_cons (ps_if (pt_not (pt_val (pe_call (ok__is_of T) (hr.mono (by decide)) rfl T.g_is_of T.k_is_of T.b_is_of .nil pass0 (pa_cons (pv 0) (pa_cons (pv 1) pa_nil)))))
      (pss_one (ps_raise rfl (takes_of rfl rfl rfl rfl) (pmk_own PySem.F.excBase_ValueError T.xBadMessage T.gBadMessage T.kBadMessage (raises_own T.bxBadMessage T.txBadMessage) rfl)))
      pss_nil)
      (pss_cons (ps_if (pt_cmpR op_eq (pv 0) pe_str (nomark _))
      (pss_one (ps_ret (pe_call (ok__text_octets T) (hr.mono (by decide)) rfl T.g_text_octets T.k_text_octets T.b_text_octets .nil pass0 (pa_cons (pv 1) pa_nil))))
      pss_nil)
      (pss_cons (ps_if (pt_cmpR op_eq (pv 0) pe_str (nomark _))
      (pss_one (ps_ret (pe_call (ok__padded T) (hr.mono (by decide)) rfl T.g_padded T.k_padded T.b_padded .nil pass0 (pa_cons (pe_op op_cat (pe_call (ok_number_octets T) (hr.mono (by decide)) rfl T.gnumber_octets T.knumber_octets T.bnumber_octets .nil pass0 (pa_cons (pe_callB call_len_seq (by rfl) T.len PySem.boot_len (pa_cons (pv 1) pa_nil)) (pa_cons pe_int pa_nil))) (pv 1)) pa_nil))))
      pss_nil)
      (pss_cons (ps_if (pt_cmpR op_eq (pv 0) pe_str (nomark _))
      (pss_cons (ps_asg (pv 1) (pg_tup rfl (pgs_cons (pg_name (i := 2) sc_field_octets.nd rfl (Or.inl rfl)) (pgs_cons (pg_name (i := 3) sc_field_octets.nd rfl (Or.inl rfl)) pgs_nil))))
      (pss_one (ps_ret (pe_op op_cat (pe_call (ok__text_octets T) (hr.mono (by decide)) rfl T.g_text_octets T.k_text_octets T.b_text_octets .nil pass0 (pa_cons (pv 2) pa_nil)) (pe_call (ok_number_octets T) (hr.mono (by decide)) rfl T.gnumber_octets T.knumber_octets T.bnumber_octets .nil pass0 (pa_cons (pv 3) (pa_cons pe_int pa_nil)))))))
      pss_nil)
      (pss_one (ps_ret (pe_call (ok_number_octets T) (hr.mono (by decide)) rfl T.gnumber_octets T.knumber_octets T.bnumber_octets .nil pass0 (pa_cons (pe_op op_mod (pv 1) (pe_op op_pow pe_int pe_int)) (pa_cons pe_int pa_nil))))))))), ?_⟩
    refine ⟨_, rfl, _, rfl, kind, v, x, ok, os, rfl, hk, ha, fun H1 s1 => ⟨_, rfl, if_b (fun c => ?_) (fun c => ?_)⟩⟩
    · refine e ?_ H1 s1
      cases ok
      · rfl
      · cases c
    have hok : ok = true := by cases ok; · cases c
                               · rfl
    replace q : ∀ p H', NewL H H' p (os.map V.int) → Q (.ref p) H' := q hok
    replace ha := ha.to s1
    clear e c
    cases hk with
    | num h =>
      rename_i lo hi i
      obtain rfl : v = .int i := ha
      have hne : kind ≠ "text" ∧ kind ≠ "octets" ∧ kind ≠ "bound" := by cases h <;> exact ⟨by decide +kernel, by decide +kernel, by decide +kernel⟩
      refine ⟨_, rfl, rfl, _, rfl, if_f (decide_eq_false fun z => hne.1 (V.str.inj z)) ?_⟩
      refine ⟨_, rfl, rfl, _, rfl, if_f (decide_eq_false fun z => hne.2.1 (V.str.inj z)) ?_⟩
      refine ⟨_, rfl, rfl, _, rfl, if_f (decide_eq_false fun z => hne.2.2 (V.str.inj z)) ?_⟩
      refine ⟨_, rfl, _, _, rfl, rfl, ⟨by decide, by decide, by decide⟩, _, _, rfl, rfl, by show (0 : Int) < 2 ^ (32 : Int).toNat; decide +kernel, ?_⟩
      have e2 : i % 2 ^ (32 : Int).toNat = i % 4294967296 := by rw [show (2 : Int) ^ (32 : Int).toNat = 4294967296 by decide +kernel]
      refine ⟨_, 4, rfl, ?_, by decide, ?_⟩
      · rw [e2]; omega
      · rw [e2]; exact fun p H' hp hs he => q p H' ⟨s1.free hp, s1.trans hs, he⟩
    | txt =>
      rename_i z
      obtain ⟨rfl, hl⟩ := ha
      refine ⟨_, rfl, rfl, _, rfl, if_t (by decide +kernel) ⟨_, rfl, z, rfl, hl, fun p H' n => q p H' ⟨s1.free n.new, s1.trans n.same, n.at_⟩⟩⟩
    | oct =>
      rename_i xs
      obtain ⟨a, rfl, ha, hl⟩ := ha
      refine ⟨_, rfl, rfl, _, rfl, if_f (by decide +kernel) ⟨_, rfl, rfl, _, rfl, if_t (by decide +kernel) ?_⟩⟩
      refine ⟨_, rfl, a, _, rfl, .inl (SqL.of ha), _, 4, rfl, by omega, by decide, fun p H2 hp hs he => ?_⟩
      rw [List.length_map] at he
      refine ⟨_, rfl, p, a, _, _, rfl, rfl, he, hs _ _ ha, ?_, fun p3 n3 => ?_⟩
      · rw [List.length_map, List.length_map, octs_len]; exact len_line (by omega)
      refine ⟨p3, octs xs.length 4 ++ xs, rfl, by rw [upd_same, List.map_append], by rw [List.length_append, octs_len]; omega, fun p4 H4 n4 => q p4 H4 ?_⟩
      exact ⟨s1.free (hs.free ((same_upd n3).free n4.new)), s1.trans (hs.trans ((same_upd n3).trans n4.same)), n4.at_⟩
    | bnd =>
      rename_i z n
      obtain ⟨a, rfl, ha, hl⟩ := ha
      refine ⟨_, rfl, rfl, _, rfl, if_f (by decide +kernel) ⟨_, rfl, rfl, _, rfl, if_f (by decide +kernel) ⟨_, rfl, rfl, _, rfl, if_t (by decide +kernel) ?_⟩⟩⟩
      refine ⟨_, rfl, a, _, rfl, ha, rfl, _, _, rfl, _, _, rfl, rfl, ?_⟩
      refine ⟨_, rfl, z, rfl, hl, fun p2 H2 n2 => ?_⟩
      refine ⟨_, rfl, n, 4, rfl, ?_, by decide, fun p3 H3 n3 s3 e3 => ?_⟩
      · have h2 := (Bool.and_eq_true_iff.mp hok).2
        have h3 := of_decide_eq_true h2
        omega
      refine ⟨p2, p3, _, _, rfl, rfl, s3 _ _ n2.at_, e3, ?_, fun p4 n4 => q p4 _ ⟨?_, ?_, ?_⟩⟩
      · rw [List.length_map, List.length_map, octs_len]; have := textOcts_len z; exact len_line (by omega)
      · exact s1.free (n2.same.free (s3.free n4))
      · exact s1.trans (n2.same.trans (s3.trans (same_upd n4)))
      · rw [upd_same, List.map_append]
/-! ### the law's signs -/
def signs1 : Str := " !\"#$&'()*+,-./0123456789:;<=>?@ABCDEFGHIJKLMNOPQRSTUVWXYZ[\\]^_`"
def signs2 : Str := "abcdefghijklmnopqrstuvwxyz{|}~"
theorem signs_len : (signs1 ++ signs2).cps.toList.length = 94 := by decide +kernel
theorem signs_ok : (signs1 ++ signs2).cps.toList.all (fun c : Nat => codeOk (c : Int)) = true := by decide +kernel
def okCodes (cs : List Nat) : Prop := ∀ c ∈ cs, codeOk (c : Int) = true
theorem at_of' {α : Type} {xs : List α} {z : Int} {j : Nat} {v : α} (e : z = (j : Int)) (h : xs[j]? = some v) : atI xs z = some v := by
  rw [e]
  exact atI_nat h
def signAt (d : Int) : Nat := (signs1 ++ signs2).cps.toList.getD (d % 94).toNat 32
theorem signAt_ok (d : Int) : codeOk (signAt d : Int) = true := by
  have hl := signs_len
  have hj : (d % 94).toNat < (signs1 ++ signs2).cps.toList.length := by omega
  unfold signAt
  rw [List.getD_eq_getElem?_getD, List.getElem?_eq_getElem hj]
  exact List.all_eq_true.mp signs_ok _ (List.getElem_mem hj)
def sp__law_sign (K : PySem.W.Frag) : Sp := fun vs H Q _ => ∃ (d : Int), vs = [.int d] ∧ Q (.str ⟨#[signAt d]⟩) H
theorem sc__law_sign : FnScope ["digit", "signs"] ["digit"] (defScope s__law_sign) := ⟨rfl, rfl, rfl, by decide +kernel, rfl, by decide +kernel, by decide +kernel⟩
theorem ok__law_sign (T : Txt0 P K mg A) : FnOk P w K mg base CX0 1 A.f_law_sign A.d_law_sign ["digit"] (sp__law_sign K) := by
  refine T.F_law_sign.ok sc__law_sign (fun vs H Q E h => ?_) (fun cdv Ar outer s H vs Q E hr h => ?_)
  · obtain ⟨d, rfl, _⟩ := h
    rfl
  · obtain ⟨d, rfl, q⟩ := h
    refine ⟨_, (pss_cons (ps_set (i := 1) sc__law_sign.nd rfl (Or.inl rfl) pe_str)
      (pss_cons (ps_set (i := 1) sc__law_sign.nd rfl (Or.inl rfl) (pe_op op_add_str (pv 1) pe_str))
      (pss_one (ps_ret (pe_ix (r := rIxS) ix_str (pv 1) (pe_op op_mod (pe_callTy call_int1 (by rfl) T.int (by decide +kernel) (pa_cons (pv 0) pa_nil)) pe_int) (fun _ _ => rfl)))))), ?_⟩
    have hl := signs_len
    have hj : (d % 94).toNat < (signs1 ++ signs2).cps.toList.length := by omega
    refine ⟨_, rfl, _, _, rfl, rfl, by decide +kernel, _, rfl, _, rfl, Or.inl ⟨_, rfl, ?_⟩⟩
    refine ⟨_, _, rfl, rfl, by show (0 : Int) < 94; decide, signs1 ++ signs2, _, (signs1 ++ signs2).cps.toList[(d % 94).toNat], rfl, rfl, by decide +kernel, ?_, ?_⟩
    · exact at_of' (by omega) (List.getElem?_eq_getElem hj)
    · unfold signAt at q
      rw [List.getD_eq_getElem?_getD, List.getElem?_eq_getElem hj] at q
      exact q
theorem join_singles (cs : List Nat) : Txt.join ⟨#[]⟩ (cs.map fun c => (⟨#[c]⟩ : Str)) = ⟨cs.toArray⟩ := by
  have h := SX.join_S [] (cs.map fun c => [c])
  rw [List.map_map] at h
  have e : ∀ l : List Nat, TL.joinL [] (l.map fun c => [c]) = l := by
    intro l
    induction l with
    | nil => rfl
    | cons a l ih =>
      cases l with
      | nil => rfl
      | cons b l => exact congrArg (a :: ·) ih
  rw [e] at h
  exact h
/-! ### _law_text, a comprehension -/
def lawText (r : Int) (n : Nat) : List Nat := (List.range n).map fun k : Nat => signAt (r / ((k : Int) % 7 + 1) + (k : Int) * (r % 93 + 1))
theorem lawText_len (r : Int) (n : Nat) : (lawText r n).length = n := by unfold lawText; rw [List.length_map, List.length_range]
theorem lawText_ok (r : Int) (n : Nat) : okCodes (lawText r n) := by
  intro c hc
  obtain ⟨k, _, rfl⟩ := List.mem_map.mp hc
  exact signAt_ok _
def lawTextS (r : Int) (n : Nat) : Str := ⟨(lawText r n).toArray⟩
theorem lawTextS_len (r : Int) (n : Nat) : (lawTextS r n).length = n := by show (lawText r n).toArray.size = n; rw [List.size_toArray, lawText_len]
theorem lawTextS_ok (r : Int) (n : Nat) : okCodes (lawTextS r n).cps.toList := by show okCodes (lawText r n).toArray.toList; simpa using lawText_ok r n
def sp__law_text (K : PySem.W.Frag) : Sp := fun vs H Q _ => ∃ (r : Int) (n : Nat), vs = [.int r, .int (n : Int)] ∧ n < 70000 ∧ ∀ H', Same H H' → Q (.str (lawTextS r n)) H'
theorem sc__law_text : FnScope ["row", "size", "k"] ["row", "size"] (defScope s__law_text) := ⟨rfl, rfl, rfl, by decide +kernel, rfl, by decide +kernel, by decide +kernel⟩
theorem ok__law_text (T : Txt0 P K mg A) : FnOk P w K mg base CX0 2 A.f_law_text A.d_law_text ["row", "size"] (sp__law_text K) := by
  refine T.F_law_text.ok sc__law_text (fun vs H Q E h => ?_) (fun cdv Ar outer s H vs Q E hr h => ?_)
  · obtain ⟨r, n, rfl, _⟩ := h
    rfl
  · obtain ⟨r, n, rfl, hn, q⟩ := h
    refine ⟨_, (pss_one (ps_ret (pe_join pe_str (pe_lc (own := [("k", 2)]) (g := (gName 2)) (tt := tYes) rfl sc__law_text.nd (pi_range1 (by rfl) T.range (pa_cons (pv 1) pa_nil)) (blkOk_by (own := [("k", 2)]) (N := ["row", "size", "k"]) (sc := defScope s__law_text) (by decide +kernel)) (fun _ _ _ _ _ => (pg_name (i := 2) sc__law_text.nd rfl (Or.inl rfl))) (fun _ _ _ _ _ => pts_nil) (fun _ _ _ _ _ => by exact (pe_call (ok__law_sign T) (hr.mono (by decide)) rfl T.g_law_sign T.k_law_sign T.b_law_sign .nil pass0 (pa_cons (pe_op op_add (pe_callTy call_int1 (by rfl) T.int (by decide +kernel) (pa_cons (pe_op op_fdiv (pv 0) (pe_op op_add (pe_op op_mod (pv 2) pe_int) pe_int)) pa_nil)) (pe_op op_mul (pv 2) (pe_op op_add (pe_op op_mod (pe_callTy call_int1 (by rfl) T.int (by decide +kernel) (pa_cons (pv 0) pa_nil)) pe_int) pe_int))) pa_nil))))))), ?_⟩
    refine ⟨⟨_, rfl⟩, _, rfl, (n : Int), rfl, by omega, by omega, fun D hD => ?_⟩
    refine lc_dp (walk_range (lo := 0) (n := (n : Int).toNat)) (K := K) (V0 := H) (H0 := H) (fun k => some (PyData.str ⟨#[signAt (r / ((k : Int) % 7 + 1) + (k : Int) * (r % 93 + 1))]⟩)) [some (.int r), some (.int (n : Int)), none] rfl (Same.refl _) hD (by omega) (fun _ _ => trivial) (fun i x H H' y => y.1) ?_ ?_
    · rintro i x U H1 hi xx ⟨_, rfl⟩ Qy Qn hy _
      refine ⟨rfl, _, rfl, _, rfl, _, _, rfl, rfl, by show (0 : Int) < 7; decide, _, _, rfl, rfl, _, _, rfl, rfl, ⟨?_, ?_⟩, Or.inl ⟨_, rfl, ?_⟩⟩
      · show (0 : Int) < (0 + (i : Int)) % 7 + 1; omega
      · show (0 + (i : Int)) % 7 + 1 < 1073741824; omega
      refine ⟨_, rfl, _, rfl, Or.inl ⟨_, rfl, ?_⟩⟩
      refine ⟨_, _, rfl, rfl, by show (0 : Int) < 93; decide, _, _, rfl, rfl, _, _, rfl, rfl, Or.inr ⟨by omega, by omega⟩, _, _, rfl, rfl, _, rfl, ?_⟩
      rw [Int.zero_add]
      exact hy _ _ _ _ rfl (Ext.refl xx.vh) (.str _)
    · rintro U H1 xs xx hDU dl _
      rw [show (n : Int).toNat = n by omega, fm_some, show ((List.range n).map fun k : Nat => PyData.str ⟨#[signAt (r / ((k : Int) % 7 + 1) + (k : Int) * (r % 93 + 1))]⟩) = ((lawText r n).map fun c => (⟨#[c]⟩ : Str)).map PyData.str from by unfold lawText; rw [List.map_map, List.map_map]; rfl] at dl
      have e := dp_strsV dl
      subst e
      refine ⟨⟨#[]⟩, D, (lawText r n).map fun c => (⟨#[c]⟩ : Str), by decide +kernel, rfl, .inl (SqL.of (xx.vh _ _ hDU)), ?_, ?_⟩
      · have e : ∀ cs : List Nat, ((cs.map fun c => (⟨#[c]⟩ : Str)).map (·.length)).sum = cs.length := by
          intro cs
          induction cs with
          | nil => rfl
          | cons c cs ih => rw [List.map_cons, List.map_cons, List.sum_cons, ih]; show 1 + cs.length = cs.length + 1; omega
        rw [e, lawText_len]; show n + _ * 0 ≤ _; omega
      · rw [join_singles]
        exact q _ xx.hh
/-! ### arguments: kind, value, octets -/
structure Arg where
  kind : Str
  val : AV
  os : List Int
def bodyOf (args : List Arg) : List Int := args.flatMap Arg.os
theorem body_take {args : List Arg} {i : Nat} {g : Arg} (h : args[i]? = some g) : bodyOf (args.take (i + 1)) = bodyOf (args.take i) ++ g.os := fl_take' Arg.os args i g h
theorem body_le (args : List Arg) (i : Nat) : (bodyOf (args.take i)).length ≤ (bodyOf args).length := fl_le' Arg.os args i
theorem body_len_le {args : List Arg} {c : Nat} (h : ∀ g ∈ args, g.os.length ≤ c) : (bodyOf args).length ≤ c * args.length := by
  induction args with
  | nil => exact Nat.zero_le _
  | cons g r ih =>
    show (g.os ++ bodyOf r).length ≤ c * (r.length + 1)
    rw [List.length_append, Nat.mul_succ]
    have := ih fun x hx => h x (List.mem_cons_of_mem _ hx)
    have := h g List.mem_cons_self
    omega
/-! ### encode_message -/
/-- the list of the arguments, all of them of their kinds -/
structure ArgsAt (K : PySem.W.Frag) (H : Hp) (a : Addr) (args : List Arg) : Prop where
  ex : ∃ xs : List V, SqL K H a xs ∧ xs.length = args.length ∧ ∀ (i : Nat) (x : V), xs[i]? = some x → ∃ (g : Arg) (t : Addr) (v : V), args[i]? = some g ∧ x = .ref t ∧ SqT K H t [.str g.kind, v] ∧ ArgAt K H v g.val
  ok : ∀ g ∈ args, ArgSpec g.kind g.val true g.os
theorem ArgsAt.to {K : PySem.W.Frag} {H H' : Hp} {a : Addr} {args : List Arg} (h : ArgsAt K H a args) (s : Same H H') : ArgsAt K H' a args := by
  obtain ⟨xs, h1, h2, h3⟩ := h.ex
  refine ⟨⟨xs, s.seq h1, h2, fun i x hx => ?_⟩, h.ok⟩
  obtain ⟨g, t, v, e1, e2, e3, e4⟩ := h3 i x hx
  exact ⟨g, t, v, e1, e2, s.sqt e3, e4.to s⟩
def msgOcts (n o : Int) (body : List Int) : List Int := octs n 4 ++ octs o 2 ++ octs ((8 + body.length : Nat) : Int) 2 ++ body
def encBad (n o : Int) (args : List Arg) : Prop := ¬ (1 ≤ n ∧ n ≤ 4294967295) ∨ ¬ (0 ≤ o ∧ o ≤ 65535) ∨ 20 < args.length
def encLong (args : List Arg) : Prop := 20480 < 8 + (bodyOf args).length
def sp_encode_message (K : PySem.W.Frag) (B L : Addr) : Sp := fun vs H Q E => ∃ (n o : Int) (a : Addr) (args : List Arg), vs = [.int n, .int o, .ref a] ∧ ArgsAt K H a args ∧ (bodyOf args).length < 60000 ∧ args.length < 60000 ∧
  (encBad n o args → ∀ H', Same H H' → E (.ref B) none H') ∧ (¬ encBad n o args → encLong args → ∀ H', Same H H' → E (.ref L) none H') ∧
  (¬ encBad n o args → ¬ encLong args → ∀ p H', NewL H H' p ((msgOcts n o (bodyOf args)).map V.int) → Q (.ref p) H')
theorem sc_encode_message : FnScope ["number", "opcode", "arguments", "body", "kind", "value", "size"] ["number", "opcode", "arguments"] (defScope s_encode_message) := ⟨rfl, rfl, rfl, by decide +kernel, rfl, by decide +kernel, by decide +kernel⟩
theorem ok_encode_message (T : Txt0 P K mg A) : FnOk P w K mg base (L2.CX P w) 7 A.fencode_message A.dencode_message ["number", "opcode", "arguments"] (sp_encode_message K A.CBadMessage A.CMessageTooLong) := by
  refine T.Fencode_message.okX sc_encode_message (fun vs H Q E h => ?_) (fun cdv Ar outer s H vs Q E hr h => ?_)
  · obtain ⟨n, o, a, args, rfl, _⟩ := h
    rfl
  · obtain ⟨n, o, a, args, rfl, hA, hb, hl, qb, ql, q⟩ := h
    obtain ⟨xs, hS, hxl, hx⟩ := hA.ex
    refine ⟨_, (pss_cons (ps_if (pt_not (pt_val (pe_call (ok_is_integer T) (hr.mono (by decide)) rfl T.gis_integer T.kis_integer T.bis_integer .nil pass0 (pa_cons (pv 0) (pa_cons pe_int (pa_cons (pe_glob (v := .int (4294967295)) rfl T.gGREATEST_NUMBER ⟨_, rfl⟩) pa_nil))))))
      (pss_one (ps_raise rfl (takes_of rfl rfl rfl rfl) (pmk_own PySem.F.excBase_ValueError T.xBadMessage T.gBadMessage T.kBadMessage (raises_own T.bxBadMessage T.txBadMessage) rfl)))
      pss_nil)
      (pss_cons (ps_if (pt_not (pt_val (pe_call (ok_is_integer T) (hr.mono (by decide)) rfl T.gis_integer T.kis_integer T.bis_integer .nil pass0 (pa_cons (pv 1) (pa_cons pe_int (pa_cons (pe_glob (v := .int (65535)) rfl T.gGREATEST_OPCODE ⟨_, rfl⟩) pa_nil))))))
      (pss_one (ps_raise rfl (takes_of rfl rfl rfl rfl) (pmk_own PySem.F.excBase_ValueError T.xBadMessage T.gBadMessage T.kBadMessage (raises_own T.bxBadMessage T.txBadMessage) rfl)))
      pss_nil)
      (pss_cons (ps_if (pt_cmpR op_gt (pe_callB call_len_seq (by rfl) T.len PySem.boot_len (pa_cons (pv 2) pa_nil)) (pe_glob (v := .int (20)) rfl T.gMOST_ARGUMENTS ⟨_, rfl⟩) (nomark _))
      (pss_one (ps_raise rfl (takes_of rfl rfl rfl rfl) (pmk_own PySem.F.excBase_ValueError T.xBadMessage T.gBadMessage T.kBadMessage (raises_own T.bxBadMessage T.txBadMessage) rfl)))
      pss_nil)
      (pss_cons (ps_set (i := 3) sc_encode_message.nd rfl (Or.inl rfl) (pe_lst pa_nil))
      (pss_cons (ps_for (passes_of rfl) rfl (pi_list (pv 2)) (pg_tup rfl (pgs_cons (pg_name (i := 4) sc_encode_message.nd rfl (Or.inl rfl)) (pgs_cons (pg_name (i := 5) sc_encode_message.nd rfl (Or.inl rfl)) pgs_nil)))
      (pss_one (ps_expr (pe_bm PySem.F.plainAttrs_list PySem.F.slot_list_extend PySem.F.type_list_extend mt_extend (pv 3) (pa_cons (pe_call (ok_field_octets T) (hr.mono (by decide)) rfl T.gfield_octets T.kfield_octets T.bfield_octets .nil (passes_call (takes_of rfl rfl rfl rfl) (fun _ _ _ _ h => h)) (pa_cons (pv 4) (pa_cons (pv 5) pa_nil))) pa_nil)))))
      (pss_cons (ps_set (i := 6) sc_encode_message.nd rfl (Or.inl rfl) (pe_op op_add (pe_glob (v := .int (8)) rfl T.gHEADER_SIZE ⟨_, rfl⟩) (pe_callB call_len_seq (by rfl) T.len PySem.boot_len (pa_cons (pv 3) pa_nil))))
      (pss_cons (ps_if (pt_cmpR op_gt (pv 6) (pe_glob (v := .int (20480)) rfl T.gGREATEST_SIZE ⟨_, rfl⟩) (nomark _))
      (pss_one (ps_raise rfl (takes_of rfl rfl rfl rfl) (pmk_own PySem.F.excBase_ValueError T.xMessageTooLong T.gMessageTooLong T.kMessageTooLong (raises_own T.bxMessageTooLong T.txMessageTooLong) rfl)))
      pss_nil)
      (pss_one (ps_ret (pe_op op_cat (pe_op op_cat (pe_op op_cat (pe_call (ok_number_octets T) (hr.mono (by decide)) rfl T.gnumber_octets T.knumber_octets T.bnumber_octets .nil pass0 (pa_cons (pv 0) (pa_cons pe_int pa_nil))) (pe_call (ok_number_octets T) (hr.mono (by decide)) rfl T.gnumber_octets T.knumber_octets T.bnumber_octets .nil pass0 (pa_cons (pv 1) (pa_cons pe_int pa_nil)))) (pe_call (ok_number_octets T) (hr.mono (by decide)) rfl T.gnumber_octets T.knumber_octets T.bnumber_octets .nil pass0 (pa_cons (pv 6) (pa_cons pe_int pa_nil)))) (pv 3))))))))))), ?_⟩
    refine ⟨_, rfl, n, 1, 4294967295, rfl, _, rfl, iteN (fun c => qb (Or.inl c) H (Same.refl H)) (fun c1 => ?_)⟩
    refine ⟨_, rfl, o, 0, 65535, rfl, _, rfl, iteN (fun c => qb (Or.inr (Or.inl c)) H (Same.refl H)) (fun c2 => ?_)⟩
    refine ⟨_, rfl, a, _, rfl, .inl hS, _, _, rfl, rfl, _, rfl, iteP (fun c => qb (Or.inr (Or.inr (by omega))) H (Same.refl H)) (fun c3 => ?_)⟩
    have nb : ¬ encBad n o args := fun z => by
      rcases z with z | z | z
      · exact z c1
      · exact z c2
      · omega
    refine ⟨by decide, fun p hp => ?_⟩
    refine ⟨_, rfl, a, rfl, ⟨_, (same_upd hp).seq hS⟩, for_list (K := K) (a := a) (xs := xs) (fun i σ H' => ∃ v4 v5 : Option V, σ = [some (.int n), some (.int o), some (.ref a), some (.ref p), v4, v5, none] ∧ Same H H' ∧ H' p = some (.lst ((bodyOf (args.take i)).map V.int)))
      ⟨_, _, rfl, same_upd hp, upd_same⟩ (fun i σ H' _ ⟨_, _, _, s, _⟩ => s.seq hS) ?_ ?_⟩
    · rintro i x σ H1 hi ⟨v4, v5, rfl, s1, e1⟩
      obtain ⟨g, t, v, hg, rfl, ht, hv⟩ := hx i x hi
      refine ⟨t, _, rfl, s1.sqt ht, rfl, _, _, rfl, _, _, rfl, rfl, ?_⟩
      refine ⟨_, rfl, .inl ⟨rfl, _, SqL.of e1⟩, ?_⟩
      refine ⟨_, rfl, _, rfl, g.kind, v, g.val, true, g.os, rfl, hA.ok g (List.mem_of_getElem? hg), hv.to s1, fun _ p2 H2 n2 => ?_, fun z => nomatch z⟩
      have e2 := n2.same _ _ e1
      have hbt := body_take hg
      have hbl := body_le args (i + 1)
      rw [hbt, List.length_append] at hbl
      refine ⟨p, p2, _, _, rfl, rfl, e2, n2.at_, ?_, ?_⟩
      · rw [List.length_map, List.length_map]; exact len_line (by omega)
      refine ⟨_, _, rfl, fun b u e => ?_, ?_⟩
      · rw [upd_ne (ne_of_none e hp)]; exact n2.same _ _ (s1 b u e)
      · rw [upd_same, hbt, List.map_append]
    · rintro σ H1 ⟨v4, v5, rfl, s1, e1⟩
      rw [hxl, List.take_length] at e1
      refine ⟨_, rfl, p, _, rfl, .inl (SqL.of e1), _, _, rfl, rfl, ?_⟩
      rw [List.length_map]
      have ec : (8 : Int) + ((bodyOf args).length : Int) = ((8 + (bodyOf args).length : Nat) : Int) := by omega
      refine ⟨_, rfl, _, _, rfl, rfl, _, rfl, iteP (fun c => ?_) (fun c => ?_)⟩
      · exact ql nb (by show 20480 < _; have : (20480 : Int) < 8 + ((bodyOf args).length : Int) := c; omega) H1 s1
      have nl : ¬ encLong args := fun z => c (by show (20480 : Int) < 8 + ((bodyOf args).length : Int); have : 20480 < 8 + (bodyOf args).length := z; omega)
      refine ⟨_, rfl, n, 4, rfl, by omega, by decide, fun p2 H2 h2 s2 e2 => ?_⟩
      refine ⟨_, rfl, o, 2, rfl, by omega, by decide, fun p3 H3 h3 s3 e3 => ?_⟩
      refine ⟨p2, p3, _, _, rfl, rfl, s3 _ _ e2, e3, ?_, fun p4 h4 => ?_⟩
      · rw [List.length_map, List.length_map, octs_len, octs_len]; exact len_line (by decide)
      refine ⟨_, rfl, ((8 + (bodyOf args).length : Nat) : Int), 2, ?_, by omega, by decide, fun p5 H5 h5 s5 e5 => ?_⟩
      · exact congrArg (fun z => [V.int z, V.int 2]) ec
      refine ⟨p4, p5, _, _, rfl, rfl, s5 _ _ upd_same, e5, ?_, fun p6 h6 => ?_⟩
      · rw [List.length_append, List.length_map, List.length_map, List.length_map, octs_len, octs_len, octs_len]; exact len_line (by decide)
      have e1' := same_upd (o := .lst ((octs n 4).map V.int ++ (octs o 2).map V.int ++ (octs ((8 + (bodyOf args).length : Nat) : Int) 2).map V.int)) h6 _ _ (s5 _ _ (same_upd (o := .lst ((octs n 4).map V.int ++ (octs o 2).map V.int)) h4 _ _ (s3 _ _ (s2 _ _ e1))))
      refine ⟨_, rfl, p6, p, _, _, rfl, rfl, upd_same, e1', ?_, fun p7 h7 => q nb nl p7 _ ⟨?_, ?_, ?_⟩⟩
      · rw [List.length_append, List.length_append, List.length_map, List.length_map, List.length_map, List.length_map, octs_len, octs_len, octs_len]; exact len_line (by omega)
      · exact s1.free (s2.free (s3.free ((same_upd h4).free (s5.free ((same_upd h6).free h7)))))
      · exact s1.trans (s2.trans (s3.trans ((same_upd h4).trans (s5.trans ((same_upd h6).trans (same_upd h7))))))
      · rw [upd_same]
        unfold msgOcts
        rw [List.map_append, List.map_append, List.map_append]
/-! ### a rule: a walk of zip of a tuple and a list -/
section
open PySem.Spec PyProof.Rows
def ItzM (K : PySem.W.Frag) (a b : Addr) : It :=
  ⟨fun i H => ∃ (xs ys : List V) (x y : V), SqT K H a xs ∧ SqL K H b ys ∧ xs[i]? = some x ∧ ys[i]? = some y,
    fun i H v H' => ∃ T x y, v = .ref T ∧ H T = none ∧ H' = upd H T (.tup [x, y]) ∧ (∀ xs, SqT K H a xs → xs[i]? = some x) ∧ ∀ ys, SqL K H b ys → ys[i]? = some y,
    fun i H => ∃ xs ys : List V, SqT K H a xs ∧ SqL K H b ys ∧ i ≤ xs.length ∧ i ≤ ys.length ∧ (i = xs.length ∨ i = ys.length)⟩
theorem sepM {z TI TO i1 i2 a b : Addr} (D : ZipApart z TI TO i1 i2 a b) : ZipSep2 z TI TO i1 i2 [i1, a] [i2, b] where
  TIz := D.TIz
  TOz := D.TOz
  TITO := D.TITO
  TIi1 := D.TIi1
  mem1 := by simp
  zf1 := by simp only [List.mem_cons, List.not_mem_nil, or_false]; exact fun h => h.elim D.i1z.symm D.l1z.symm
  Tf1 := by simp only [List.mem_cons, List.not_mem_nil, or_false]; exact fun h => h.elim D.TOi1 D.l1TO.symm
  TIi2 := D.TIi2
  mem2 := by simp
  zf2 := by simp only [List.mem_cons, List.not_mem_nil, or_false]; exact fun h => h.elim D.i2z.symm D.l2z.symm
  Tf2 := by simp only [List.mem_cons, List.not_mem_nil, or_false]; exact fun h => h.elim D.TOi2 D.l2TO.symm
  sep1_2 := by simp only [List.mem_cons, List.not_mem_nil, or_false]; exact fun h => h.elim D.i12 D.l2i1.symm
  sep2_1 := by simp only [List.mem_cons, List.not_mem_nil, or_false]; exact fun h => h.elim D.i12.symm D.l1i2.symm
theorem turn_zipM {P : Program} {w : World} {K : PySem.W.Frag} {elts : List Expr} {kk : Nat} {tpos : Pos} {a b z TI TO i1 i2 : Addr} (D : ZipApart z TI TO i1 i2 a b) :
    Turn P w K (.Tuple elts kk tpos) (ItzM K a b) [z, TI, TO, i1, i2] z (fun i h => IsZip h z TI TO .none ∧ IsTupOf2 h TI (.ref i1) (.ref i2) ∧ (∃ x y, IsTupOf2 h TO x y) ∧ h.IsTupleIter i1 a i ∧ h.IsListIter i2 b i) where
  mem := by simp
  obj := fun i h st c hc => by
    obtain ⟨hz, hTI, ⟨x, y, hTO⟩, ⟨o1, e1, _, d1⟩, ⟨o2, e2, _, d2⟩⟩ := st
    simp only [List.mem_cons, List.not_mem_nil, or_false] at hc
    rcases hc with rfl | rfl | rfl | rfl | rfl
    · exact ⟨_, hz, fun v q => nomatch q⟩
    · exact ⟨_, hTI, fun v q => nomatch q⟩
    · exact ⟨_, hTO, fun v q => nomatch q⟩
    · exact ⟨o1, e1, fun v q => by rw [d1] at q; cases q⟩
    · exact ⟨o2, e2, fun v q => by rw [d2] at q; cases q⟩
  keep := fun i h h' st k => by
    obtain ⟨hz, hTI, ⟨x, y, hTO⟩, h1, h2⟩ := st
    exact ⟨k z (by simp) _ hz, k TI (by simp) _ hTI, ⟨x, y, k TO (by simp) _ hTO⟩, h1.at fun o q => k i1 (by simp) o q, h2.at fun o q => k i2 (by simp) o q⟩
  item := by
    intro X hP hw hK hc i pins s σ H E I hf st hg
    subst hP hw hK
    obtain ⟨hz, hTI, ⟨x0, y0, hTO⟩, h1, h2⟩ := st
    obtain ⟨xs, ys, x, y, hqx, hqy, hx, hy⟩ := hg
    obtain ⟨its, rv, p, _⟩ := I.tuple hqx
    obtain ⟨its2, rv2, p2, _⟩ := I.list hqy
    obtain ⟨u, hu, ru⟩ := rv.get hx
    obtain ⟨u2, hu2, ru2⟩ := rv2.get hy
    have hzl : z < s.heap.objs.size := Heap.lt_size hz
    have hh : X.A.handled = none := I.ok.hd hc
    have g1 : its.toArray[i]? = some u := by simpa using hu
    have g2 : its2.toArray[i]? = some u2 := by simpa using hu2
    refine wpAny_pyNext_zipD2_item (sepM D) (Draws.tuple (A := X.A.in1) hh i1 a D.l1i1 its.toArray) (Draws.list (A := X.A.in1) hh i2 b D.l2i2 its2.toArray) hz hTI hTO ⟨h1, p⟩ ⟨h2, p2.isList⟩
      (Array.getElem?_eq_some_iff.mp g1).1 (Array.getElem?_eq_some_iff.mp g2).1 fun x1 x2 h' tk e1 e2 z' TO' h1' h2' hT hsz hk => ?_
    obtain rfl : u = x1 := Option.some.inj (g1.symm.trans e1)
    obtain rfl : u2 = x2 := Option.some.inj (g2.symm.trans e2)
    refine ⟨_, rfl, wpAny_letOwnedTupleGo_zip (s := { s with heap := h', toks := tk }) z' fun h'' z'' sb => ?_⟩
    have hT2 : h''.get? s.heap.objs.size = some { cls := .type "tuple", data := .seq #[u, u2] } := (sb.2 _ (Nat.ne_of_gt hzl)).trans hT
    have new : ObjOk X.prog X.w (upd H s.heap.objs.size (.tup [x, y])) h'' s.heap.objs.size (.tup [x, y]) :=
      ⟨by show 2 ≤ sizeLine; decide, [u, u2], .cons ru (.cons ru2 .nil), ⟨_, hT2, rfl, _, rfl⟩⟩
    have I1 : Inv X pins σ (upd H s.heap.objs.size (.tup [x, y])) { s with heap := h'', toks := tk } :=
      I.turnedNew (t' := tk) (ch := [z, TI, TO, i1, i2]) (fun c o hb q => by
        simp only [List.mem_cons, List.not_mem_nil, or_false, not_or] at hb
        exact (sb.2 c hb.1).trans (hk c o hb.1 hb.2.2.1 hb.2.2.2.1 hb.2.2.2.2 q)) hf (Nat.le_refl _) new
    refine ⟨.ref s.heap.objs.size, _, I1, rfl, ⟨_, x, y, rfl, I.hok.fresh (Nat.le_refl _), rfl, fun l hl => by rw [I.tuple_inj hl hqx]; exact hx, fun l hl => by rw [I.list_inj hl hqy]; exact hy⟩, ⟨z'', ?_, ⟨u, u2, ?_⟩, ?_, ?_⟩, fun c hcm => ?_⟩
    · exact (sb.2 _ D.TIz).trans (hk _ _ D.TIz D.TITO D.TIi1 D.TIi2 hTI)
    · exact (sb.2 _ D.TOz).trans TO'
    · exact h1'.1.at fun o q => (sb.2 _ D.i1z).trans q
    · exact h2'.1.at fun o q => (sb.2 _ D.i2z).trans q
    · have hlt : c < s.heap.objs.size := by
        simp only [List.mem_cons, List.not_mem_nil, or_false] at hcm
        obtain ⟨_, e1, _⟩ := h1
        obtain ⟨_, e2, _⟩ := h2
        rcases hcm with rfl | rfl | rfl | rfl | rfl
        · exact hzl
        · exact Heap.lt_size hTI
        · exact Heap.lt_size hTO
        · exact Heap.lt_size e1
        · exact Heap.lt_size e2
      rw [upd_ne (Nat.ne_of_lt hlt)]
      exact (hf c hcm).1
  done := by
    intro X hP hw hK hc i pins s σ H E I hf st hg
    subst hP hw hK
    obtain ⟨hz, hTI, ⟨x0, y0, hTO⟩, h1, h2⟩ := st
    obtain ⟨xs, ys, hqx, hqy, l1, l2, hend⟩ := hg
    obtain ⟨its, rv, p, _⟩ := I.tuple hqx
    obtain ⟨its2, rv2, p2, _⟩ := I.list hqy
    have n1 : its.toArray.size = xs.length := by rw [List.size_toArray]; exact rv.length.symm
    have n2 : its2.toArray.size = ys.length := by rw [List.size_toArray]; exact rv2.length.symm
    have hh : X.A.handled = none := I.ok.hd hc
    exact wpAny_pyNext_zipD2_end (sepM D) (Draws.tuple (A := X.A.in1) hh i1 a D.l1i1 its.toArray) (Draws.list (A := X.A.in1) hh i2 b D.l2i2 its2.toArray) hz hTI hTO ⟨h1, p⟩ ⟨h2, p2.isList⟩ (by omega) (by omega) (by omega) fun h' tk hk =>
      ⟨rfl, I.turnedL (t' := tk) (ch := [z, TI, TO, i1, i2]) (fun c o hb q => by
        simp only [List.mem_cons, List.not_mem_nil, or_false, not_or] at hb
        exact hk c o hb.1 hb.2.2.1 hb.2.2.2.1 hb.2.2.2.2 q) hf⟩
  self := fun A i s Q E st h => wpAny_pyIter_zip st.1 h
def iZipM (K : PySem.W.Frag) (ta : TA) : TI := fun σ H R => ta σ H fun vs H1 => ∃ a b xs ys, vs = [.ref a, .ref b] ∧ SqT K H1 a xs ∧ SqL K H1 b ys ∧ R (ItzM K a b) H1
theorem pi_zipM {X : Cx} {e e2 : Expr} {ta : TA} {p pos tpos : Pos} {elts : List Expr} {kk : Nat} (hg : Gl X "zip") (hm : X.mg "zip" = none) (ha : PA X [e, e2] ta)
    (hs : starEach [e, e2] X.env = (false, eval e X.env) :: starEach [e2] X.env := by rfl) (hpl : (backTo pos (starEach [e2] X.env)).any (·.1) = false := by rfl) :
    PI X (.Tuple elts kk tpos) (.Call (.Name "zip" p) [e, e2] [] pos) (iZipM X.K ta) := by
  refine ⟨fun pins s σ H R I h => ?_⟩
  refine Call_ (ld_blt I hg hm PyProof.Rows.boot_zip (PyProof.Rows.callWith_type1 (thn (ha.run pos pins s σ H _ I h) fun us s1 ⟨vs, H1, I1, r1, q1⟩ => ?_) hs hpl))
  obtain ⟨a, b, xs, ys, ex, hqx, hqy, q⟩ := q1
  subst ex
  obtain ⟨u, u2, rfl, r, r2⟩ : ∃ u u2, us = [u, u2] ∧ RelV (.ref a) u ∧ RelV (.ref b) u2 := by
    cases r1 with
    | cons r rr => cases rr with
      | cons r' rr => cases rr; exact ⟨_, _, rfl, r, r'⟩
  obtain rfl : u = Value.ref a := r
  obtain rfl : u2 = Value.ref b := r2
  obtain ⟨its, rv, p1, _⟩ := I1.tuple hqx
  obtain ⟨its2, rv2, p2, _⟩ := I1.list hqy
  obtain ⟨o1, ho1, _⟩ := id p1
  refine zip_begins2 (begins_tuple a its.toArray) (begins_list b its2.toArray) p1 p2.isList fun h' hz hTI hTO h1 h2 hsz hk => wpAny_pyIter_zip hz ?_
  have I2 : Inv X pins σ H1 { s1 with heap := h' } := I1.kept (t' := s1.toks) hk
  refine ⟨s1.heap.objs.size + 4, [s1.heap.objs.size + 4, s1.heap.objs.size + 2, s1.heap.objs.size + 3, s1.heap.objs.size, s1.heap.objs.size + 1], _, _, H1, rfl, I2, turn_zipM (PySem.W.ktu_apart s1.heap.objs.size a b (Heap.lt_size ho1) p2.lt), ⟨hz, hTI, ⟨_, _, hTO⟩, ⟨_, h1, rfl, rfl⟩, ⟨_, h2, rfl, rfl⟩⟩, fun c hcm => ?_, q⟩
  have hle : s1.heap.objs.size ≤ c := by
    simp only [List.mem_cons, List.not_mem_nil, or_false] at hcm
    rcases hcm with rfl | rfl | rfl | rfl | rfl
    · exact Nat.le_add_right _ _
    · exact Nat.le_add_right _ _
    · exact Nat.le_add_right _ _
    · exact Nat.le_refl _
    · exact Nat.le_add_right _ _
  exact I1.fpOk hle (I1.hok.fresh hle)
end
/-! ### a rule: list(zip(a, b)) of any two iterators: the pairs are kept -/
section
open PySem.Spec PyProof.Rows
section
variable {prog : Program} {w : World} {A : Around} {E : Value → Shared → Prop} {s : Shared} {z TI TO i1 i2 T : Addr} {fp1 fp2 : List Addr} {n1 n2 i : Nat} {P1 P2 : Nat → Value → Prop} {St1 St2 : Nat → Heap → Prop} {f : Bool} {oT : Obj}
theorem heldD_item {Q : Value → Shared → Prop} (S : ZipSep2 z TI TO i1 i2 fp1 fp2) (D1 : Draws prog w A i1 fp1 n1 P1 St1) (D2 : Draws prog w A i2 fp2 n2 P2 St2)
    (hz : IsZipHeld s.heap z TI TO T f) (hT : s.heap.get? T = some oT) (hTI : IsTupOf2 s.heap TI (.ref i1) (.ref i2)) (st1 : St1 i s.heap) (st2 : St2 i s.heap) (hlt1 : i < n1) (hlt2 : i < n2)
    (hQ : ∀ x1 x2 h' tk, P1 i x1 → P2 i x2 → IsZipHeld h' z TI TO T true → St1 (i + 1) h' → St2 (i + 1) h' → IsTupOf2 h' s.heap.objs.size x1 x2 →
      (∀ c o, c ≠ z → c ≠ i1 → c ≠ i2 → s.heap.get? c = some o → h'.get? c = some o) → Q (.ref s.heap.objs.size) { s with heap := h', toks := tk }) :
    wpAny (model prog w) A (Builtin.«zip.__next__» ⟨[.ref z], []⟩) (fun fin s' => ∃ v, fin = .done (.ret v) ∧ Q v s') E s := by
  obtain ⟨hp, g, d, tk0, os⟩ := s
  show wpAny _ _ (field (.ref z) 2 >>= _) _ _ _
  refine wpAny_bind (wpAny_field hz rfl (x := .bool false) rfl ?_)
  show wpAny _ _ (field (.ref z) 3 >>= _) _ _ _
  refine wpAny_bind (wpAny_field hz rfl (x := .ref TI) rfl ?_)
  refine wpAny_bind (wpAny_seqItems hTI rfl ?_)
  show wpAny _ _ (Builtin.SmallTypes.ownedTupleIsFree (.ref z) >>= _) _ _ _
  refine wpAny_bind (wpAny_tupleHeld_zip hz hT fun g0 hz0 hs0 => ?_)
  replace hs0 : Heap.SameBut z hp g0 := hs0
  simp only [Bool.false_eq_true, if_false]
  refine wpAny_bind ?_
  rw [← Array.forIn_toList]
  simp only [List.forIn_cons, List.forIn_nil]
  refine wpAny_bind (wpAny_bind (wpAny_holding ?_))
  show wpAny _ _ (Builtin.SmallTypes.nextOf (.ref i1) >>= _) _ _ ⟨g0, g, d, tk0, os⟩
  refine wpAny_bind (D1.item i _ _ _ hlt1 (D1.over st1 hs0 S.zf1) fun x1 p1 tk1 hx1 sn1 hp1 => wpAny_pure ?_)
  replace hp1 : Heap.SameBut i1 g0 p1 := hp1
  refine wpAny_pure ?_
  refine wpAny_bind (wpAny_bind (wpAny_holding ?_))
  show wpAny _ _ (Builtin.SmallTypes.nextOf (.ref i2) >>= _) _ _ ⟨p1, g, d, tk1, os⟩
  refine wpAny_bind (D2.item i _ _ _ hlt2 (D2.over (D2.over st2 hs0 S.zf2) hp1 S.sep1_2) fun x2 p2 tk2 hx2 sn2 hp2 => wpAny_pure ?_)
  replace hp2 : Heap.SameBut i2 p1 p2 := hp2
  refine wpAny_pure (wpAny_pure ?_)
  show wpAny _ _ (newTuple [x1, x2] >>= _) _ _ _
  refine wpAny_bind (wpAny_newTuple ?_)
  have hsz : p2.objs.size = hp.objs.size := by rw [hp2.1, hp1.1, hs0.1]
  have hz2 : IsZipHeld p2 z TI TO T true := hp2.extBut _ _ S.zi2 (hp1.extBut _ _ S.zi1 hz0)
  have hk : ∀ c o, c ≠ z → c ≠ i1 → c ≠ i2 → hp.get? c = some o → p2.get? c = some o := fun c o c0 c1 c2 e => hp2.extBut _ _ c2 (hp1.extBut _ _ c1 (hs0.extBut _ _ c0 e))
  have hj1 : St1 (i + 1) p2 := D1.over sn1 hp2 S.sep2_1
  have up : ∀ c o, p2.get? c = some o → (p2.push { cls := .type "tuple", data := .seq #[x1, x2] }).get? c = some o := fun c o e => Heap.get?_push_of_some _ e
  have hN : IsTupOf2 (p2.push { cls := .type "tuple", data := .seq #[x1, x2] }) p2.objs.size x1 x2 := Heap.get?_push_size _ rfl
  refine wpAny_pure ⟨_, rfl, ?_⟩
  show Q (.ref p2.objs.size) _
  rw [hsz] at hN ⊢
  exact hQ x1 x2 _ tk2 hx1 hx2 (up _ _ hz2) (D1.frame _ _ _ hj1 fun b _ o e => up b o e) (D2.frame _ _ _ sn2 fun b _ o e => up b o e) hN fun c o c0 c1 c2 e => up c o (hk c o c0 c1 c2 e)
theorem heldD_end {Q : Fin → Shared → Prop} (S : ZipSep2 z TI TO i1 i2 fp1 fp2) (D1 : Draws prog w A i1 fp1 n1 P1 St1) (D2 : Draws prog w A i2 fp2 n2 P2 St2)
    (hz : IsZipHeld s.heap z TI TO T f) (hT : s.heap.get? T = some oT) (hTI : IsTupOf2 s.heap TI (.ref i1) (.ref i2)) (st1 : St1 i s.heap) (st2 : St2 i s.heap) (hi : i = n1)
    (hE : ∀ h' e, (∀ c o, c ≠ z → c ≠ i1 → s.heap.get? c = some o → h'.get? c = some o) → (∃ o, h'.get? e = some o ∧ o.cls = .type "StopIteration") → E (.ref e) { s with heap := h' }) :
    wpAny (model prog w) A (Builtin.«zip.__next__» ⟨[.ref z], []⟩) Q E s := by
  subst hi
  show wpAny _ _ (field (.ref z) 2 >>= _) _ _ _
  refine wpAny_bind (wpAny_field hz rfl (x := .bool false) rfl ?_)
  show wpAny _ _ (field (.ref z) 3 >>= _) _ _ _
  refine wpAny_bind (wpAny_field hz rfl (x := .ref TI) rfl ?_)
  refine wpAny_bind (wpAny_seqItems hTI rfl ?_)
  show wpAny _ _ (Builtin.SmallTypes.ownedTupleIsFree (.ref z) >>= _) _ _ _
  refine wpAny_bind (wpAny_tupleHeld_zip hz hT fun g0 hz0 hs0 => ?_)
  simp only [Bool.false_eq_true, if_false]
  refine wpAny_bind ?_
  rw [← Array.forIn_toList]
  simp only [List.forIn_cons, List.forIn_nil]
  refine wpAny_bind (wpAny_bind (wpAny_holding ?_))
  show wpAny _ _ (Builtin.SmallTypes.nextOf (.ref i1) >>= _) _ _ _
  refine wpAny_bind (D1.done _ _ _ (D1.over st1 hs0 S.zf1) fun h2 e hs2 he => ?_)
  exact hE h2 e (fun c o c0 c1 x => hs2 _ _ c1 (hs0.extBut _ _ c0 x)) he
theorem heldD_next {Q : Option Value → Shared → Prop} (S : ZipSep2 z TI TO i1 i2 fp1 fp2) (D1 : Draws prog w A.in1 i1 fp1 n1 P1 St1) (D2 : Draws prog w A.in1 i2 fp2 n2 P2 St2)
    (hz : IsZipHeld s.heap z TI TO T f) (hT : s.heap.get? T = some oT) (hTI : IsTupOf2 s.heap TI (.ref i1) (.ref i2)) (st1 : St1 i s.heap) (st2 : St2 i s.heap) (hlt1 : i < n1) (hlt2 : i < n2)
    (hQ : ∀ x1 x2 h' tk, P1 i x1 → P2 i x2 → IsZipHeld h' z TI TO T true → St1 (i + 1) h' → St2 (i + 1) h' → IsTupOf2 h' s.heap.objs.size x1 x2 →
      (∀ c o, c ≠ z → c ≠ i1 → c ≠ i2 → s.heap.get? c = some o → h'.get? c = some o) → Q (some (.ref s.heap.objs.size)) { s with heap := h', toks := tk }) :
    wpAny (model prog w) A (pyNext (.ref z)) Q E s := by
  have hTy : s.TypeIs (.ref z) "zip" := ⟨_, hz, rfl⟩
  unfold pyNext
  exact wpAny_bind (wpAny_attempt (wpAny_callSpecial?_slot (name := Str.ofString "__next__") hTy F.slot_zip_next
    (wpAny_call_entry F.slot_zip_next hTy F.entry_zip_next
      (heldD_item S D1 D2 hz hT hTI st1 st2 hlt1 hlt2 fun x1 x2 h' tk a1 a2 a3 a4 a5 a6 a7 => wpAny_pure (hQ x1 x2 h' tk a1 a2 a3 a4 a5 a6 a7)) (F.args_zip_next_1 _))))
theorem heldD_stop {Q : Option Value → Shared → Prop} (S : ZipSep2 z TI TO i1 i2 fp1 fp2) (D1 : Draws prog w A.in1 i1 fp1 n1 P1 St1) (D2 : Draws prog w A.in1 i2 fp2 n2 P2 St2)
    (hz : IsZipHeld s.heap z TI TO T f) (hT : s.heap.get? T = some oT) (hTI : IsTupOf2 s.heap TI (.ref i1) (.ref i2)) (st1 : St1 i s.heap) (st2 : St2 i s.heap) (hi : i = n1)
    (hQ : ∀ h', (∀ c o, c ≠ z → c ≠ i1 → s.heap.get? c = some o → h'.get? c = some o) → Q none { s with heap := h' }) :
    wpAny (model prog w) A (pyNext (.ref z)) Q E s := by
  have hTy : s.TypeIs (.ref z) "zip" := ⟨_, hz, rfl⟩
  unfold pyNext
  refine wpAny_bind (wpAny_attempt (wpAny_callSpecial?_slot (name := Str.ofString "__next__") hTy F.slot_zip_next
    (wpAny_call_entry F.slot_zip_next hTy F.entry_zip_next (heldD_end S D1 D2 hz hT hTI st1 st2 hi fun h' e hk he => ?_) (F.args_zip_next_1 _))))
  obtain ⟨o, ho, hc⟩ := he
  refine wpAny_bind (wpAny_isInstance (T := "StopIteration") (b := true) ⟨o, ho, hc⟩ isSubtype_stop ?_)
  exact wpAny_pure (hQ _ hk)
end
section
variable {X : Cx} {pins : List (Addr × Obj)} {σ : L2.St} {z TI TO i1 i2 a b S : Addr} {xs ys : List V} {H0 : Hp}
structure LpE (X : Cx) (pins : List (Addr × Obj)) (σ : L2.St) (S : Addr) (xs ys : List V) (H0 : Hp) (i : Nat) (Ts : List Addr) (H : Hp) (s : Shared) (c : Nat) : Prop where
  inv : Inv X pins σ H s
  same : Same H0 H
  len : Ts.length = i
  tup : ∀ (j : Nat) (t : Addr), Ts[j]? = some t → ∃ x y, xs[j]? = some x ∧ ys[j]? = some y ∧ H t = some (.tup [x, y]) ∧ H0 t = none
  lst : s.heap.get? S = some { cls := .type "list", dict := none, data := .seq (Ts.map Value.ref).toArray c, slots := #[] }
  fpS : FpOk X pins H S
structure LpI (X : Cx) (pins : List (Addr × Obj)) (σ : L2.St) (z TI TO i1 i2 a b S : Addr) (xs ys : List V) (H0 : Hp) (i : Nat) (Ts : List Addr) (H : Hp) (s : Shared) (c : Nat) : Prop where
  e : LpE X pins σ S xs ys H0 i Ts H s c
  fp : ∀ c ∈ [z, TI, TO, i1, i2], FpOk X pins H c
  lt : ∀ c ∈ [z, TI, TO, i1, i2], c < s.heap.objs.size
  tie : IsTupOf2 s.heap TI (.ref i1) (.ref i2)
  it1 : s.heap.IsTupleIter i1 a i
  it2 : s.heap.IsListIter i2 b i
  zs : (IsZip s.heap z TI TO .none ∧ ∃ u v, IsTupOf2 s.heap TO u v) ∨ ∃ T f x y, IsZipHeld s.heap z TI TO T f ∧ H T = some (.tup [x, y])
theorem fpOk_upd {H : Hp} {T c : Addr} {o : HO} (h : FpOk X pins H c) (n : c ≠ T) : FpOk X pins (upd H T o) c := ⟨by rw [upd_ne n]; exact h.1, h.2⟩
theorem lp_push {H : Hp} {Ts : List Addr} {s : Shared} {c i tk : Nat} {x y : V} {u u2 : Value} {h' : Heap} {T : Addr} {f : Bool} (D : ZipApart z TI TO i1 i2 a b) (hS : S ∉ [z, TI, TO, i1, i2]) (L : LpI X pins σ z TI TO i1 i2 a b S xs ys H0 i Ts H s c)
    (hx : xs[i]? = some x) (hy : ys[i]? = some y) (ru : RelV x u) (ru2 : RelV y u2)
    (z' : IsZipHeld h' z TI TO T f) (hTT : ∃ x1 y1, upd H s.heap.objs.size (.tup [x, y]) T = some (.tup [x1, y1])) (j1 : h'.IsTupleIter i1 a (i + 1)) (j2 : h'.IsListIter i2 b (i + 1)) (hT : IsTupOf2 h' s.heap.objs.size u u2)
    (hk : ∀ c o, c ≠ z → c ≠ TO → c ≠ i1 → c ≠ i2 → s.heap.get? c = some o → h'.get? c = some o) :
    ∃ c', LpI X pins σ z TI TO i1 i2 a b S xs ys H0 (i + 1) (Ts ++ [s.heap.objs.size]) (upd H s.heap.objs.size (.tup [x, y])) { s with heap := h'.update S (Obj.mapSeq (·.push (.ref s.heap.objs.size))), toks := tk } c' := by
  simp only [List.mem_cons, List.not_mem_nil, or_false, not_or] at hS
  obtain ⟨sz, sTI, sTO, s1, s2⟩ := hS
  have fr : H s.heap.objs.size = none := L.e.inv.hok.fresh (Nat.le_refl _)
  have hS' := hk S _ sz sTO s1 s2 L.e.lst
  have e2 := Heap.get?_update_self (Obj.mapSeq (·.push (Value.ref s.heap.objs.size))) hS' rfl
  have oth : ∀ c o, c ≠ S → h'.get? c = some o → (h'.update S (Obj.mapSeq (·.push (Value.ref s.heap.objs.size)))).get? c = some o := fun c o n e => (Heap.get?_update_other _ _ (Ne.symm n)).trans e
  have nS : S ≠ s.heap.objs.size := Nat.ne_of_lt (Heap.lt_size L.e.lst)
  have nt : ∀ c u, H c = some u → c ≠ s.heap.objs.size := fun c u e n => by rw [n, fr] at e; cases e
  have hsz : s.heap.objs.size < (h'.update S (Obj.mapSeq (·.push (Value.ref s.heap.objs.size)))).objs.size := Heap.lt_size (oth _ _ nS.symm hT)
  have new : ObjOk X.prog X.w (upd H s.heap.objs.size (.tup [x, y])) (h'.update S (Obj.mapSeq (·.push (Value.ref s.heap.objs.size)))) s.heap.objs.size (.tup [x, y]) :=
    ⟨by show 2 ≤ sizeLine; decide, [u, u2], .cons ru (.cons ru2 .nil), ⟨_, oth _ _ nS.symm hT, rfl, _, rfl⟩⟩
  have I1 : Inv X pins σ (upd H s.heap.objs.size (.tup [x, y])) { s with heap := h'.update S (Obj.mapSeq (·.push (Value.ref s.heap.objs.size))), toks := tk } :=
    L.e.inv.turnedNew (t' := tk) (ch := [S, z, TI, TO, i1, i2]) (fun c o hb q => by
      simp only [List.mem_cons, List.not_mem_nil, or_false, not_or] at hb
      exact oth c o hb.1 (hk c o hb.2.1 hb.2.2.2.1 hb.2.2.2.2.1 hb.2.2.2.2.2 q)) (fun c hc => by
      rcases List.mem_cons.mp hc with rfl | hc
      · exact L.e.fpS
      · exact L.fp c hc) (Nat.le_refl _) new
  have ea : (List.map Value.ref (Ts ++ [s.heap.objs.size])).toArray = (List.map Value.ref Ts).toArray.push (.ref s.heap.objs.size) := by simp
  obtain ⟨c', e3⟩ : ∃ c', (h'.update S (Obj.mapSeq (·.push (Value.ref s.heap.objs.size)))).get? S = some { cls := .type "list", dict := none, data := .seq (List.map Value.ref (Ts ++ [s.heap.objs.size])).toArray c', slots := #[] } := ⟨_, by rw [ea]; exact e2⟩
  refine ⟨c', ⟨I1, fun c u e => ?_, ?_, fun j t hj => ?_, e3, fpOk_upd L.e.fpS nS⟩, fun c hc => fpOk_upd (L.fp c hc) (Nat.ne_of_lt (L.lt c hc)), fun c hc => Nat.lt_trans (L.lt c hc) hsz, oth _ _ (Ne.symm sTI) (hk _ _ D.TIz D.TITO D.TIi1 D.TIi2 L.tie), j1.at fun o e => oth _ o (Ne.symm s1) e, j2.at fun o e => oth _ o (Ne.symm s2) e, .inr ?_⟩
  · rw [upd_ne (nt _ _ (L.e.same c u e))]; exact L.e.same c u e
  · rw [List.length_append, L.e.len]; rfl
  · by_cases hlt : j < Ts.length
    · rw [List.getElem?_append_left hlt] at hj
      obtain ⟨x1, y1, e1, e2, e3, e4⟩ := L.e.tup j t hj
      exact ⟨x1, y1, e1, e2, by rw [upd_ne (nt _ _ e3)]; exact e3, e4⟩
    · rw [List.getElem?_append_right (by omega)] at hj
      have hj0 : j - Ts.length = 0 := by
        cases hd : j - Ts.length with
        | zero => rfl
        | succ m => rw [hd] at hj; cases hj
      rw [hj0] at hj
      injection hj with hj
      have hji : j = i := by have := L.e.len; omega
      rw [← hj, hji]
      refine ⟨x, y, hx, hy, upd_same, ?_⟩
      cases q : H0 s.heap.objs.size with
      | none => rfl
      | some o => have := L.e.same _ _ q; rw [fr] at this; cases this
  · obtain ⟨x1, y1, e⟩ := hTT
    exact ⟨T, f, x1, y1, oth _ _ (Ne.symm sz) z', e⟩
theorem lp_end {H : Hp} {Ts : List Addr} {s : Shared} {c i tk : Nat} {h' : Heap} (hS : S ∉ [z, TI, TO, i1, i2]) (L : LpI X pins σ z TI TO i1 i2 a b S xs ys H0 i Ts H s c)
    (hk : ∀ c o, c ≠ z → c ≠ TO → c ≠ i1 → c ≠ i2 → s.heap.get? c = some o → h'.get? c = some o) : LpE X pins σ S xs ys H0 i Ts H { s with heap := h', toks := tk } c := by
  simp only [List.mem_cons, List.not_mem_nil, or_false, not_or] at hS
  obtain ⟨sz, sTI, sTO, s1, s2⟩ := hS
  refine ⟨L.e.inv.turnedL (t' := tk) (ch := [z, TI, TO, i1, i2]) (fun c o hb q => ?_) L.fp, L.e.same, L.e.len, L.e.tup, hk S _ sz sTO s1 s2 L.e.lst, L.e.fpS⟩
  simp only [List.mem_cons, List.not_mem_nil, or_false, not_or] at hb
  exact hk c o hb.1 hb.2.2.1 hb.2.2.2.1 hb.2.2.2.2 q
theorem lp_loop {A : Around} {R : Result → Shared → Prop} (hh : A.handled = none) (D : ZipApart z TI TO i1 i2 a b) (hS : S ∉ [z, TI, TO, i1, i2]) (qx : SqT X.K H0 a xs) (qy : SqL X.K H0 b ys) (hl : xs.length = ys.length) (hz : xs.length ≤ 1000000) (res : Value) :
    ∀ (k i : Nat) (s : Shared) (H : Hp) (Ts : List Addr) (c : Nat), xs.length - i = k → i ≤ xs.length → LpI X pins σ z TI TO i1 i2 a b S xs ys H0 i Ts H s c →
    (∀ s' H' Ts' c', LpE X pins σ S xs ys H0 xs.length Ts' H' s' c' → R (.ok (.ret res)) s') →
    codeAny (model X.prog X.w) A (.builtin "list.extend.loop" ⟨[.ref S, .ref z, res], []⟩) R s := by
  intro k
  induction k with
  | zero =>
    intro i s H Ts c hk hi L hR
    have hin : i = xs.length := by omega
    subst hin
    obtain ⟨its, rv, p, _⟩ := L.e.inv.tuple (L.e.same.sqt qx)
    obtain ⟨its2, rv2, p2, _⟩ := L.e.inv.list (L.e.same.seq qy)
    have n1 : its.toArray.size = xs.length := by rw [List.size_toArray]; exact rv.length.symm
    have n2 : its2.toArray.size = ys.length := by rw [List.size_toArray]; exact rv2.length.symm
    refine codeAny_builtin F.entry_extend_loop ?_
    rw [Around.under_plainId F.plain_extend_loop _]
    show wpAny _ A.in1 (pyNext (.ref z) >>= _) _ _ s
    rcases L.zs with ⟨hz0, u, v, hTO⟩ | ⟨T, f, x0, y0, hz0, hT0⟩
    · exact wpAny_bind (wpAny_pyNext_zipD2_end (sepM D) (Draws.tuple (A := A.in1.in1) hh i1 a D.l1i1 its.toArray) (Draws.list (A := A.in1.in1) hh i2 b D.l2i2 its2.toArray) hz0 L.tie hTO ⟨L.it1, p⟩ ⟨L.it2, p2.isList⟩ (by omega) (by omega) (by omega) fun h' tk hk =>
        wpAny_pure (hR _ _ _ _ (lp_end hS L hk)))
    · obtain ⟨_, _, ⟨oT, hoT, _⟩, _⟩ := L.e.inv.tuple (SqT.of hT0)
      exact wpAny_bind (heldD_stop (sepM D) (Draws.tuple (A := A.in1.in1) hh i1 a D.l1i1 its.toArray) (Draws.list (A := A.in1.in1) hh i2 b D.l2i2 its2.toArray) hz0 hoT L.tie ⟨L.it1, p⟩ ⟨L.it2, p2.isList⟩ n1.symm fun h' hk =>
        wpAny_pure (hR _ _ _ _ (lp_end (tk := s.toks) hS L fun c o h0 _ h1 _ e => hk c o h0 h1 e)))
  | succ k ih =>
    intro i s H Ts c hk hi L hR
    have hlt : i < xs.length := by omega
    have hlt2 : i < ys.length := by omega
    obtain ⟨its, rv, p, _⟩ := L.e.inv.tuple (L.e.same.sqt qx)
    obtain ⟨its2, rv2, p2, _⟩ := L.e.inv.list (L.e.same.seq qy)
    have hx : xs[i]? = some xs[i] := List.getElem?_eq_getElem hlt
    have hy : ys[i]? = some ys[i] := List.getElem?_eq_getElem hlt2
    obtain ⟨u, hu, ru⟩ := rv.get hx
    obtain ⟨u2, hu2, ru2⟩ := rv2.get hy
    have g1 : its.toArray[i]? = some u := by simpa using hu
    have g2 : its2.toArray[i]? = some u2 := by simpa using hu2
    have hS2 := hS
    simp only [List.mem_cons, List.not_mem_nil, or_false, not_or] at hS2
    have hts := L.e.len
    refine codeAny_builtin F.entry_extend_loop ?_
    rw [Around.under_plainId F.plain_extend_loop _]
    show wpAny _ A.in1 (pyNext (.ref z) >>= _) _ _ s
    rcases L.zs with ⟨hz0, u0, v0, hTO⟩ | ⟨T, f, x0, y0, hz0, hT0⟩
    · refine wpAny_bind (wpAny_pyNext_zipD2_item (sepM D) (Draws.tuple (A := A.in1.in1) hh i1 a D.l1i1 its.toArray) (Draws.list (A := A.in1.in1) hh i2 b D.l2i2 its2.toArray) hz0 L.tie hTO ⟨L.it1, p⟩ ⟨L.it2, p2.isList⟩
        (Array.getElem?_eq_some_iff.mp g1).1 (Array.getElem?_eq_some_iff.mp g2).1 fun x1 x2 h' tk e1 e2 z' TO' h1' h2' hT hsz hk => ?_)
      obtain rfl : u = x1 := Option.some.inj (g1.symm.trans e1)
      obtain rfl : u2 = x2 := Option.some.inj (g2.symm.trans e2)
      obtain ⟨c', L2⟩ := lp_push (tk := tk) (f := false) D hS L hx hy ru ru2 z' ⟨_, _, upd_same⟩ h1'.1 h2'.1 hT hk
      have hS' := hk S _ hS2.1 hS2.2.2.1 hS2.2.2.2.1 hS2.2.2.2.2 L.e.lst
      show wpAny _ A.in1 (updateSeq S (·.push (.ref s.heap.objs.size)) >>= _) _ _ _
      refine wpAny_bind ?_
      refine wpAny_updateSeq (s := { s with heap := h', toks := tk }) hS' rfl (wpAny_pure ⟨plainId_quiet F.plain_extend_loop _, ih (i + 1) _ _ _ _ (by omega) hlt L2 hR⟩) ?_ ?_
      · simp only [List.size_toArray, List.length_map]; rw [sizeLine_eq]; omega
      · simp only [Array.size_push, List.size_toArray, List.length_map]; rw [sizeLine_eq]; omega
    · obtain ⟨_, _, ⟨oT, hoT, _⟩, _⟩ := L.e.inv.tuple (SqT.of hT0)
      refine wpAny_bind (heldD_next (sepM D) (Draws.tuple (A := A.in1.in1) hh i1 a D.l1i1 its.toArray) (Draws.list (A := A.in1.in1) hh i2 b D.l2i2 its2.toArray) hz0 hoT L.tie ⟨L.it1, p⟩ ⟨L.it2, p2.isList⟩
        (Array.getElem?_eq_some_iff.mp g1).1 (Array.getElem?_eq_some_iff.mp g2).1 fun x1 x2 h' tk e1 e2 z' h1' h2' hT hk => ?_)
      obtain rfl : u = x1 := Option.some.inj (g1.symm.trans e1)
      obtain rfl : u2 = x2 := Option.some.inj (g2.symm.trans e2)
      have nT : T ≠ s.heap.objs.size := fun n => by rw [n, L.e.inv.hok.fresh (Nat.le_refl _)] at hT0; cases hT0
      obtain ⟨c', L2⟩ := lp_push (tk := tk) (f := true) D hS L hx hy ru ru2 z' ⟨x0, y0, by rw [upd_ne nT]; exact hT0⟩ h1'.1 h2'.1 hT (fun c o h0 _ h1 h2 e => hk c o h0 h1 h2 e)
      have hS' := hk S _ hS2.1 hS2.2.2.2.1 hS2.2.2.2.2 L.e.lst
      show wpAny _ A.in1 (updateSeq S (·.push (.ref s.heap.objs.size)) >>= _) _ _ _
      refine wpAny_bind ?_
      refine wpAny_updateSeq (s := { s with heap := h', toks := tk }) hS' rfl (wpAny_pure ⟨plainId_quiet F.plain_extend_loop _, ih (i + 1) _ _ _ _ (by omega) hlt L2 hR⟩) ?_ ?_
      · simp only [List.size_toArray, List.length_map]; rw [sizeLine_eq]; omega
      · simp only [Array.size_push, List.size_toArray, List.length_map]; rw [sizeLine_eq]; omega
theorem lp_touch {H : Hp} {Ts : List Addr} {s : Shared} {c c' i tk : Nat} {h' : Heap} (hS : S ∉ [z, TI, TO, i1, i2]) (L : LpI X pins σ z TI TO i1 i2 a b S xs ys H0 i Ts H s c)
    (hsz : s.heap.objs.size ≤ h'.objs.size) (hk : ∀ c o, c ≠ S → s.heap.get? c = some o → h'.get? c = some o) (e : h'.get? S = some { cls := .type "list", dict := none, data := .seq (Ts.map Value.ref).toArray c', slots := #[] }) :
    LpI X pins σ z TI TO i1 i2 a b S xs ys H0 i Ts H { s with heap := h', toks := tk } c' := by
  simp only [List.mem_cons, List.not_mem_nil, or_false, not_or] at hS
  obtain ⟨sz, sTI, sTO, s1, s2⟩ := hS
  refine ⟨⟨L.e.inv.turnedL (t' := tk) (ch := [S]) (fun c o hb q => hk c o (fun n => hb (by simp [n])) q) (fun c hc => by rw [List.mem_singleton.mp hc]; exact L.e.fpS), L.e.same, L.e.len, L.e.tup, e, L.e.fpS⟩, L.fp, fun c hc => Nat.lt_of_lt_of_le (L.lt c hc) hsz,
    hk _ _ (Ne.symm sTI) L.tie, L.it1.at fun o q => hk _ o (Ne.symm s1) q, L.it2.at fun o q => hk _ o (Ne.symm s2) q, ?_⟩
  rcases L.zs with ⟨hz, u, v, hTO⟩ | ⟨T, f, x, y, hz, hT⟩
  · exact .inl ⟨hk _ _ (Ne.symm sz) hz, u, v, hk _ _ (Ne.symm sTO) hTO⟩
  · exact .inr ⟨T, f, x, y, hk _ _ (Ne.symm sz) hz, hT⟩
theorem lp_take {H : Hp} {Ts : List Addr} {s : Shared} {c i : Nat} (L : LpE X pins σ S xs ys H0 i Ts H s c) (hi : i ≤ 1000000) : Inv X pins σ (upd H S (.lst (Ts.map V.ref))) s := by
  have vr : ∀ l : List Addr, Vals (l.map V.ref) (l.map Value.ref) := fun l => by
    induction l with
    | nil => exact .nil
    | cons t r ih => exact .cons rfl ih
  refine L.inv.take (t' := s.toks) (h' := s.heap) (fun _ _ _ e => e) L.fpS ⟨?_, Ts.map Value.ref, c, vr Ts, L.lst⟩
  rw [List.length_map, L.len, sizeLine_eq]; omega
theorem zip_no_len : typeLookup (.type "zip") "__len__" = pure none := am_miss_of_fast (by decide +kernel)
theorem zip_no_hint : typeLookup (.type "zip") "__length_hint__" = pure none := am_miss_of_fast (by decide +kernel)
theorem lp_extend {A : Around} {R : Result → Shared → Prop} (hh : A.handled = none) (D : ZipApart z TI TO i1 i2 a b) (hS : S ∉ [z, TI, TO, i1, i2]) (qx : SqT X.K H0 a xs) (qy : SqL X.K H0 b ys) (hl : xs.length = ys.length) (hz : xs.length ≤ 1000000) (res : Value)
    {s : Shared} {H : Hp} {c : Nat} (L : LpI X pins σ z TI TO i1 i2 a b S xs ys H0 0 [] H s c) (hz0 : IsZip s.heap z TI TO .none)
    (hR : ∀ s' H' Ts' c', LpE X pins σ S xs ys H0 xs.length Ts' H' s' c' → R (.ok (.ret res)) s') :
    wpAny (model X.prog X.w) A.in1 (Builtin.List.listExtendWith (.ref S) (.ref z) res)
      (fun fin s' => match fin with | .done f => R (.ok f) s' | .again c' => c'.quiet = true ∧ codeAny (model X.prog X.w) A c' R s') (fun e s' => R (.error e) s') s := by
  have hTy : s.TypeIs (.ref z) "zip" := ⟨_, hz0, rfl⟩
  have hS2 := hS
  simp only [List.mem_cons, List.not_mem_nil, or_false, not_or] at hS2
  have hL := L.e.lst
  unfold Builtin.List.listExtendWith
  refine wpAny_bind (wpAny_typeOf hTy ?_)
  have h1 : Builtin.List.listSameRef (.ref S) (.ref z) = false := by simp [Builtin.List.listSameRef, hS2.1]
  have h2 : (Value.type "zip" == Value.type "list") = false := by decide
  have h3 : (Value.type "zip" == Value.type "tuple") = false := by decide
  simp only [h1, h2, h3, Bool.or_false, Bool.false_eq_true, if_false]
  refine wpAny_bind (wpAny_pyIter_zip hz0 ?_)
  refine wpAny_bind (wpAny_holding ?_)
  unfold Builtin.List.listLengthHint
  refine wpAny_bind (wpAny_specialOf hTy zip_no_len ?_)
  show wpAny _ A.in1 (specialOf (Value.ref z) (Str.ofString "__length_hint__") >>= _) _ _ _
  refine wpAny_bind (wpAny_specialOf hTy zip_no_hint ?_)
  refine wpAny_pure ?_
  show wpAny _ A.in1 (rule "list.extend.makes-room" >>= fun _ => Builtin.List.listTouch (.ref S) >>= fun _ =>
    again (.builtin "list.extend.loop" ⟨[.ref S, .ref z, res], []⟩)) _ _ _
  refine wpAny_bind (wpAny_rule ?_)
  refine wpAny_bind ?_
  show wpAny _ A.in1 (updateSeq S (·.push .none) >>= fun _ => updateSeq S (·.pop)) _ _ _
  refine wpAny_bind (wpAny_updateSeq hL rfl ?_)
  have e2 := Heap.get?_update_self (Obj.mapSeq (·.push Value.none)) hL rfl
  refine wpAny_updateSeq (hz := by seq_fits) e2 rfl ?_
  have e3 := Heap.get?_update_self (Obj.mapSeq (·.pop)) e2 rfl
  have oth : ∀ b o, b ≠ S → s.heap.get? b = some o → ((s.heap.update S (Obj.mapSeq (·.push Value.none))).update S (Obj.mapSeq (·.pop))).get? b = some o :=
    fun b o hb e => (Heap.get?_update_other _ _ (Ne.symm hb)).trans ((Heap.get?_update_other _ _ (Ne.symm hb)).trans e)
  have L3 := lp_touch (s := s) (tk := s.toks) (h' := (s.heap.update S (Obj.mapSeq (·.push Value.none))).update S (Obj.mapSeq (·.pop))) hS L (by rw [(Heap.SameBut.update ..).1, (Heap.SameBut.update ..).1]; exact Nat.le_refl _) oth e3
  exact wpAny_pure ⟨plainId_quiet F.plain_extend_loop _, lp_loop hh D hS qx qy hl hz res xs.length 0 _ H [] _ (by omega) (Nat.zero_le _) L3 hR⟩
theorem lp_init {A : Around} {R : Result → Shared → Prop} (hh : A.handled = none) (D : ZipApart z TI TO i1 i2 a b) {s : Shared} (qx : SqT X.K H0 a xs) (qy : SqL X.K H0 b ys) (hl : xs.length = ys.length) (hz : xs.length ≤ 1000000)
    (I : Inv X pins σ H0 s) (fp : ∀ c ∈ [z, TI, TO, i1, i2], FpOk X pins H0 c) (lt : ∀ c ∈ [z, TI, TO, i1, i2], c < s.heap.objs.size) (tie : IsTupOf2 s.heap TI (.ref i1) (.ref i2)) (it1 : s.heap.IsTupleIter i1 a 0) (it2 : s.heap.IsListIter i2 b 0)
    (hz0 : IsZip s.heap z TI TO .none) {u v : Value} (hTO : IsTupOf2 s.heap TO u v)
    (hR : ∀ s' H' Ts' c', LpE X pins σ s.heap.objs.size xs ys H0 xs.length Ts' H' s' c' → R (.ok (.ret .none)) s') :
    wpAny (model X.prog X.w) A.in1 (Builtin.«list.__init__» ⟨[.ref s.heap.objs.size, .ref z], []⟩)
      (fun fin s' => match fin with | .done f => R (.ok f) s' | .again c' => c'.quiet = true ∧ codeAny (model X.prog X.w) A c' R s') (fun e s' => R (.error e) s') { s with heap := s.heap.push { cls := .type "list", data := .seq #[] } } := by
  have e0 : (s.heap.push { cls := .type "list", data := .seq #[] }).get? s.heap.objs.size = some { cls := .type "list", data := .seq #[] } := Heap.get?_push_size _ rfl
  show wpAny _ _ (do let old ← Builtin.List.listItems (.ref s.heap.objs.size); Builtin.List.listUpdate (.ref s.heap.objs.size) (fun _ => #[]); letGo old.toList.reverse; Builtin.List.listExtendWith (.ref s.heap.objs.size) (.ref z) .none) _ _ _
  refine wpAny_bind ?_
  unfold Builtin.List.listItems
  refine wpAny_bind (wpAny_seqItems e0 rfl (wpAny_pure ?_))
  show wpAny _ _ (updateSeq s.heap.objs.size (fun _ => #[]) >>= fun _ => letGo (#[] : Array Value).toList.reverse >>= fun _ => Builtin.List.listExtendWith (.ref s.heap.objs.size) (.ref z) .none) _ _ _
  refine wpAny_bind (wpAny_updateSeq e0 rfl ?_)
  have e2 := Heap.get?_update_self (Obj.mapSeq (fun _ => (#[] : Array Value))) e0 rfl
  have oth : ∀ c o, s.heap.get? c = some o → ((s.heap.push { cls := .type "list", data := .seq #[] }).update s.heap.objs.size (Obj.mapSeq (fun _ => (#[] : Array Value)))).get? c = some o := fun c o e =>
    (Heap.get?_update_other _ _ (Nat.ne_of_gt (Heap.lt_size e))).trans (Heap.get?_push_of_some _ e)
  refine wpAny_bind (wpAny_letGo ?_)
  have hS : s.heap.objs.size ∉ [z, TI, TO, i1, i2] := fun h => Nat.lt_irrefl _ (lt _ h)
  have sz : s.heap.objs.size ≤ ((s.heap.push { cls := .type "list", data := .seq #[] }).update s.heap.objs.size (Obj.mapSeq (fun _ => (#[] : Array Value)))).objs.size := by
    rw [(Heap.SameBut.update ..).1, Heap.size_push]; exact Nat.le_succ _
  have L : LpI X pins σ z TI TO i1 i2 a b s.heap.objs.size xs ys H0 0 [] H0 { s with heap := (s.heap.push { cls := .type "list", data := .seq #[] }).update s.heap.objs.size (Obj.mapSeq (fun _ => (#[] : Array Value))) } _ :=
    ⟨⟨I.kept (t' := s.toks) oth, Same.refl _, rfl, fun j t h => (by cases h), e2, I.fpOk (Nat.le_refl _) (I.hok.fresh (Nat.le_refl _))⟩, fp, fun c hc => Nat.lt_of_lt_of_le (lt c hc) sz, oth _ _ tie, it1.at fun o q => oth _ o q, it2.at fun o q => oth _ o q, .inl ⟨oth _ _ hz0, u, v, oth _ _ hTO⟩⟩
  exact lp_extend hh D hS qx qy hl hz .none L (oth _ _ hz0) hR
theorem lp_call {A : Around} {E : Value → Shared → Prop} {Q : Value → Shared → Prop} (hh : A.handled = none) (D : ZipApart z TI TO i1 i2 a b) {s : Shared} (qx : SqT X.K H0 a xs) (qy : SqL X.K H0 b ys) (hl : xs.length = ys.length) (hz : xs.length ≤ 1000000)
    (I : Inv X pins σ H0 s) (fp : ∀ c ∈ [z, TI, TO, i1, i2], FpOk X pins H0 c) (lt : ∀ c ∈ [z, TI, TO, i1, i2], c < s.heap.objs.size) (tie : IsTupOf2 s.heap TI (.ref i1) (.ref i2)) (it1 : s.heap.IsTupleIter i1 a 0) (it2 : s.heap.IsListIter i2 b 0)
    (hz0 : IsZip s.heap z TI TO .none) {u v : Value} (hTO : IsTupOf2 s.heap TO u v)
    (hQ : ∀ (s' : Shared) (H' : Hp) (Ts' : List Addr), Inv X pins σ (upd H' s.heap.objs.size (.lst (Ts'.map V.ref))) s' → Same H0 H' → Ts'.length = xs.length → (∀ (j : Nat) (t : Addr), Ts'[j]? = some t → ∃ x y, xs[j]? = some x ∧ ys[j]? = some y ∧ H' t = some (.tup [x, y]) ∧ H0 t = none) →
      H' s.heap.objs.size = none → Q (.ref s.heap.objs.size) s') :
    wpAny (model X.prog X.w) A (call (.type "list") [.ref z]) Q E s := by
  refine callType_codes (Q₁ := fun obj s₁ => obj = .ref s.heap.objs.size ∧ s₁ = { s with heap := s.heap.push { cls := .type "list", data := .seq #[] } }) F.called_list (F.typeCall_list_1 _) F.entry_list_init
    (code_list_new _ ⟨rfl, rfl⟩) fun obj s₁ h₁ => ?_
  obtain ⟨rfl, rfl⟩ := h₁
  refine ⟨⟨_, Heap.get?_push_size _ rfl, rfl⟩, F.args_list_init_2 _ _, lp_init (A := A.in1) hh D qx qy hl hz I fp lt tie it1 it2 hz0 hTO fun s' H' Ts' c' L => ?_⟩
  exact ⟨rfl, hQ s' H' Ts' (lp_take L hz) L.same L.len L.tup L.fpS.1⟩
end
def tListZip (K : PySem.W.Frag) (ta : TA) : TE := fun σ H Q => ta σ H fun vs H1 => ∃ (a b : Addr) (xs ys : List V), vs = [.ref a, .ref b] ∧ SqT K H1 a xs ∧ SqL K H1 b ys ∧ xs.length = ys.length ∧ xs.length ≤ 1000000 ∧
  ∀ (p : Addr) (Ts : List Addr) (H' : Hp), Same H1 H' → Ts.length = xs.length → (∀ (j : Nat) (t : Addr), Ts[j]? = some t → ∃ x y, xs[j]? = some x ∧ ys[j]? = some y ∧ H' t = some (.tup [x, y]) ∧ H1 t = none) → H' p = none → Q (.ref p) (upd H' p (.lst (Ts.map V.ref)))
theorem pe_listZip {X : Cx} {e e2 : Expr} {ta : TA} {p pos p2 pos2 : Pos} (hcalm : X.calm = true) (hgl : Gl X "list") (hml : X.mg "list" = none) (hg : Gl X "zip") (hm : X.mg "zip" = none) (ha : PA X [e, e2] ta)
    (hs : starEach [e, e2] X.env = (false, eval e X.env) :: starEach [e2] X.env := by rfl) (hpl : (backTo pos2 (starEach [e2] X.env)).any (·.1) = false := by rfl)
    (na : starEach [(.Call (.Name "zip" p2) [e, e2] [] pos2 : Expr)] X.env = (false, eval (.Call (.Name "zip" p2) [e, e2] [] pos2) X.env) :: starEach [] X.env := by rfl) :
    PE X (.Call (.Name "list" p) [.Call (.Name "zip" p2) [e, e2] [] pos2] [] pos) (tListZip X.K ta) := by
  refine ⟨fun pins s σ H Q I h => ?_⟩
  refine Call_ (ld_blt I hgl hml boot_list (PyProof.Rows.callWith_type1 (args_cons ?_ na) na))
  refine Call_ (ld_blt I hg hm PyProof.Rows.boot_zip (PyProof.Rows.callWith_type1 (thn (ha.run pos2 pins s σ H _ I h) fun us s1 ⟨vs, H1, I1, r1, q1⟩ => ?_) hs hpl))
  obtain ⟨a, b, xs, ys, ex, hqx, hqy, hl, hz, q⟩ := q1
  subst ex
  obtain ⟨u, u2, rfl, r, r2⟩ : ∃ u u2, us = [u, u2] ∧ RelV (.ref a) u ∧ RelV (.ref b) u2 := by
    cases r1 with
    | cons r rr => cases rr with
      | cons r' rr => cases rr; exact ⟨_, _, rfl, r, r'⟩
  obtain rfl : u = Value.ref a := r
  obtain rfl : u2 = Value.ref b := r2
  obtain ⟨its, rv, p1, _⟩ := I1.tuple hqx
  obtain ⟨its2, rv2, p2, _⟩ := I1.list hqy
  obtain ⟨o1, ho1, _⟩ := id p1
  refine zip_begins2 (begins_tuple a its.toArray) (begins_list b its2.toArray) p1 p2.isList fun h' hz0 hTI hTO h1 h2 hsz hk => args_nil ?_
  have I2 : Inv X pins σ H1 { s1 with heap := h' } := I1.kept (t' := s1.toks) hk
  have mem : ∀ c ∈ [s1.heap.objs.size + 4, s1.heap.objs.size + 2, s1.heap.objs.size + 3, s1.heap.objs.size, s1.heap.objs.size + 1], s1.heap.objs.size ≤ c ∧ c < h'.objs.size := fun c hcm => by
    simp only [List.mem_cons, List.not_mem_nil, or_false] at hcm
    rw [hsz]
    rcases hcm with rfl | rfl | rfl | rfl | rfl
    · exact ⟨Nat.le_add_right _ _, Nat.add_lt_add_left (by decide) _⟩
    · exact ⟨Nat.le_add_right _ _, Nat.add_lt_add_left (by decide) _⟩
    · exact ⟨Nat.le_add_right _ _, Nat.add_lt_add_left (by decide) _⟩
    · exact ⟨Nat.le_refl _, Nat.lt_add_of_pos_right (by decide)⟩
    · exact ⟨Nat.le_add_right _ _, Nat.add_lt_add_left (by decide) _⟩
  refine lp_call (I2.ok.hd hcalm) (PySem.W.ktu_apart s1.heap.objs.size a b (Heap.lt_size ho1) p2.lt) hqx hqy hl hz I2 (fun c hc => I1.fpOk (mem c hc).1 (I1.hok.fresh (mem c hc).1)) (fun c hc => (mem c hc).2) hTI ⟨_, h1, rfl, rfl⟩ ⟨_, h2, rfl, rfl⟩ hz0 hTO fun s' H' Ts' I3 sm ln tp hn => ?_
  exact ⟨.ref _, _, I3, rfl, q _ Ts' H' sm ln tp hn⟩
end
/-! ### the tables of events; event_octets -/
def evD (rows : List (Str × List Str)) : PyData := .tuple (rows.map fun r => .tuple [.str r.1, .tuple (r.2.map PyData.str)])
theorem dpall_strs {K : PySem.W.Frag} {H : Hp} : ∀ {vs : List V} {ss : List Str}, DpAll K H vs (ss.map PyData.str) → vs = ss.map V.str
  | _, [], h => by cases h; rfl
  | _, s :: r, h => by
    cases h with
    | cons h1 h2 => rw [dp_str h1, dpall_strs h2]; rfl
def sp__opcode_of (K : PySem.W.Frag) : Sp := fun vs H Q _ => ∃ (ar : Addr) (rows : List (Str × List Str)) (name : Str) (j : Nat) (row : Str × List Str), vs = [.ref ar, .str name] ∧ Dp K H (.ref ar) (evD rows) ∧ rows.length < 1000 ∧
  rows[j]? = some row ∧ row.1 = name ∧ (∀ (m : Nat) (row' : Str × List Str), m < j → rows[m]? = some row' → row'.1 ≠ name) ∧ ∀ H', Same H H' → Q (.int (j : Nat)) H'
theorem sc__opcode_of : FnScope ["rows", "name", "row"] ["rows", "name"] (defScope s__opcode_of) := ⟨rfl, rfl, rfl, by decide +kernel, rfl, by decide +kernel, by decide +kernel⟩
theorem ok__opcode_of (T : Txt0 P K mg A) : FnOk P w K mg base CX0 1 A.f_opcode_of A.d_opcode_of ["rows", "name"] (sp__opcode_of K) := by
  refine T.F_opcode_of.ok sc__opcode_of (fun vs H Q E h => ?_) (fun cdv Ar outer s H vs Q E hr h => ?_)
  · obtain ⟨_, _, _, _, _, rfl, _⟩ := h
    rfl
  · obtain ⟨ar, rows, name, j, row, rfl, dr, hl, hj, hn, hm, q⟩ := h
    obtain ⟨pr, zs, e0, qs, ds⟩ := dp_tuple dr
    cases e0
    have hzl : zs.length = rows.length := by rw [dpall_len ds, List.length_map]
    refine ⟨_, (pss_one (ps_ret (pe_bm PySem.F.plainAttrs_list PySem.F.slot_list_index PySem.F.type_list_index mt_index (pe_lc (own := [("row", 2)]) (g := (gName 2)) (tt := tYes) rfl sc__opcode_of.nd (pi_tup (pv 0)) (blkOk_by (own := [("row", 2)]) (N := ["rows", "name", "row"]) (sc := defScope s__opcode_of) (by decide +kernel)) (fun _ _ _ _ _ => (pg_name (i := 2) sc__opcode_of.nd rfl (Or.inl rfl))) (fun _ _ _ _ _ => pts_nil) (fun _ _ _ _ _ => by exact (pe_ix (r := rIxT K) ix_tup (pv 2) pe_int (fun _ _ => rfl)))) (pa_cons (pv 1) pa_nil)))), ?_⟩
    refine ⟨_, rfl, ar, rfl, ⟨_, qs⟩, fun D hD => ?_⟩
    refine lc_dp (walk_tup (K := K) (a := ar) (xs := zs)) (K := K) (V0 := H) (H0 := H) (fun i => (rows[i]?).map fun r => PyData.str r.1) _ rfl (Same.refl _) hD (by omega) (fun H' s => s.sqt qs) (fun i x H H' y => y.1) ?_ ?_
    · rintro n z U2 H4 hn' xx ⟨_, hz⟩ Qy Qn hy hno
      obtain ⟨d, hd, dv⟩ := dpall_get ds hz
      rw [List.getElem?_map] at hd
      obtain ⟨r, hr, rfl⟩ := Option.map_eq_some_iff.mp hd
      obtain ⟨pt, ws, rfl, qw, dw⟩ := dp_tuple dv
      cases dw with
      | cons d1 d2 =>
        obtain rfl := dp_str d1
        have qw' := xx.hh.sqt qw
        walk_at "go"
        exact hy (.str r.1) _ _ _ (by rw [hr]; rfl) (Ext.refl xx.vh) (.str _)
    · rintro U2 H4 ws xx uD dA _
      rw [hzl, fm_map] at dA
      have ew : ws = (rows.map fun r => r.1).map V.str := dpall_strs (by rw [List.map_map]; exact dA)
      subst ew
      have eD := xx.vh _ _ uD
      refine ⟨.inl ⟨rfl, _, SqL.of eD⟩, ?_⟩
      walk_at "go"
      have hj2 : ((rows.map fun r => r.1).map V.str)[j]? = some (.str row.1) := by rw [List.getElem?_map, List.getElem?_map, hj]; rfl
      refine ⟨D, _, .str name, j, .str row.1, rfl, rfl, SqL.of eD, rfl, ?_, hj2, ?_, fun m z' hlt hz' => ?_, ?_⟩
      · rw [List.map_map, List.all_map]; exact List.all_eq_true.mpr fun _ _ => rfl
      · show (row.1 == name) = true
        rw [hn]; exact beq_self_eq_true _
      · rw [List.getElem?_map, List.getElem?_map] at hz'
        obtain ⟨y, hy, rfl⟩ := Option.map_eq_some_iff.mp hz'
        obtain ⟨r', hr', rfl⟩ := Option.map_eq_some_iff.mp hy
        show (r'.1 == name) = false
        exact beq_eq_false_iff_ne.mpr (hm m r' hlt hr')
      · exact q _ xx.hh
def sp_event_octets (C : Addr) (w : World) (K : PySem.W.Frag) (B L : Addr) : Sp := fun vs H Q E => ∃ (n : Int) (intf name : Str) (va ar : Addr) (rows : List (Str × List Str)) (j : Nat) (row : Str × List Str) (xs : List V) (args : List Arg), vs = [.int n, .str intf, .str name, .ref va] ∧
  KDct K w C intf (.ref ar) ∧ (∀ H, Dp K H (.ref ar) (evD rows)) ∧ rows.length < 1000 ∧ rows[j]? = some row ∧ row.1 = name ∧ (∀ (m : Nat) (row' : Str × List Str), m < j → rows[m]? = some row' → row'.1 ≠ name) ∧
  SqL K H va xs ∧ xs.length = row.2.length ∧ args.length = row.2.length ∧ row.2.length ≤ 20 ∧ (∀ (i : Nat) (x : V), xs[i]? = some x → ∃ (g : Arg) (k : Str), args[i]? = some g ∧ row.2[i]? = some k ∧ g.kind = k ∧ ArgAt K H x g.val) ∧ (∀ g ∈ args, ArgSpec g.kind g.val true g.os) ∧ (bodyOf args).length < 60000 ∧
  (encBad n j args → ∀ H', Same H H' → E (.ref B) none H') ∧ (¬ encBad n j args → encLong args → ∀ H', Same H H' → E (.ref L) none H') ∧
  (¬ encBad n j args → ¬ encLong args → ∀ p H', NewL H H' p ((msgOcts n j (bodyOf args)).map V.int) → Q (.ref p) H')
theorem sc_event_octets : FnScope ["number", "interface", "name", "values", "rows", "opcode", "kinds"] ["number", "interface", "name", "values"] (defScope s_event_octets) := ⟨rfl, rfl, rfl, by decide +kernel, rfl, by decide +kernel, by decide +kernel⟩
theorem ok_event_octets (T : Txt0 P K mg A) : FnOk P w K mg base (L2.CX P w) 8 A.fevent_octets A.devent_octets ["number", "interface", "name", "values"] (sp_event_octets A.a_EVENTS w K A.CBadMessage A.CMessageTooLong) := by
  refine T.Fevent_octets.okX sc_event_octets (fun vs H Q E h => ?_) (fun cdv Ar outer s H vs Q E hr h => ?_)
  · obtain ⟨_, _, _, _, _, _, _, _, _, _, rfl, _⟩ := h
    rfl
  · obtain ⟨n, intf, name, va, ar, rows, j, row, xs, args, rfl, hd, dr, hl, hj, hn, hm, qx, hxl, hal, h20, hx, hok, hb, qb, ql, q⟩ := h
    obtain ⟨ar', zs, e0, qs, ds⟩ := dp_tuple (dr H)
    cases e0
    refine ⟨_, (pss_cons (ps_set (i := 4) sc_event_octets.nd rfl (Or.inl rfl) (pe_ix (r := rIxD K w) ix_kdict (pe_glob (v := .ref A.a_EVENTS) rfl T.g_EVENTS rfl) (pv 1) (fun _ _ => rfl)))
      (pss_cons (ps_set (i := 5) sc_event_octets.nd rfl (Or.inl rfl) (pe_call (ok__opcode_of T) (hr.mono (by decide)) rfl T.g_opcode_of T.k_opcode_of T.b_opcode_of .nil pass0 (pa_cons (pv 4) (pa_cons (pv 2) pa_nil))))
      (pss_cons (ps_set (i := 6) sc_event_octets.nd rfl (Or.inl rfl) (pe_ix (r := rIxT K) ix_tup (pe_ix (r := rIxT K) ix_tup (pv 4) (pv 5) (fun _ _ => rfl)) pe_int (fun _ _ => rfl)))
      (pss_one (ps_ret (pe_call (ok_encode_message T) (hr.mono (by decide)) rfl T.gencode_message T.kencode_message T.bencode_message .nil (passes_call (takes_of rfl rfl rfl rfl) (fun _ _ _ _ h => h)) (pa_cons (pv 0) (pa_cons (pv 5) (pa_cons (pe_listZip rfl (by rfl) T.list (by rfl) T.zip (pa_cons (pv 6) (pa_cons (pv 3) pa_nil))) pa_nil))))))))), ?_⟩
    have hjz : (rows.map fun r => PyData.tuple [.str r.1, .tuple (r.2.map PyData.str)])[j]? = some (.tuple [.str row.1, .tuple (row.2.map PyData.str)]) := by rw [List.getElem?_map, hj]; rfl
    obtain ⟨z, hz, dz⟩ := dpall_get' ds hjz
    obtain ⟨pt, ws, rfl, qw, dw⟩ := dp_tuple dz
    cases dw with
    | cons d1 d2 => cases d2 with
      | cons d2 d3 =>
        cases d3
        obtain rfl := dp_str d1
        obtain ⟨pk, ks, rfl, qk, dk⟩ := dp_tuple d2
        obtain rfl := dpall_strs dk
        walk_at "go"
        refine ⟨_, _, _, rfl, rfl, hd, ?_⟩
        walk_at "go"
        refine ⟨ar, rows, name, j, row, rfl, dr H, hl, hj, hn, hm, fun H1 s1 => ?_⟩
        have qw1 := s1.sqt qw
        walk_at "go"
        refine ⟨ar, _, _, .ref pt, rfl, rfl, s1.sqt qs, atI_nat hz, ?_⟩
        walk_at "go"
        refine ⟨pk, va, _, xs, rfl, s1.sqt qk, s1.seq qx, by rw [List.length_map]; exact hxl.symm, by rw [List.length_map]; omega, fun p Ts H2 sm ln tp hp => ?_⟩
        have s2 : Same H (upd H2 p (.lst (Ts.map V.ref))) := (s1.trans sm).trans (same_upd hp)
        walk_at "go"
        rw [List.length_map] at ln
        refine ⟨n, j, p, args, rfl, ⟨⟨_, SqL.of upd_same, by rw [List.length_map]; omega, fun i x hi => ?_⟩, hok⟩, hb, by omega, fun c H3 s3 => qb c H3 (s2.trans s3), fun c d H3 s3 => ql c d H3 (s2.trans s3), fun c d p3 H3 nl => q c d p3 H3 ⟨s2.free nl.new, s2.trans nl.same, nl.at_⟩⟩
        rw [List.getElem?_map] at hi
        obtain ⟨t, ht, rfl⟩ := Option.map_eq_some_iff.mp hi
        obtain ⟨x1, y1, e1, e2, e3, e4⟩ := tp i t ht
        rw [List.getElem?_map] at e1
        obtain ⟨k, hk, rfl⟩ := Option.map_eq_some_iff.mp e1
        obtain ⟨g, k', hg, hk', egk, ag⟩ := hx i y1 e2
        have ek : k = k' := Option.some.inj (hk.symm.trans hk')
        refine ⟨g, t, y1, hg, rfl, (same_upd hp).sqt (SqT.of (by rw [egk, ← ek]; exact e3)), ag.to s2⟩
/-! ### views that grow while objects outside of them change -/
structure Grow (U H U' H' : Hp) : Prop where
  vv : Same U U'
  vh : Same U' H'
  nw : ∀ a, U' a ≠ none → U a ≠ none ∨ H a = none
theorem Ext.grow {U H U' H' : Hp} (x : Ext U H U' H') : Grow U H U' H' := ⟨x.vv, x.vh, x.nw⟩
theorem Grow.refl {U H : Hp} (s : Same U H) : Grow U H U H := ⟨Same.refl U, s, fun _ h => Or.inl h⟩
theorem Grow.keepOut {U H U' H' : Hp} (x : Grow U H U' H') {D : Addr} (h : U D = none) (hd : H D ≠ none) : U' D = none := by
  cases e : U' D with
  | none => rfl
  | some o =>
    rcases x.nw D (by rw [e]; exact fun z => by cases z) with q | q
    · exact absurd h q
    · exact absurd q hd
/-- an object outside of the view changes -/
theorem Grow.poke {U H U' H' : Hp} (x : Grow U H U' H') {D : Addr} {o : HO} (h : U' D = none) : Grow U H U' (upd H' D o) :=
  ⟨x.vv, fun b u e => by
    have hb : b ≠ D := fun z => by rw [z, h] at e; cases e
    rw [upd_ne hb]; exact x.vh b u e, x.nw⟩
theorem same_poke {U H : Hp} (s : Same U H) {D : Addr} {o : HO} (h : U D = none) : Same U (upd H D o) := fun b u e => by
  have hb : b ≠ D := fun z => by rw [z, h] at e; cases e
  rw [upd_ne hb]; exact s b u e
/-- what was new behind a change of what the view has not is new ahead of it, if that was there -/
theorem Grow.from_ {U H H1 U' H' : Hp} (x : Grow U H1 U' H') (h : ∀ a, H1 a = none → H a = none) : Grow U H U' H' :=
  ⟨x.vv, x.vh, fun a e => (x.nw a e).imp id (h a)⟩
theorem Grow.trans {U H U1 H1 U2 H2 : Hp} (a : Grow U H U1 H1) (b : Grow U1 H1 U2 H2) (h : ∀ a, H1 a = none → H a = none) : Grow U H U2 H2 :=
  ⟨a.vv.trans b.vv, b.vh, fun x e => by
    rcases b.nw x e with q | q
    · exact a.nw x q
    · exact Or.inr (h x q)⟩
theorem none_poke {H : Hp} {D : Addr} {o : HO} (hd : H D ≠ none) : ∀ a, upd H D o a = none → H a = none := fun a e => by
  by_cases h : a = D
  · subst h; rw [upd_same] at e; cases e
  · rw [upd_ne h] at e; exact e
theorem none_same {H H' : Hp} (s : Same H H') : ∀ a, H' a = none → H a = none := fun a e => s.free e
/-! ### Fault.__init__ -/
def sp_Fault___init__ (C : Addr) : Sp := fun vs H Q _ => ∃ (a : Addr) (n c : Int) (wd : Str), vs = [.ref a, .int n, .int c, .str wd] ∧ H a = some (exo a C none) ∧
  ∀ (dx : Addr) (H' : Hp), (∀ b u, H b = some u → b ≠ a → H' b = some u) → ExV H' a C dx [("words", .str wd), ("code", .int c), ("number", .int n)] → Q .non H'
theorem sc_Fault___init__ : SupScope ["self", "number", "code", "words"] ["self", "number", "code", "words"] (defScope s_Fault___init__) := ⟨rfl, rfl, rfl, by decide +kernel, rfl, by decide +kernel, by decide +kernel, by decide +kernel, rfl, rfl⟩
theorem ok_Fault___init__ (T : Txt0 P K mg A) : FnOk P w K mg base CX0 1 A.fFault___init__ A.dFault___init__ ["self", "number", "code", "words"] (sp_Fault___init__ A.CFault) := by
  refine T.FFault___init__.ok T.prg (ar := _) (rest := _) sc_Fault___init__ (fun vs H Q E h => ?_) rfl rfl rfl T.super (fun _ _ _ => rfl) (fun _ => rfl) (fun _ => rfl) (fun cc cda Ar outer s H vs Q E hr h => ?_)
  · obtain ⟨_, _, _, _, rfl, _⟩ := h
    rfl
  · obtain ⟨a, n, c, wd, rfl, ea, q⟩ := h
    refine ⟨_, _, a, A.CFault, _, pa_cons (pv 3) pa_nil, pss_cons (ps_ost (pv 0) (pv 1)) (pss_cons (ps_ost (pv 0) (pv 2)) (pss_one (ps_ost (pv 0) (pv 3)))), rfl, ea, T.vFault, ?_⟩
    refine ⟨_, rfl, (by show 1 ≤ 1000; decide), ea, ?_⟩
    refine ⟨_, rfl, _, rfl, a, A.CFault, rfl, T.oFault, T.nFault_number, .inl ⟨ea, fun dx hdx hne => ?_⟩⟩
    have o1 : (upd (upd H dx (exd dx [("number", .int n)])) a (exo a A.CFault (some dx))) a = some (exo a A.CFault (some dx)) := upd_same
    have d1 : (upd (upd H dx (exd dx [("number", .int n)])) a (exo a A.CFault (some dx))) dx = some (exd dx [("number", .int n)]) := by rw [upd_ne hne, upd_same]
    have k1 : ∀ b u, H b = some u → b ≠ a → (upd (upd H dx (exd dx [("number", .int n)])) a (exo a A.CFault (some dx))) b = some u := fun b u e hb => by rw [upd_ne hb, upd_ne (ne_of_none e hdx)]; exact e
    generalize upd (upd H dx (exd dx [("number", .int n)])) a (exo a A.CFault (some dx)) = H1 at o1 d1 k1 ⊢
    refine ⟨_, rfl, _, rfl, a, A.CFault, rfl, T.oFault, T.nFault_code, .inr ⟨dx, _, o1, d1, (by show 1 ≤ 900; decide), ?_⟩⟩
    have o2 : (upd H1 dx (exd dx [("code", .int c), ("number", .int n)])) a = some (exo a A.CFault (some dx)) := by rw [upd_ne hne.symm]; exact o1
    refine ⟨_, rfl, _, rfl, a, A.CFault, rfl, T.oFault, T.nFault_words, .inr ⟨dx, _, o2, upd_same, (by show 2 ≤ 900; decide), ?_⟩⟩
    refine q dx _ (fun b u e hb => ?_) ⟨by rw [upd_ne hne.symm]; exact o2, upd_same⟩
    have hbd : b ≠ dx := ne_of_none e hdx
    rw [upd_ne hbd, upd_ne hbd]; exact k1 b u e hb
/-! ### an event that is written, told shortly -/
def EvAt (C : Addr) (w : World) (K : PySem.W.Frag) (H : Hp) (n : Int) (intf name : Str) (va : Addr) (os : List Int) : Prop := ∃ (ar : Addr) (rows : List (Str × List Str)) (j : Nat) (row : Str × List Str) (xs : List V) (args : List Arg),
  KDct K w C intf (.ref ar) ∧ (∀ H, Dp K H (.ref ar) (evD rows)) ∧ rows.length < 1000 ∧ rows[j]? = some row ∧ row.1 = name ∧ (∀ (m : Nat) (row' : Str × List Str), m < j → rows[m]? = some row' → row'.1 ≠ name) ∧
  SqL K H va xs ∧ xs.length = row.2.length ∧ args.length = row.2.length ∧ row.2.length ≤ 20 ∧ (∀ (i : Nat) (x : V), xs[i]? = some x → ∃ (g : Arg) (k : Str), args[i]? = some g ∧ row.2[i]? = some k ∧ g.kind = k ∧ ArgAt K H x g.val) ∧ (∀ g ∈ args, ArgSpec g.kind g.val true g.os) ∧ (bodyOf args).length < 60000 ∧
  ¬ encBad n j args ∧ ¬ encLong args ∧ os = msgOcts n j (bodyOf args)
theorem EvAt.go {C : Addr} {w : World} {K : PySem.W.Frag} {H : Hp} {n : Int} {intf name : Str} {va : Addr} {os : List Int} {B L : Addr} {Q : VK} {E : XK} (h : EvAt C w K H n intf name va os) (q : ∀ p H', NewL H H' p (os.map V.int) → Q (.ref p) H') :
    sp_event_octets C w K B L [.int n, .str intf, .str name, .ref va] H Q E := by
  obtain ⟨ar, rows, j, row, xs, args, h1, h2, h3, h4, h5, h6, h7, h8, h9, h10, h11, h12, h13, h14, h15, rfl⟩ := h
  exact ⟨n, intf, name, va, ar, rows, j, row, xs, args, rfl, h1, h2, h3, h4, h5, h6, h7, h8, h9, h10, h11, h12, h13, fun z => absurd z h14, fun _ z => absurd z h15, fun _ _ => q⟩
theorem EvAt.to {C : Addr} {w : World} {K : PySem.W.Frag} {H H' : Hp} {n : Int} {intf name : Str} {va : Addr} {os : List Int} (h : EvAt C w K H n intf name va os) (s : Same H H') : EvAt C w K H' n intf name va os := by
  obtain ⟨ar, rows, j, row, xs, args, h1, h2, h3, h4, h5, h6, h7, h8, h9, h10, h11, h12, h13, h14, h15, rfl⟩ := h
  exact ⟨ar, rows, j, row, xs, args, h1, h2, h3, h4, h5, h6, s.seq h7, h8, h9, h10, fun i x hx => by obtain ⟨g, k, a1, a2, a3, a4⟩ := h11 i x hx; exact ⟨g, k, a1, a2, a3, a4.to s⟩, h12, h13, h14, h15, rfl⟩
theorem ff_w (w c n : V) : List.lookup ("words" : Str) [(("words" : Str), w), (("code" : Str), c), (("number" : Str), n)] = some w := List.lookup_cons_self
theorem ff_c (w c n : V) : List.lookup ("code" : Str) [(("words" : Str), w), (("code" : Str), c), (("number" : Str), n)] = some c := by
  rw [List.lookup_cons, show (("code" : Str) == ("words" : Str)) = false by decide +kernel]
  exact List.lookup_cons_self
theorem ff_n (w c n : V) : List.lookup ("number" : Str) [(("words" : Str), w), (("code" : Str), c), (("number" : Str), n)] = some n := by
  rw [List.lookup_cons, show (("number" : Str) == ("words" : Str)) = false by decide +kernel]
  show List.lookup ("number" : Str) [(("code" : Str), c), (("number" : Str), n)] = some n
  rw [List.lookup_cons, show (("number" : Str) == ("code" : Str)) = false by decide +kernel]
  exact List.lookup_cons_self
def sp_fault_octets (C : Addr) (w : World) (K : PySem.W.Frag) (CF : Addr) : Sp := fun vs H Q _ => ∃ (a dx : Addr) (n c : Int) (wd : Str) (os : List Int), vs = [.ref a] ∧ ExV H a CF dx [("words", .str wd), ("code", .int c), ("number", .int n)] ∧
  (∀ (va : Addr) (H' : Hp), Same H H' → H' va = some (.lst [.int n, .int c, .str wd]) → EvAt C w K H' 1 "display" "error" va os) ∧ ∀ p H', H p = none → Same H H' → H' p = some (.lst (os.map V.int)) → Q (.ref p) H'
theorem sc_fault_octets : FnScope ["fault"] ["fault"] (defScope s_fault_octets) := ⟨rfl, rfl, rfl, by decide +kernel, rfl, by decide +kernel, by decide +kernel⟩
theorem ok_fault_octets (T : Txt0 P K mg A) : FnOk P w K mg base CX0 9 A.ffault_octets A.dfault_octets ["fault"] (sp_fault_octets A.a_EVENTS w K A.CFault) := by
  refine T.Ffault_octets.ok sc_fault_octets (fun vs H Q E h => ?_) (fun cdv Ar outer s H vs Q E hr h => ?_)
  · obtain ⟨_, _, _, _, _, _, rfl, _⟩ := h
    rfl
  · obtain ⟨a, dx, n, c, wd, os, rfl, ev, he, q⟩ := h
    refine ⟨_, (pss_one (ps_ret (pe_call (ok_event_octets T) (hr.mono (by decide)) rfl T.gevent_octets T.kevent_octets T.bevent_octets .nil passL (pa_cons (pe_glob (v := .int (1)) rfl T.gDISPLAY ⟨_, rfl⟩) (pa_cons pe_str (pa_cons pe_str (pa_cons (pe_lst (pa_cons (pe_exf (pv 0)) (pa_cons (pe_exf (pv 0)) (pa_cons (pe_exf (pv 0)) pa_nil)))) pa_nil))))))), ?_⟩
    walk_at "go"
    refine ⟨a, A.CFault, dx, _, .int n, rfl, ev, T.xfFault, T.nFault_number, ff_n _ _ _, ?_⟩
    walk_at "go"
    refine ⟨a, A.CFault, dx, _, .int c, rfl, ev, T.xfFault, T.nFault_code, ff_c _ _ _, ?_⟩
    walk_at "go"
    refine ⟨a, A.CFault, dx, _, .str wd, rfl, ev, T.xfFault, T.nFault_words, ff_w _ _ _, ?_⟩
    walk_at "go"
    rename_i p hp
    have s1 := same_upd (o := .lst [.int n, .int c, .str wd]) hp
    refine (he p _ s1 upd_same).go fun p2 H2 n2 => q p2 H2 (s1.free n2.new) (s1.trans n2.same) n2.at_
/-! ### a Reply -/
theorem lk_ne {k k' : Str} {v : V} {r : List (Str × V)} (h : (k == k') = false) : List.lookup k ((k', v) :: r) = List.lookup k r := by rw [List.lookup_cons, h]
theorem pk_ne {f g : Str} {v x : V} {r : List (Str × V)} (h : g ≠ f) : putF f v ((g, x) :: r) = (g, x) :: putF f v r := by
  show (if g = f then _ else _) = _
  rw [if_neg h]
def rpF (t e w a : V) : List (Str × V) := [("told", t), ("ended", e), ("wishes", w), ("applied", a)]
theorem rpF_t (t e w a : V) : (rpF t e w a).lookup ("told" : Str) = some t := by unfold rpF; rw [List.lookup_cons_self]
theorem rpF_e (t e w a : V) : (rpF t e w a).lookup ("ended" : Str) = some e := by unfold rpF; rw [lk_ne (by decide +kernel), List.lookup_cons_self]
theorem rpF_w (t e w a : V) : (rpF t e w a).lookup ("wishes" : Str) = some w := by unfold rpF; rw [lk_ne (by decide +kernel), lk_ne (by decide +kernel), List.lookup_cons_self]
theorem rpF_a (t e w a : V) : (rpF t e w a).lookup ("applied" : Str) = some a := by unfold rpF; rw [lk_ne (by decide +kernel), lk_ne (by decide +kernel), lk_ne (by decide +kernel), List.lookup_cons_self]
theorem rpF_no (t e w a : V) {m : Str} (h1 : (m == ("told" : Str)) = false) (h2 : (m == ("ended" : Str)) = false) (h3 : (m == ("wishes" : Str)) = false) (h4 : (m == ("applied" : Str)) = false) : (rpF t e w a).lookup m = none := by
  unfold rpF
  rw [List.lookup_cons, h1, List.lookup_cons, h2, List.lookup_cons, h3, List.lookup_cons, h4]; rfl
def wD (n : Int) : PyData := .tuple [.str "raise", .int n]
theorem sh_wD (n : Int) : Sh 1 (wD n) := sh_tuple fun d hd => by
  simp only [List.mem_cons, List.not_mem_nil, or_false] at hd
  rcases hd with rfl | rfl
  · exact sh_str (by decide +kernel)
  · exact sh_int _
def wsD (ws : List Int) : PyData := .list (ws.map wD)
theorem sh_ws (ws : List Int) : Sh 2 (wsD ws) := sh_list fun d hd => by
  obtain ⟨n, _, rfl⟩ := List.mem_map.mp hd
  exact sh_wD n
def tsD (ts : List (List Int)) : PyData := .list (ts.map pInts)
theorem sh_ts (ts : List (List Int)) : Sh 2 (tsD ts) := sh_list fun d hd => by
  obtain ⟨n, _, rfl⟩ := List.mem_map.mp hd
  exact sh_ints n
/-- three lists outside of the view: messages, numbers, wishes -/
structure L3 (K : PySem.W.Frag) (U H : Hp) (lt le lw : Addr) (ts : List (List Int)) (es ws : List Int) : Prop where
  ut : U lt = none
  ue : U le = none
  uw : U lw = none
  n1 : lt ≠ le
  n2 : lt ≠ lw
  n3 : le ≠ lw
  t : ∃ ys, H lt = some (.lst ys) ∧ DpAll K U ys (ts.map pInts)
  e : H le = some (.lst (es.map V.int))
  w : ∃ ys, H lw = some (.lst ys) ∧ DpAll K U ys (ws.map wD)
theorem L3.ext {K : PySem.W.Frag} {U H U' H' : Hp} {lt le lw : Addr} {ts : List (List Int)} {es ws : List Int} (h : L3 K U H lt le lw ts es ws) (x : Grow U H U' H') (k : ∀ c u, H c = some u → (c = lt ∨ c = le ∨ c = lw) → H' c = some u) : L3 K U' H' lt le lw ts es ws := by
  obtain ⟨yt, et, dt⟩ := h.t
  obtain ⟨yw, ew, dw⟩ := h.w
  exact ⟨x.keepOut h.ut (by rw [et]; exact fun z => by cases z), x.keepOut h.ue (by rw [h.e]; exact fun z => by cases z), x.keepOut h.uw (by rw [ew]; exact fun z => by cases z), h.n1, h.n2, h.n3,
    ⟨yt, k _ _ et (.inl rfl), dt.to x.vv⟩, k _ _ h.e (.inr (.inl rfl)), ⟨yw, k _ _ ew (.inr (.inr rfl)), dw.to x.vv⟩⟩
structure RpAt (C : Addr) (K : PySem.W.Frag) (U H : Hp) (o lt le lw la : Addr) (ts : List (List Int)) (es ws : List Int) : Prop where
  sU : Same U H
  uo : U o = none
  ob : ∃ dx, H o = some (.ins C dx (rpF (.ref lt) (.ref le) (.ref lw) (.ref la)))
  ap : U la = some (.lst [])
  l3 : L3 K U H lt le lw ts es ws
theorem L3.push_t {K : PySem.W.Frag} {U H : Hp} {lt le lw : Addr} {ts : List (List Int)} {es ws : List Int} (h : L3 K U H lt le lw ts es ws) {ys : List V} {x : V} {os : List Int} (e : H lt = some (.lst ys)) (d : DpAll K U ys (ts.map pInts)) (dx : Dp K U x (pInts os)) : L3 K U (upd H lt (.lst (ys ++ [x]))) lt le lw (ts ++ [os]) es ws := by
  obtain ⟨yw, ew, dw⟩ := h.w
  exact ⟨h.ut, h.ue, h.uw, h.n1, h.n2, h.n3, ⟨_, upd_same, by rw [List.map_append]; exact dpall_app d (.cons dx .nil)⟩, by rw [upd_ne h.n1.symm]; exact h.e, ⟨yw, by rw [upd_ne h.n2.symm]; exact ew, dw⟩⟩
theorem L3.push_e {K : PySem.W.Frag} {U H : Hp} {lt le lw : Addr} {ts : List (List Int)} {es ws : List Int} (h : L3 K U H lt le lw ts es ws) (n : Int) : L3 K U (upd H le (.lst (es.map V.int ++ [.int n]))) lt le lw ts (es ++ [n]) ws := by
  obtain ⟨yt, et, dt⟩ := h.t
  obtain ⟨yw, ew, dw⟩ := h.w
  exact ⟨h.ut, h.ue, h.uw, h.n1, h.n2, h.n3, ⟨yt, by rw [upd_ne h.n1]; exact et, dt⟩, by rw [upd_same, List.map_append]; rfl, ⟨yw, by rw [upd_ne h.n3.symm]; exact ew, dw⟩⟩
theorem L3.push_w {K : PySem.W.Frag} {U H : Hp} {lt le lw : Addr} {ts : List (List Int)} {es ws : List Int} (h : L3 K U H lt le lw ts es ws) {ys : List V} {x : V} {n : Int} (e : H lw = some (.lst ys)) (d : DpAll K U ys (ws.map wD)) (dx : Dp K U x (wD n)) : L3 K U (upd H lw (.lst (ys ++ [x]))) lt le lw ts es (ws ++ [n]) := by
  obtain ⟨yt, et, dt⟩ := h.t
  exact ⟨h.ut, h.ue, h.uw, h.n1, h.n2, h.n3, ⟨yt, by rw [upd_ne h.n2]; exact et, dt⟩, by rw [upd_ne h.n3]; exact h.e, ⟨_, upd_same, by rw [List.map_append]; exact dpall_app d (.cons dx .nil)⟩⟩
theorem RpAt.ext {C : Addr} {K : PySem.W.Frag} {U H U' H' : Hp} {o lt le lw la : Addr} {ts : List (List Int)} {es ws : List Int} (h : RpAt C K U H o lt le lw la ts es ws) (x : Grow U H U' H') (k : ∀ c u, H c = some u → (c = o ∨ c = lt ∨ c = le ∨ c = lw) → H' c = some u) : RpAt C K U' H' o lt le lw la ts es ws := by
  obtain ⟨dx, e⟩ := h.ob
  exact ⟨x.vh, x.keepOut h.uo (by rw [e]; exact fun z => by cases z), ⟨dx, k _ _ e (.inl rfl)⟩, x.vv _ _ h.ap, h.l3.ext x (fun c u e hc => k c u e (.inr hc))⟩
def sp_Reply_tell (CE : Addr) (w : World) (C : Addr) (K : PySem.W.Frag) : Sp := fun vs H Q _ => ∃ (o lt le lw la va : Addr) (n : Int) (intf name : Str) (ts : List (List Int)) (es ws : List Int) (os : List Int) (U : Hp), vs = [.ref o, .int n, .str intf, .str name, .ref va] ∧ RpAt C K U H o lt le lw la ts es ws ∧ EvAt CE w K H n intf name va os ∧ ts.length ≤ 1000 ∧
  ∀ U' H', Grow U H U' H' → (∀ c u, H c = some u → c ≠ lt → H' c = some u) → RpAt C K U' H' o lt le lw la (ts ++ [os]) es ws → Q .non H'
theorem sc_Reply_tell : FnScope ["self", "number", "interface", "name", "values"] ["self", "number", "interface", "name", "values"] (defScope s_Reply_tell) := ⟨rfl, rfl, rfl, by decide +kernel, rfl, by decide +kernel, by decide +kernel⟩
theorem ok_Reply_tell (T : Txt0 P K mg A) : FnOk P w K mg base CX0 9 A.fReply_tell A.dReply_tell ["self", "number", "interface", "name", "values"] (sp_Reply_tell A.a_EVENTS w A.CReply K) := by
  refine T.FReply_tell.ok sc_Reply_tell (fun vs H Q E h => ?_) (fun cdv Ar outer s H vs Q E hr h => ?_)
  · obtain ⟨_, _, _, _, _, _, _, _, _, _, _, _, _, _, rfl, _⟩ := h
    rfl
  · obtain ⟨o, lt, le, lw, la, va, n, intf, name, ts, es, ws, os, U, rfl, R, ev, hl, q⟩ := h
    obtain ⟨dx, e1⟩ := R.ob
    obtain ⟨yt, et, dt⟩ := R.l3.t
    have hyl : yt.length = ts.length := by rw [dpall_len dt, List.length_map]
    refine ⟨_, (pss_one (ps_expr (pe_bm PySem.F.plainAttrs_list PySem.F.slot_list_append PySem.F.type_list_append mt_append (pe_fld (pv 0) rfl) (pa_cons (pe_call (ok_event_octets T) (hr.mono (by decide)) rfl T.gevent_octets T.kevent_octets T.bevent_octets .nil passL (pa_cons (pv 1) (pa_cons (pv 2) (pa_cons (pv 3) (pa_cons (pv 4) pa_nil))))) pa_nil)))), ?_⟩
    walk_at "go"
    refine ⟨o, _, dx, _, _, rfl, e1, T.clReply, T.nReply_told, rpF_t _ _ _ _, ?_⟩
    refine ⟨.inl ⟨rfl, _, SqL.of et⟩, ?_⟩
    walk_at "go"
    unfold tNil
    dsimp only
    refine ev.go fun p H2 n2 => ?_
    have x2 := n2.ext R.sU
    have ep : (upd U p (.lst (os.map V.int))) p = some (.lst (os.map V.int)) := upd_same
    generalize upd U p (.lst (os.map V.int)) = U2 at x2 ep
    have L2_ := R.l3.ext x2.grow (fun c u e _ => x2.hh _ _ e)
    obtain ⟨yt2, et2, dt2⟩ := L2_.t
    have hyl2 : yt2.length = ts.length := by rw [dpall_len dt2, List.length_map]
    refine ⟨lt, _, _, rfl, rfl, et2, Nat.lt_of_lt_of_le (m := 100000) (by omega) (by decide), ?_⟩
    have no : o ≠ lt := ne_of e1 et (by intro z; cases z)
    obtain ⟨yw, ew, dw⟩ := L2_.w
    refine q U2 _ (x2.grow.poke L2_.ut) (fun c u e hc => by rw [upd_ne hc]; exact x2.hh _ _ e) ⟨same_poke x2.vh L2_.ut, x2.keepOut R.uo (by rw [e1]; exact fun z => by cases z), ⟨dx, by rw [upd_ne no]; exact x2.hh _ _ e1⟩, x2.vv _ _ R.ap, L2_.ut, L2_.ue, L2_.uw, L2_.n1, L2_.n2, L2_.n3, ⟨yt2 ++ [.ref p], upd_same, ?_⟩, by rw [upd_ne L2_.n1.symm]; exact L2_.e, ⟨yw, by rw [upd_ne L2_.n2.symm]; exact ew, dw⟩⟩
    rw [List.map_append]
    exact dpall_app dt2 (.cons (dp_ints (SqL.of ep)) .nil)
def sp_Reply_end (C : Addr) (K : PySem.W.Frag) : Sp := fun vs H Q _ => ∃ (o lt le lw la : Addr) (n : Int) (ts : List (List Int)) (es ws : List Int) (U : Hp), vs = [.ref o, .int n] ∧ RpAt C K U H o lt le lw la ts es ws ∧ es.length ≤ 1000 ∧
  ∀ H', (∀ c u, H c = some u → c ≠ le → H' c = some u) → (∀ c, H' c = none → H c = none) → RpAt C K U H' o lt le lw la ts (es ++ [n]) ws → Q .non H'
theorem sc_Reply_end : FnScope ["self", "number"] ["self", "number"] (defScope s_Reply_end) := ⟨rfl, rfl, rfl, by decide +kernel, rfl, by decide +kernel, by decide +kernel⟩
theorem ok_Reply_end (T : Txt0 P K mg A) : FnOk P w K mg base CX0 1 A.fReply_end A.dReply_end ["self", "number"] (sp_Reply_end A.CReply K) := by
  refine T.FReply_end.ok sc_Reply_end (fun vs H Q E h => ?_) (fun cdv Ar outer s H vs Q E hr h => ?_)
  · obtain ⟨_, _, _, _, _, _, _, _, _, _, rfl, _⟩ := h
    rfl
  · obtain ⟨o, lt, le, lw, la, n, ts, es, ws, U, rfl, R, hl, q⟩ := h
    obtain ⟨dx, e1⟩ := R.ob
    have L := R.l3
    refine ⟨_, (pss_one (ps_expr (pe_bm PySem.F.plainAttrs_list PySem.F.slot_list_append PySem.F.type_list_append mt_append (pe_fld (pv 0) rfl) (pa_cons (pv 1) pa_nil)))), ?_⟩
    walk_at "go"
    refine ⟨o, _, dx, _, _, rfl, e1, T.clReply, T.nReply_ended, rpF_e _ _ _ _, ?_⟩
    refine ⟨.inl ⟨rfl, _, SqL.of L.e⟩, ?_⟩
    walk_at "go"
    refine ⟨le, _, _, rfl, rfl, L.e, Nat.lt_of_lt_of_le (m := 100000) (by rw [List.length_map]; omega) (by decide), ?_⟩
    have no : o ≠ le := ne_of e1 L.e (by intro z; cases z)
    obtain ⟨yt, et, dt⟩ := L.t
    obtain ⟨yw, ew, dw⟩ := L.w
    exact q _ (fun c u e hc => by rw [upd_ne hc]; exact e) (none_poke (by rw [L.e]; exact fun z => by cases z)) ⟨same_poke R.sU L.ue, R.uo, ⟨dx, by rw [upd_ne no]; exact e1⟩, R.ap, L.ut, L.ue, L.uw, L.n1, L.n2, L.n3, ⟨yt, by rw [upd_ne L.n1]; exact et, dt⟩, by rw [upd_same, List.map_append]; rfl, ⟨yw, by rw [upd_ne L.n3.symm]; exact ew, dw⟩⟩
def sp_Reply_wish (C : Addr) (K : PySem.W.Frag) : Sp := fun vs H Q _ => ∃ (o lt le lw la : Addr) (v : V) (n : Int) (ts : List (List Int)) (es ws : List Int) (U : Hp), vs = [.ref o, v] ∧ RpAt C K U H o lt le lw la ts es ws ∧ Dp K U v (wD n) ∧ ws.length ≤ 1000 ∧
  ∀ H', (∀ c u, H c = some u → c ≠ lw → H' c = some u) → (∀ c, H' c = none → H c = none) → RpAt C K U H' o lt le lw la ts es (ws ++ [n]) → Q .non H'
theorem sc_Reply_wish : FnScope ["self", "deed"] ["self", "deed"] (defScope s_Reply_wish) := ⟨rfl, rfl, rfl, by decide +kernel, rfl, by decide +kernel, by decide +kernel⟩
theorem ok_Reply_wish (T : Txt0 P K mg A) : FnOk P w K mg base CX0 1 A.fReply_wish A.dReply_wish ["self", "deed"] (sp_Reply_wish A.CReply K) := by
  refine T.FReply_wish.ok sc_Reply_wish (fun vs H Q E h => ?_) (fun cdv Ar outer s H vs Q E hr h => ?_)
  · obtain ⟨_, _, _, _, _, _, _, _, _, _, _, rfl, _⟩ := h
    rfl
  · obtain ⟨o, lt, le, lw, la, v, n, ts, es, ws, U, rfl, R, dv, hl, q⟩ := h
    obtain ⟨dx, e1⟩ := R.ob
    have L := R.l3
    obtain ⟨yt, et, dt⟩ := L.t
    obtain ⟨yw, ew, dw⟩ := L.w
    have hyl : yw.length = ws.length := by rw [dpall_len dw, List.length_map]
    refine ⟨_, (pss_one (ps_expr (pe_bm PySem.F.plainAttrs_list PySem.F.slot_list_append PySem.F.type_list_append mt_append (pe_fld (pv 0) rfl) (pa_cons (pv 1) pa_nil)))), ?_⟩
    walk_at "go"
    refine ⟨o, _, dx, _, _, rfl, e1, T.clReply, T.nReply_wishes, rpF_w _ _ _ _, ?_⟩
    refine ⟨.inl ⟨rfl, _, SqL.of ew⟩, ?_⟩
    walk_at "go"
    refine ⟨lw, _, _, rfl, rfl, ew, Nat.lt_of_lt_of_le (m := 100000) (by omega) (by decide), ?_⟩
    have no : o ≠ lw := ne_of e1 ew (by intro z; cases z)
    exact q _ (fun c u e hc => by rw [upd_ne hc]; exact e) (none_poke (by rw [ew]; exact fun z => by cases z)) ⟨same_poke R.sU L.uw, R.uo, ⟨dx, by rw [upd_ne no]; exact e1⟩, R.ap, L.ut, L.ue, L.uw, L.n1, L.n2, L.n3, ⟨yt, by rw [upd_ne L.n2]; exact et, dt⟩, by rw [upd_ne L.n3]; exact L.e, ⟨yw ++ [v], upd_same, by rw [List.map_append]; exact dpall_app dw (.cons dv .nil)⟩⟩
theorem init_step {H Hk : Hp} {ob dx C p : Addr} {fs fs' : List (Str × V)} {L : List Addr} (b : ∀ b u, H b = some u → b ≠ ob → Hk b = some u) (e : Hk ob = some (.ins C dx fs)) (l : ∀ q ∈ L, Hk q = some (.lst []) ∧ H q = none) (n : Hk p = none) :
    (∀ b u, H b = some u → b ≠ ob → (upd (upd Hk p (.lst [])) ob (.ins C dx fs')) b = some u) ∧ (upd (upd Hk p (.lst [])) ob (.ins C dx fs')) ob = some (.ins C dx fs') ∧ ∀ q ∈ p :: L, (upd (upd Hk p (.lst [])) ob (.ins C dx fs')) q = some (.lst []) ∧ H q = none := by
  have hp : p ≠ ob := fun z => by rw [z, e] at n; cases n
  refine ⟨fun c u h hc => ?_, upd_same, fun q hq => ?_⟩
  · rw [upd_ne hc, upd_ne (ne_of_none (b c u h hc) n)]; exact b c u h hc
  · rcases List.mem_cons.mp hq with rfl | hq
    · refine ⟨by rw [upd_ne hp, upd_same], ?_⟩
      cases h : H q with
      | none => rfl
      | some u => rw [b q u h hp] at n; cases n
    · obtain ⟨l1, l2⟩ := l q hq
      have q1 : q ≠ ob := fun z => by rw [z, e] at l1; cases l1
      exact ⟨by rw [upd_ne q1, upd_ne (ne_of_none l1 n)]; exact l1, l2⟩
theorem lput (f : Str) (y : V) (fs : List (Str × V)) (n : Nat) (h : fs.length ≤ n) : (putF f y fs).length ≤ n + 1 := Nat.le_trans (length_putF f y fs) (by omega)
theorem rpF_new (a b c d : V) : putF "applied" d (putF "wishes" c (putF "ended" b (putF "told" a []))) = rpF a b c d := by
  have e1 : putF "told" a [] = [(("told" : Str), a)] := rfl
  have e2 : putF "ended" b [(("told" : Str), a)] = [(("told" : Str), a), (("ended" : Str), b)] := by rw [pk_ne (by decide +kernel)]; rfl
  have e3 : putF "wishes" c [(("told" : Str), a), (("ended" : Str), b)] = [(("told" : Str), a), (("ended" : Str), b), (("wishes" : Str), c)] := by rw [pk_ne (by decide +kernel), pk_ne (by decide +kernel)]; rfl
  rw [e1, e2, e3, pk_ne (by decide +kernel), pk_ne (by decide +kernel), pk_ne (by decide +kernel)]; rfl
def sp_Reply___init__ (C : Addr) (K : PySem.W.Frag) : Sp := fun vs H Q _ => ∃ (o dx : Addr), vs = [.ref o] ∧ H o = some (.ins C dx []) ∧ ∀ (p1 p2 p3 p4 : Addr) (H' : Hp), (∀ b u, H b = some u → b ≠ o → H' b = some u) → H' o = some (.ins C dx (rpF (.ref p1) (.ref p2) (.ref p3) (.ref p4))) →
  (∀ q ∈ [p4, p3, p2, p1], H' q = some (.lst []) ∧ H q = none) → p1 ≠ p2 → p1 ≠ p3 → p2 ≠ p3 → p1 ≠ p4 → p2 ≠ p4 → p3 ≠ p4 → Q .non H'
theorem sc_Reply___init__ : FnScope ["self"] ["self"] (defScope s_Reply___init__) := ⟨rfl, rfl, rfl, by decide +kernel, rfl, by decide +kernel, by decide +kernel⟩
theorem ok_Reply___init__ (T : Txt0 P K mg A) : FnOk P w K mg base CX0 1 A.fReply___init__ A.dReply___init__ ["self"] (sp_Reply___init__ A.CReply K) := by
  refine T.FReply___init__.ok sc_Reply___init__ (fun vs H Q E h => ?_) (fun cdv Ar outer st H vs Q E hr h => ?_)
  · obtain ⟨_, _, rfl, _⟩ := h
    rfl
  · obtain ⟨ob, dx, rfl, ho, q⟩ := h
    refine ⟨_, (pss_cons (ps_fld (pv 0) (pe_lst pa_nil) rfl)
      (pss_cons (ps_fld (pv 0) (pe_lst pa_nil) rfl)
      (pss_cons (ps_fld (pv 0) (pe_lst pa_nil) rfl)
      (pss_one (ps_fld (pv 0) (pe_lst pa_nil) rfl))))), ?_⟩
    refine ⟨len_line (by show 0 ≤ 100000; decide), fun p1 n1 => ?_⟩
    have st1 := init_step (H := H) (L := []) (fs' := putF "told" (.ref p1) []) (fun b u h _ => h) ho (fun q hq => (by cases hq)) n1
    have e1 := (same_upd (o := .lst []) n1) _ _ ho
    refine ⟨_, rfl, ob, _, dx, _, rfl, e1, T.clReply, T.nReply_told, (by show 0 < 1000; decide), ?_⟩
    generalize (upd (upd H p1 (.lst [])) ob (.ins A.CReply dx (putF "told" (.ref p1) []))) = K1 at st1 ⊢
    refine ⟨len_line (by show 0 ≤ 100000; decide), fun p2 n2 => ?_⟩
    have d12 := ne_of_none (st1.2.2 p1 (by simp)).1 n2
    have st2 := init_step (fs' := putF "ended" (.ref p2) (putF "told" (.ref p1) [])) st1.1 st1.2.1 st1.2.2 n2
    have e2 := (same_upd (o := .lst []) n2) _ _ st1.2.1
    refine ⟨_, rfl, ob, _, dx, _, rfl, e2, T.clReply, T.nReply_ended, Nat.lt_of_le_of_lt (m := 1) (lput _ _ _ 0 (Nat.le_refl _)) (by decide), ?_⟩
    generalize (upd (upd K1 p2 (.lst [])) ob (.ins A.CReply dx (putF "ended" (.ref p2) (putF "told" (.ref p1) [])))) = K2 at st2 ⊢
    refine ⟨len_line (by show 0 ≤ 100000; decide), fun p3 n3 => ?_⟩
    have d13 := ne_of_none (st2.2.2 p1 (by simp)).1 n3
    have d23 := ne_of_none (st2.2.2 p2 (by simp)).1 n3
    have st3 := init_step (fs' := putF "wishes" (.ref p3) (putF "ended" (.ref p2) (putF "told" (.ref p1) []))) st2.1 st2.2.1 st2.2.2 n3
    have e3 := (same_upd (o := .lst []) n3) _ _ st2.2.1
    refine ⟨_, rfl, ob, _, dx, _, rfl, e3, T.clReply, T.nReply_wishes, Nat.lt_of_le_of_lt (m := 2) (lput _ _ _ 1 (lput _ _ _ 0 (Nat.le_refl _))) (by decide), ?_⟩
    generalize (upd (upd K2 p3 (.lst [])) ob (.ins A.CReply dx (putF "wishes" (.ref p3) (putF "ended" (.ref p2) (putF "told" (.ref p1) []))))) = K3 at st3 ⊢
    refine ⟨len_line (by show 0 ≤ 100000; decide), fun p4 n4 => ?_⟩
    have d14 := ne_of_none (st3.2.2 p1 (by simp)).1 n4
    have d24 := ne_of_none (st3.2.2 p2 (by simp)).1 n4
    have d34 := ne_of_none (st3.2.2 p3 (by simp)).1 n4
    have st4 := init_step (fs' := putF "applied" (.ref p4) (putF "wishes" (.ref p3) (putF "ended" (.ref p2) (putF "told" (.ref p1) [])))) st3.1 st3.2.1 st3.2.2 n4
    have e4 := (same_upd (o := .lst []) n4) _ _ st3.2.1
    refine ⟨_, rfl, ob, _, dx, _, rfl, e4, T.clReply, T.nReply_applied, Nat.lt_of_le_of_lt (m := 3) (lput _ _ _ 2 (lput _ _ _ 1 (lput _ _ _ 0 (Nat.le_refl _)))) (by decide), ?_⟩
    generalize hK : (upd (upd K3 p4 (.lst [])) ob (.ins A.CReply dx (putF "applied" (.ref p4) (putF "wishes" (.ref p3) (putF "ended" (.ref p2) (putF "told" (.ref p1) [])))))) = K4 at st4 ⊢
    exact q p1 p2 p3 p4 _ st4.1 (by rw [st4.2.1, rpF_new]) st4.2.2 d12 d13 d23 d14 d24 d34
def evArgs (a b : Int) : List Arg := [⟨"uint", .num a, octs (a % 4294967296) 4⟩, ⟨"uint", .num b, octs (b % 4294967296) 4⟩, ⟨"uint", .num 1, octs (1 % 4294967296) 4⟩, ⟨"uint", .num 2, octs (2 % 4294967296) 4⟩]
def oszF (n a b : Int) : List Int := msgOcts n 0 (bodyOf (evArgs a b))
def SzOk (CE : Addr) (w : World) (K : PySem.W.Frag) : Prop := ∀ (n a b : Int) (va : Addr) (H' : Hp), 1 ≤ n → n ≤ 4294967295 → 0 ≤ a → a ≤ 8 → 0 ≤ b → b ≤ 8 → H' va = some (.lst [.int a, .int b, .int 1, .int 2]) → EvAt CE w K H' n "output" "size" va (oszF n a b)
def sp__law_deeds (CE : Addr) (w : World) (C : Addr) (K : PySem.W.Frag) : Sp := fun vs H Q _ => ∃ (a o lt le lw la at_ ae aw : Addr) (ns : List Int) (k : Nat) (U : Hp), vs = [.ref a, .int (k : Int), .ref o, .ref at_, .ref ae, .ref aw] ∧ SqL K U a (ns.map V.int) ∧ RpAt C K U H o lt le lw la [] [] [] ∧ L3 K U H at_ ae aw [] [] [] ∧
  (∀ x ∈ [at_, ae, aw], x ≠ lt ∧ x ≠ le ∧ x ≠ lw) ∧ SzOk CE w K ∧ ∀ U' H', Grow U H U' H' → Q (.bl true) H'
theorem sc__law_deeds : FnScope ["script", "k", "reply", "told", "ended", "wishes", "row", "j", "more", "number"] ["script", "k", "reply", "told", "ended", "wishes"] (defScope s__law_deeds) := ⟨rfl, rfl, rfl, by decide +kernel, rfl, by decide +kernel, by decide +kernel⟩
theorem ok__law_deeds (T : Txt0 P K mg A) : FnOk P w K mg base CX0 10 A.f_law_deeds A.d_law_deeds ["script", "k", "reply", "told", "ended", "wishes"] (sp__law_deeds A.a_EVENTS w A.CReply K) := by
  refine T.F_law_deeds.ok sc__law_deeds (fun vs H Q E h => ?_) (fun cdv Ar outer s H vs Q E hr h => ?_)
  · obtain ⟨_, _, _, _, _, _, _, _, _, _, _, _, rfl, _⟩ := h
    rfl
  · obtain ⟨a, o, lt, le, lw, la, at_, ae, aw, ns, k, U, rfl, hS, R, L, hd, hsz, q⟩ := h
    refine ⟨_, (pss_cons (ps_set (i := 6) sc__law_deeds.nd rfl (Or.inl rfl) (pe_callTy call_int1 (by rfl) T.int (by decide +kernel) (pa_cons (pe_call (ok__law_row T) (hr.mono (by decide)) rfl T.g_law_row T.k_law_row T.b_law_row .nil pass0 (pa_cons (pv 0) (pa_cons (pv 1) pa_nil))) pa_nil)))
      (pss_cons (ps_for PassesOwn.never rfl (pi_range1 (by rfl) T.range (pa_cons (pe_op op_mod (pv 6) pe_int) pa_nil)) (pg_name (i := 7) sc__law_deeds.nd rfl (Or.inl rfl))
      (C8.pss_cut (ps_set (i := 8) sc__law_deeds.nd rfl (Or.inl rfl) (pe_op op_add (pe_callTy call_int1 (by rfl) T.int (by decide +kernel) (pa_cons (pe_call (ok__law_row T) (hr.mono (by decide)) rfl T.g_law_row T.k_law_row T.b_law_row .nil pass0 (pa_cons (pv 0) (pa_cons (pe_op op_add (pe_op op_add pe_int (pe_op op_mul pe_int (pv 1))) (pv 7)) pa_nil))) pa_nil)) (pe_op op_fdiv (pv 6) (pe_op op_add (pv 7) pe_int))))
      (pss_cons (ps_set (i := 9) sc__law_deeds.nd rfl (Or.inl rfl) (pe_op op_add pe_int (pe_op op_mod (pe_op op_fdiv (pv 8) pe_int) pe_int)))
      (pss_one (ps_if (pt_cmpR op_eq (pe_op op_mod (pv 8) pe_int) pe_int (nomark _))
      (pss_cons (ps_expr (pe_meth (pv 2) T.clReply T.mReply_tell (ok_Reply_tell T) (hr.mono (by decide)) T.bReply_tell .nil pass0 (pa_cons (pv 9) (pa_cons pe_str (pa_cons pe_str (pa_cons (pe_lst (pa_cons (pe_op op_mod (pe_op op_fdiv (pv 8) pe_int) pe_int) (pa_cons (pe_op op_mod (pe_op op_fdiv (pv 8) pe_int) pe_int) (pa_cons pe_int (pa_cons pe_int pa_nil))))) pa_nil))))))
      (pss_one (ps_expr (pe_bm PySem.F.plainAttrs_list PySem.F.slot_list_append PySem.F.type_list_append mt_append (pv 3) (pa_cons (pe_call (ok_event_octets T) (hr.mono (by decide)) rfl T.gevent_octets T.kevent_octets T.bevent_octets .nil passL (pa_cons (pv 9) (pa_cons pe_str (pa_cons pe_str (pa_cons (pe_lst (pa_cons (pe_op op_mod (pe_op op_fdiv (pv 8) pe_int) pe_int) (pa_cons (pe_op op_mod (pe_op op_fdiv (pv 8) pe_int) pe_int) (pa_cons pe_int (pa_cons pe_int pa_nil))))) pa_nil))))) pa_nil)))))
      (pss_one (ps_if (pt_cmpR op_eq (pe_op op_mod (pv 8) pe_int) pe_int (nomark _))
      (pss_cons (ps_expr (pe_meth (pv 2) T.clReply T.mReply_end (ok_Reply_end T) (hr.mono (by decide)) T.bReply_end .nil pass0 (pa_cons (pv 9) pa_nil)))
      (pss_one (ps_expr (pe_bm PySem.F.plainAttrs_list PySem.F.slot_list_append PySem.F.type_list_append mt_append (pv 4) (pa_cons (pv 9) pa_nil)))))
      (pss_cons (ps_expr (pe_meth (pv 2) T.clReply T.mReply_wish (ok_Reply_wish T) (hr.mono (by decide)) T.bReply_wish .nil pass0 (pa_cons (pe_tup (pa_cons pe_str (pa_cons (pv 9) pa_nil))) pa_nil)))
      (pss_one (ps_expr (pe_bm PySem.F.plainAttrs_list PySem.F.slot_list_append PySem.F.type_list_append mt_append (pv 5) (pa_cons (pe_tup (pa_cons pe_str (pa_cons (pv 9) pa_nil))) pa_nil))))))))))))
      (pss_one (ps_ret (pe_and (pe_cmpR (op_eqD hr.units) (pe_fld (pv 2) rfl) (pv 3) (nomark _)) (pe_and (pe_cmpR (op_eqD hr.units) (pe_fld (pv 2) rfl) (pv 4) (nomark _)) (pe_and (pe_cmpR (op_eqD hr.units) (pe_fld (pv 2) rfl) (pv 5) (nomark _)) (pe_one (pe_cmpR (op_eqD hr.units) (pe_fld (pv 2) rfl) (pe_lst pa_nil) (nomark _)))))))))), ?_⟩
    walk_at "gx"
    refine ⟨a, ns, k, rfl, R.sU.seq hS, ?_⟩
    generalize lawRow ns k = row
    walk_at "gx"
    obtain ⟨m, hm⟩ : ∃ m : Nat, row % 7 = m := ⟨(row % 7).toNat, by omega⟩
    have hm6 : m ≤ 6 := by omega
    rw [hm]
    refine ⟨by omega, by omega, ?_⟩
    rw [Int.toNat_natCast]
    refine for_range (lo := 0) (fun i σ H' => ∃ (U' : Hp) (ts : List (List Int)) (es ws : List Int) (v7 v8 v9 : Option V), σ = [some (.ref a), some (.int (k : Int)), some (.ref o), some (.ref at_), some (.ref ae), some (.ref aw), some (.int row), v7, v8, v9] ∧ Grow U H U' H' ∧ (∀ c, H' c = none → H c = none) ∧ RpAt A.CReply K U' H' o lt le lw la ts es ws ∧ L3 K U' H' at_ ae aw ts es ws ∧ ts.length ≤ i ∧ es.length ≤ i ∧ ws.length ≤ i)
      ⟨U, [], [], [], none, none, none, rfl, Grow.refl R.sU, fun c e => e, R, L, Nat.zero_le _, Nat.zero_le _, Nat.zero_le _⟩ ?_ ?_
    · rintro i σ H1 hi ⟨U1, ts, es, ws, v7, v8, v9, rfl, g1, kk, R1, L1, t1, t2, t3⟩
      obtain ⟨dx1, o1⟩ := R1.ob
      refine ⟨fun σ' H' => ∃ r3 : Int, σ' = [some (.ref a), some (.int (k : Int)), some (.ref o), some (.ref at_), some (.ref ae), some (.ref aw), some (.int row), some (.int (0 + (i : Int))), some (.int r3), v9] ∧ H' = H1, ?_, ?_⟩
      · walk_at "gx"
        refine ⟨a, ns, 63 + 7 * k + i, ?_, (g1.vv.trans R1.sU).seq hS, ?_⟩
        · show [V.ref a, V.int (63 + 7 * (k : Int) + (0 + (i : Int)))] = [V.ref a, V.int ((63 + 7 * k + i : Nat) : Int)]
          rw [show (63 + 7 * (k : Int) + (0 + (i : Int))) = ((63 + 7 * k + i : Nat) : Int) by omega]
        generalize lawRow ns (63 + 7 * k + i) = r2
        walk_at "gx"
        rfl
      rintro σ' H' ⟨r3, rfl, rfl⟩
      walk_at "gx"
      have hn1 : 1 ≤ 1 + r3 / 3 % 4294967295 := by omega
      have hn2 : 1 + r3 / 3 % 4294967295 ≤ 4294967295 := by omega
      have hno : ∀ x ∈ [at_, ae, aw], x ≠ o := fun x hx z => by
        rw [z] at hx
        simp only [List.mem_cons, List.not_mem_nil, or_false] at hx
        obtain ⟨zt, ft, _⟩ := L1.t
        obtain ⟨zw, fw, _⟩ := L1.w
        rcases hx with hx | hx | hx
        · rw [← hx, o1] at ft; cases ft
        · have := L1.e; rw [← hx, o1] at this; cases this
        · rw [← hx, o1] at fw; cases fw
      refine iteEq (fun h => ?_) (fun h => ?_)
      · walk_at "gx"
        refine ⟨o, dx1, _, rfl, o1, rpF_no _ _ _ _ (by decide +kernel) (by decide +kernel) (by decide +kernel) (by decide +kernel), ?_⟩
        walk_at "gx"
        rename_i p hp
        have xp := Ext.skip (o := .lst [.int (r3 / 3 % 9), .int (r3 / 27 % 9), .int 1, .int 2]) R1.sU hp
        have ep : (upd H' p (.lst [.int (r3 / 3 % 9), .int (r3 / 27 % 9), .int 1, .int 2])) p = some (.lst [.int (r3 / 3 % 9), .int (r3 / 27 % 9), .int 1, .int 2]) := upd_same
        have Rp := R1.ext xp.grow (fun c u e _ => xp.hh _ _ e)
        have Lp := L1.ext xp.grow (fun c u e _ => xp.hh _ _ e)
        have gp := g1.trans xp.grow kk
        have kp : ∀ c, (upd H' p (.lst [.int (r3 / 3 % 9), .int (r3 / 27 % 9), .int 1, .int 2])) c = none → H c = none := fun c e => kk c (none_same xp.hh c e)
        generalize upd H' p (.lst [.int (r3 / 3 % 9), .int (r3 / 27 % 9), .int 1, .int 2]) = H2 at xp ep Rp Lp gp kp ⊢
        unfold tNil
        dsimp only
        refine ⟨o, lt, le, lw, la, p, 1 + r3 / 3 % 4294967295, "output", "size", ts, es, ws, oszF (1 + r3 / 3 % 4294967295) (r3 / 3 % 9) (r3 / 27 % 9), U1, rfl, Rp, hsz _ _ _ p _ hn1 hn2 (by omega) (by omega) (by omega) (by omega) ep, by omega, fun U3 H3 g3 b3 R3 => ?_⟩
        have L3_ := Lp.ext g3 (fun c u e hc => b3 c u e (by
          rcases hc with rfl | rfl | rfl
          · exact (hd _ (by simp)).1
          · exact (hd _ (by simp)).1
          · exact (hd _ (by simp)).1))
        have gq := gp.trans g3 kp
        have kq : ∀ c, H3 c = none → H c = none := fun c e => kp c (by
          cases e2 : H2 c with
          | none => rfl
          | some u =>
            by_cases cc : c = lt
            · obtain ⟨y, ey, _⟩ := R3.l3.t
              rw [cc, ey] at e; cases e
            · rw [b3 c u e2 cc] at e; cases e)
        obtain ⟨zt3, ft3, fd3⟩ := L3_.t
        refine ⟨_, rfl, .inl ⟨rfl, _, SqL.of ft3⟩, ?_⟩
        walk_at "gx"
        rename_i p4 h4
        have e4 : (upd H3 p4 (.lst [.int (r3 / 3 % 9), .int (r3 / 27 % 9), .int 1, .int 2])) p4 = some (.lst [.int (r3 / 3 % 9), .int (r3 / 27 % 9), .int 1, .int 2]) := upd_same
        have x4 := Ext.skip (o := .lst [.int (r3 / 3 % 9), .int (r3 / 27 % 9), .int 1, .int 2]) R3.sU h4
        generalize upd H3 p4 (.lst [.int (r3 / 3 % 9), .int (r3 / 27 % 9), .int 1, .int 2]) = H4 at e4 x4 ⊢
        try unfold tNil
        dsimp only
        refine (hsz _ _ _ p4 _ hn1 hn2 (by omega) (by omega) (by omega) (by omega) e4).go fun p5 H5 n5 => ?_
        have x5 := x4.trans (n5.ext x4.vh)
        have e5 : (upd U3 p5 (.lst ((oszF (1 + r3 / 3 % 4294967295) (r3 / 3 % 9) (r3 / 27 % 9)).map V.int))) p5 = some (.lst ((oszF (1 + r3 / 3 % 4294967295) (r3 / 3 % 9) (r3 / 27 % 9)).map V.int)) := upd_same
        generalize upd U3 p5 (.lst ((oszF (1 + r3 / 3 % 4294967295) (r3 / 3 % 9) (r3 / 27 % 9)).map V.int)) = U5 at x5 e5
        have R5 := R3.ext x5.grow (fun c u e _ => x5.hh _ _ e)
        have L5 := L3_.ext x5.grow (fun c u e _ => x5.hh _ _ e)
        have g5 := gq.trans x5.grow kq
        have k5 : ∀ c, H5 c = none → H c = none := fun c e => kq c (none_same x5.hh c e)
        obtain ⟨zt5, ft5, fd5⟩ := L5.t
        have hzl : zt5.length = ts.length + 1 - 1 := by rw [dpall_len fd5, List.length_map]; omega
        refine ⟨at_, _, _, rfl, rfl, ft5, Nat.lt_of_lt_of_le (m := 100000) (by omega) (by decide), ?_⟩
        refine ⟨U5, ts ++ [oszF (1 + r3 / 3 % 4294967295) (r3 / 3 % 9) (r3 / 27 % 9)], es, ws, _, _, _, rfl, g5.poke L5.ut, fun c e => k5 c (none_poke (by rw [ft5]; exact fun z => by cases z) c e), R5.ext ((Grow.refl R5.sU).poke L5.ut) (fun c u e hc => ?_), L5.push_t ft5 fd5 (dp_ints (SqL.of e5)), by rw [List.length_append]; show ts.length + 1 ≤ _; omega, by omega, by omega⟩
        rw [upd_ne ?_]; exact e
        have ha := hd at_ (by simp)
        have ho := hno at_ (by simp)
        rcases hc with rfl | rfl | rfl | rfl
        · exact ho.symm
        · exact ha.1.symm
        · exact ha.2.1.symm
        · exact ha.2.2.symm
      · walk_at "gx"
        refine iteEq (fun h => ?_) (fun h => ?_)
        · walk_at "gx"
          refine ⟨o, dx1, _, rfl, o1, rpF_no _ _ _ _ (by decide +kernel) (by decide +kernel) (by decide +kernel) (by decide +kernel), ?_⟩
          walk_at "gx"
          refine ⟨o, lt, le, lw, la, 1 + r3 / 3 % 4294967295, ts, es, ws, U1, rfl, R1, by omega, fun H2 b2 k2 R2 => ?_⟩
          have g2 : Grow U1 H' U1 H2 := ⟨Same.refl _, R2.sU, fun c e => .inl e⟩
          have L2_ := L1.ext g2 (fun c u e hc => b2 c u e (by
            rcases hc with rfl | rfl | rfl
            · exact (hd _ (by simp)).2.1
            · exact (hd _ (by simp)).2.1
            · exact (hd _ (by simp)).2.1))
          refine ⟨_, rfl, .inl ⟨rfl, _, SqL.of L2_.e⟩, ?_⟩
          walk_at "gx"
          refine ⟨ae, _, _, rfl, rfl, L2_.e, Nat.lt_of_lt_of_le (m := 100000) (by rw [List.length_map]; omega) (by decide), ?_⟩
          have k3 : ∀ c, H2 c = none → H c = none := fun c e => kk c (k2 c e)
          refine ⟨U1, ts, es ++ [1 + r3 / 3 % 4294967295], ws, _, _, _, rfl, (g1.trans g2 kk).poke L2_.ue, fun c e => k3 c (none_poke (by rw [L2_.e]; exact fun z => by cases z) c e), R2.ext ((Grow.refl R2.sU).poke L2_.ue) (fun c u e hc => ?_), L2_.push_e _, by omega, by rw [List.length_append]; show es.length + 1 ≤ _; omega, by omega⟩
          rw [upd_ne ?_]; exact e
          have ha := hd ae (by simp)
          have ho := hno ae (by simp)
          rcases hc with rfl | rfl | rfl | rfl
          · exact ho.symm
          · exact ha.1.symm
          · exact ha.2.1.symm
          · exact ha.2.2.symm
        · walk_at "gx"
          refine ⟨o, dx1, _, rfl, o1, rpF_no _ _ _ _ (by decide +kernel) (by decide +kernel) (by decide +kernel) (by decide +kernel), ?_⟩
          walk_at "gx"
          rename_i p hp
          have xp := Ext.new (o := .tup [V.str (Str.ofString "raise"), .int (1 + r3 / 3 % 4294967295)]) R1.sU hp
          have dp : Dp K (upd U1 p (.tup [V.str (Str.ofString "raise"), .int (1 + r3 / 3 % 4294967295)])) (.ref p) (wD (1 + r3 / 3 % 4294967295)) := .tup (SqT.of upd_same) (.cons (.str _) (.cons (.int _) .nil))
          have Rp := R1.ext xp.grow (fun c u e _ => xp.hh _ _ e)
          have Lp := L1.ext xp.grow (fun c u e _ => xp.hh _ _ e)
          have gp := g1.trans xp.grow kk
          have kp : ∀ c, (upd H' p (.tup [V.str (Str.ofString "raise"), .int (1 + r3 / 3 % 4294967295)])) c = none → H c = none := fun c e => kk c (none_same xp.hh c e)
          generalize upd U1 p (.tup [V.str (Str.ofString "raise"), .int (1 + r3 / 3 % 4294967295)]) = U2 at xp dp Rp Lp gp
          generalize upd H' p (.tup [V.str (Str.ofString "raise"), .int (1 + r3 / 3 % 4294967295)]) = H2 at xp Rp Lp gp kp ⊢
          try unfold tNil
          dsimp only
          refine ⟨o, lt, le, lw, la, .ref p, 1 + r3 / 3 % 4294967295, ts, es, ws, U2, rfl, Rp, dp, by omega, fun H3 b3 k3 R3 => ?_⟩
          have g3 : Grow U2 H2 U2 H3 := ⟨Same.refl _, R3.sU, fun c e => .inl e⟩
          have L3_ := Lp.ext g3 (fun c u e hc => b3 c u e (by
            rcases hc with rfl | rfl | rfl
            · exact (hd _ (by simp)).2.2
            · exact (hd _ (by simp)).2.2
            · exact (hd _ (by simp)).2.2))
          have gq := gp.trans g3 kp
          have kq : ∀ c, H3 c = none → H c = none := fun c e => kp c (k3 c e)
          obtain ⟨zw3, fw3, fd3⟩ := L3_.w
          refine ⟨_, rfl, .inl ⟨rfl, _, SqL.of fw3⟩, ?_⟩
          walk_at "gx"
          rename_i p4 h4
          have x4 := Ext.new (o := .tup [V.str (Str.ofString "raise"), .int (1 + r3 / 3 % 4294967295)]) R3.sU h4
          have d4 : Dp K (upd U2 p4 (.tup [V.str (Str.ofString "raise"), .int (1 + r3 / 3 % 4294967295)])) (.ref p4) (wD (1 + r3 / 3 % 4294967295)) := .tup (SqT.of upd_same) (.cons (.str _) (.cons (.int _) .nil))
          have R5 := R3.ext x4.grow (fun c u e _ => x4.hh _ _ e)
          have L5 := L3_.ext x4.grow (fun c u e _ => x4.hh _ _ e)
          have g5 := gq.trans x4.grow kq
          have k5 : ∀ c, (upd H3 p4 (.tup [V.str (Str.ofString "raise"), .int (1 + r3 / 3 % 4294967295)])) c = none → H c = none := fun c e => kq c (none_same x4.hh c e)
          generalize upd U2 p4 (.tup [V.str (Str.ofString "raise"), .int (1 + r3 / 3 % 4294967295)]) = U5 at x4 d4 R5 L5 g5
          generalize upd H3 p4 (.tup [V.str (Str.ofString "raise"), .int (1 + r3 / 3 % 4294967295)]) = H5 at x4 R5 L5 g5 k5 ⊢
          obtain ⟨zw5, fw5, fd5⟩ := L5.w
          have hzl : zw5.length = ws.length := by rw [dpall_len fd5, List.length_map]
          try unfold tNil
          dsimp only
          refine ⟨aw, _, _, rfl, rfl, fw5, Nat.lt_of_lt_of_le (m := 100000) (by omega) (by decide), ?_⟩
          refine ⟨U5, ts, es, ws ++ [1 + r3 / 3 % 4294967295], _, _, _, rfl, g5.poke L5.uw, fun c e => k5 c (none_poke (by rw [fw5]; exact fun z => by cases z) c e), R5.ext ((Grow.refl R5.sU).poke L5.uw) (fun c u e hc => ?_), L5.push_w fw5 fd5 d4, by omega, by omega, by rw [List.length_append]; show ws.length + 1 ≤ _; omega⟩
          rw [upd_ne ?_]; exact e
          have ha := hd aw (by simp)
          have ho := hno aw (by simp)
          rcases hc with rfl | rfl | rfl | rfl
          · exact ho.symm
          · exact ha.1.symm
          · exact ha.2.1.symm
          · exact ha.2.2.symm
    · rintro σ H1 ⟨U1, ts, es, ws, v7, v8, v9, rfl, g1, kk, R1, L1, t1, t2, t3⟩
      obtain ⟨dx1, o1⟩ := R1.ob
      obtain ⟨yt, et, dt⟩ := R1.l3.t
      obtain ⟨yw, ew, dw⟩ := R1.l3.w
      obtain ⟨zt, ft, ft2⟩ := L1.t
      obtain ⟨zw, fw, fw2⟩ := L1.w
      walk_at "go"
      refine ⟨o, _, dx1, _, _, rfl, o1, T.clReply, T.nReply_told, rpF_t _ _ _ _, ?_⟩
      walk_at "go"
      refine t_eq (d := tsD ts) (e := tsD ts) (.lst (SqL.of et) (dt.to R1.sU)) (.lst (SqL.of ft) (ft2.to R1.sU)) (sh_ts _).shaped (sh_ts _).shaped ?_
      rw [(sh_ts _).self]
      walk_at "go"
      refine ⟨o, _, dx1, _, _, rfl, o1, T.clReply, T.nReply_ended, rpF_e _ _ _ _, ?_⟩
      walk_at "go"
      refine t_eq (dp_ints (SqL.of R1.l3.e)) (dp_ints (SqL.of L1.e)) (sh_ints _).shaped (sh_ints _).shaped ?_
      rw [(sh_ints _).self]
      walk_at "go"
      refine ⟨o, _, dx1, _, _, rfl, o1, T.clReply, T.nReply_wishes, rpF_w _ _ _ _, ?_⟩
      walk_at "go"
      refine t_eq (d := wsD ws) (e := wsD ws) (.lst (SqL.of ew) (dw.to R1.sU)) (.lst (SqL.of fw) (fw2.to R1.sU)) (sh_ws _).shaped (sh_ws _).shaped ?_
      rw [(sh_ws _).self]
      walk_at "go"
      refine ⟨o, _, dx1, _, _, rfl, o1, T.clReply, T.nReply_applied, rpF_a _ _ _ _, ?_⟩
      walk_at "go"
      rename_i p hp
      have s1 := same_upd (o := .lst []) hp
      refine t_eq (d := pInts []) (e := pInts []) (dp_ints (xs := []) (SqL.of (s1 _ _ (R1.sU _ _ R1.ap)))) (dp_ints (xs := []) (SqL.of upd_same)) (sh_ints _).shaped (sh_ints _).shaped ?_
      rw [(sh_ints _).self]
      exact q U1 _ (g1.trans (Ext.skip (o := .lst []) R1.sU hp).grow kk)
/-! ### the law -/
theorem uintOk {i : Int} (h : 0 ≤ i ∧ i ≤ 4294967295) : ArgSpec "uint" (.num i) true (octs (i % 4294967296) 4) := by
  have := ArgSpec.num (i := i) .uint
  rw [decide_eq_true h] at this
  exact this
theorem txtOk {s : Str} (h : isText s = true) : ArgSpec "text" (.txt s) true (textOcts s) := by
  have := @ArgSpec.txt s
  rw [h] at this
  exact this
theorem isText_law (r : Int) (n : Nat) (h : n ≤ 1000) : isText (lawTextS r n) = true := by
  unfold isText
  rw [lawTextS_len, decide_eq_true (by omega), Bool.true_and, List.all_eq_true]
  intro c hc
  have := lawTextS_ok r n c hc
  exact this
theorem strOk_law (r : Int) (n : Nat) : PyData.strOk (lawTextS r n) = true := by
  show Array.all _ _ = true
  rw [← Array.all_toList, List.all_eq_true]
  intro c hc
  have := lawTextS_ok r n c hc
  have := of_decide_eq_true this
  exact decide_eq_true (by omega)
def fArgs (n c : Int) (wd : Str) : List Arg := [⟨"uint", .num n, octs (n % 4294967296) 4⟩, ⟨"uint", .num c, octs (c % 4294967296) 4⟩, ⟨"text", .txt wd, textOcts wd⟩]
theorem szOk (T : Txt0 P K mg A) (D : Dic w K A) : SzOk A.a_EVENTS w K := by
  intro n a b va H' h1 h2 h3 h4 h5 h6 e
  refine ⟨A.a_EVENTS_k4, [("size", ["uint", "uint", "uint", "uint"])], 0, ("size", ["uint", "uint", "uint", "uint"]), _, evArgs a b, D.d_EVENTS_k4, fun H => ?_, by decide, rfl, rfl, (fun m r hm => absurd hm (Nat.not_lt_zero m)), SqL.of e, rfl, rfl, by decide, fun i x hx => ?_, fun g hg => ?_, ?_, ?_, ?_, rfl⟩
  · exact .tup (T.w_EVENTS_k4 H) (.cons (.tup (T.w_EVENTS_k4_0 H) (.cons (.str _) (.cons (.tup (T.w_EVENTS_k4_0_1 H) (.cons (.str _) (.cons (.str _) (.cons (.str _) (.cons (.str _) .nil))))) .nil))) .nil)
  · match i, hx with
    | 0, hx => cases hx; exact ⟨_, _, rfl, rfl, rfl, rfl⟩
    | 1, hx => cases hx; exact ⟨_, _, rfl, rfl, rfl, rfl⟩
    | 2, hx => cases hx; exact ⟨_, _, rfl, rfl, rfl, rfl⟩
    | 3, hx => cases hx; exact ⟨_, _, rfl, rfl, rfl, rfl⟩
    | i + 4, hx => cases hx
  · simp only [evArgs, List.mem_cons, List.not_mem_nil, or_false] at hg
    rcases hg with rfl | rfl | rfl | rfl
    · exact uintOk (by omega)
    · exact uintOk (by omega)
    · exact uintOk (by omega)
    · exact uintOk (by omega)
  · show (octs _ 4 ++ (octs _ 4 ++ (octs _ 4 ++ (octs _ 4 ++ [])))).length < 60000
    rw [List.length_append, List.length_append, List.length_append, List.length_append, octs_len, octs_len, octs_len, octs_len]; decide
  · rintro (z | z | z)
    · omega
    · exact z (by decide)
    · exact absurd z (by show ¬ 20 < 4; decide)
  · unfold encLong
    show ¬ 20480 < 8 + (octs _ 4 ++ (octs _ 4 ++ (octs _ 4 ++ (octs _ 4 ++ [])))).length
    rw [List.length_append, List.length_append, List.length_append, List.length_append, octs_len, octs_len, octs_len, octs_len]; decide
theorem fBody_len (n c : Int) (wd : Str) (h : wd.length ≤ 1000) : (bodyOf (fArgs n c wd)).length ≤ 2000 := by
  show (octs _ 4 ++ (octs _ 4 ++ (textOcts wd ++ []))).length ≤ 2000
  have := textOcts_len wd
  rw [List.length_append, List.length_append, List.length_append, octs_len, octs_len]
  show 4 + (4 + ((textOcts wd).length + 0)) ≤ 2000
  omega
theorem fEv (T : Txt0 P K mg A) (D : Dic w K A) {n c : Int} {wd : Str} {va : Addr} {H' : Hp} (h1 : 0 ≤ n ∧ n ≤ 4294967295) (h2 : 0 ≤ c ∧ c ≤ 4294967295) (ht : isText wd = true) (hw : wd.length ≤ 1000) (e : H' va = some (.lst [.int n, .int c, .str wd])) :
    EvAt A.a_EVENTS w K H' 1 "display" "error" va (msgOcts 1 0 (bodyOf (fArgs n c wd))) := by
  have hb := fBody_len n c wd hw
  refine ⟨A.a_EVENTS_k0, [("error", ["uint", "uint", "text"]), ("removed", ["uint"])], 0, ("error", ["uint", "uint", "text"]), _, fArgs n c wd, D.d_EVENTS_k0, fun H => ?_, by decide, rfl, rfl, (fun m r hm => absurd hm (Nat.not_lt_zero m)), SqL.of e, rfl, rfl, by decide, fun i x hx => ?_, fun g hg => ?_, by omega, ?_, ?_, rfl⟩
  · exact .tup (T.w_EVENTS_k0 H) (.cons (.tup (T.w_EVENTS_k0_0 H) (.cons (.str _) (.cons (.tup (T.w_EVENTS_k0_0_1 H) (.cons (.str _) (.cons (.str _) (.cons (.str _) .nil)))) .nil))) (.cons (.tup (T.w_EVENTS_k0_1 H) (.cons (.str _) (.cons (.tup (T.w_EVENTS_k0_1_1 H) (.cons (.str _) .nil)) .nil))) .nil))
  · match i, hx with
    | 0, hx => cases hx; exact ⟨_, _, rfl, rfl, rfl, rfl⟩
    | 1, hx => cases hx; exact ⟨_, _, rfl, rfl, rfl, rfl⟩
    | 2, hx => cases hx; exact ⟨_, _, rfl, rfl, rfl, rfl, by omega⟩
    | i + 3, hx => cases hx
  · simp only [fArgs, List.mem_cons, List.not_mem_nil, or_false] at hg
    rcases hg with rfl | rfl | rfl
    · exact uintOk h1
    · exact uintOk h2
    · exact txtOk ht
  · rintro (z | z | z)
    · exact z (by decide)
    · exact z (by decide)
    · exact absurd z (by show ¬ 20 < 3; decide)
  · unfold encLong
    omega
theorem sc_law : FnScope ["script", "before", "k", "reply", "row", "words", "fault"] ["script"] (defScope s_law) := ⟨rfl, rfl, rfl, by decide +kernel, rfl, by decide +kernel, by decide +kernel⟩
theorem ok_law (T : Txt0 P K mg A) (D : Dic w K A) : FnOk P w K mg base CX0 11 A.flaw A.dlaw ["script"] (sp_law K) := by
  refine T.Flaw.ok sc_law (fun vs H Q E h => ?_) (fun cdv Ar outer s H vs Q E hr h => ?_)
  · obtain ⟨a, ns, rfl, _⟩ := h
    rfl
  · obtain ⟨a, ns, rfl, hS, hlen, q⟩ := h
    refine ⟨_, (pss_cons (ps_set (i := 1) sc_law.nd rfl (Or.inl rfl) (pe_make0 T.MReply (ok_Reply___init__ T) (hr.mono (by decide)) rfl T.gReply T.bReply___init__ .nil pass0))
      (pss_cons (ps_for PassesOwn.never rfl (pi_range1 (by rfl) T.range (pa_cons (pe_op op_add (pe_callB (call_min2 rfl) (by rfl) T.min (by decide +kernel) (pa_cons (pe_callB call_len_seq (by rfl) T.len PySem.boot_len (pa_cons (pv 0) pa_nil)) (pa_cons pe_int pa_nil))) pe_int) pa_nil)) (pg_name (i := 2) sc_law.nd rfl (Or.inl rfl))
      (pss_cons (ps_set (i := 3) sc_law.nd rfl (Or.inl rfl) (pe_make0 T.MReply (ok_Reply___init__ T) (hr.mono (by decide)) rfl T.gReply T.bReply___init__ .nil pass0))
      (pss_cons (ps_if (pt_not (pt_val (pe_call (ok__law_deeds T) (hr.mono (by decide)) rfl T.g_law_deeds T.k_law_deeds T.b_law_deeds .nil pass0 (pa_cons (pv 0) (pa_cons (pv 2) (pa_cons (pv 3) (pa_cons (pe_lst pa_nil) (pa_cons (pe_lst pa_nil) (pa_cons (pe_lst pa_nil) pa_nil)))))))))
      (pss_one (ps_ret pe_bl))
      pss_nil)
      (pss_cons (ps_set (i := 4) sc_law.nd rfl (Or.inl rfl) (pe_op op_fdiv (pe_callTy call_int1 (by rfl) T.int (by decide +kernel) (pa_cons (pe_call (ok__law_row T) (hr.mono (by decide)) rfl T.g_law_row T.k_law_row T.b_law_row .nil pass0 (pa_cons (pv 0) (pa_cons (pv 2) pa_nil))) pa_nil)) pe_int))
      (pss_cons (ps_set (i := 5) sc_law.nd rfl (Or.inl rfl) (pe_call (ok__law_text T) (hr.mono (by decide)) rfl T.g_law_text T.k_law_text T.b_law_text .nil pass0 (pa_cons (pe_op op_fdiv (pv 4) pe_int) (pa_cons (pe_op op_mod (pv 4) pe_int) pa_nil))))
      (pss_cons (ps_set (i := 6) sc_law.nd rfl (Or.inl rfl) (pe_mkv T.oFault T.MFault T.TFault (ok_Fault___init__ T) (hr.mono (by decide)) T.bFault___init__ .nil pass0 (by rfl) T.gFault (pa_cons (pe_op op_add pe_int (pe_op op_mod (pv 4) pe_int)) (pa_cons (pe_op op_mod (pe_op op_fdiv (pv 4) pe_int) pe_int) (pa_cons (pv 5) pa_nil)))))
      (pss_cons (ps_if (PW.pt (pw_or (pt_not (pt_val (pe_callB call_isExo (by rfl) T.isinstance (by decide +kernel) (pa_cons (pv 6) (pa_cons (pe_glob (v := .ref A.CDisplayError) rfl T.gDisplayError rfl) pa_nil))))) (pw_or1 (pt_cmpR (op_neD hr.units) (pe_tup (pa_cons (pe_exf (pv 6)) (pa_cons (pe_exf (pv 6)) pa_nil))) (pe_tup (pa_cons (pe_op op_add pe_int (pe_op op_mod (pv 4) pe_int)) (pa_cons (pv 5) pa_nil))) (nomark _)))))
      (pss_one (ps_ret pe_bl))
      pss_nil)
      (pss_one (ps_if (pt_cmpR (op_neD hr.units) (pe_call (ok_fault_octets T) (hr.mono (by decide)) rfl T.gfault_octets T.kfault_octets T.bfault_octets .nil pass0 (pa_cons (pv 6) pa_nil)) (pe_call (ok_encode_message T) (hr.mono (by decide)) rfl T.gencode_message T.kencode_message T.bencode_message .nil passL (pa_cons pe_int (pa_cons pe_int (pa_cons (pe_lst (pa_cons (pe_tup (pa_cons pe_str (pa_cons (pe_op op_add pe_int (pe_op op_mod (pv 4) pe_int)) pa_nil))) (pa_cons (pe_tup (pa_cons pe_str (pa_cons (pe_op op_mod (pe_op op_fdiv (pv 4) pe_int) pe_int) pa_nil))) (pa_cons (pe_tup (pa_cons pe_str (pa_cons (pv 5) pa_nil))) pa_nil)))) pa_nil)))) (nomark _))
      (pss_one (ps_ret pe_bl))
      pss_nil)))))))))
      (pss_one (ps_ret (pe_and (pe_cmpR (op_eqD hr.units) (pe_fld (pv 1) rfl) (pe_lst pa_nil) (nomark _)) (pe_and (pe_cmpR (op_eqD hr.units) (pe_fld (pv 1) rfl) (pe_lst pa_nil) (nomark _)) (pe_one (pe_cmpR (op_eqD hr.units) (pe_fld (pv 1) rfl) (pe_lst pa_nil) (nomark _))))))))), ?_⟩
    walk_at "go"
    intro ob dxb fob fdxb hdob
    refine ⟨ob, dxb, rfl, upd_same, fun b1 b2 b3 b4 H1 kb obb lb d12 d13 d23 d14 d24 d34 => ⟨rfl, ?_⟩⟩
    have s1 : Same H H1 := fun c u e => kb c u (by rw [upd_ne (ne_of_none e fob), upd_ne (ne_of_none e fdxb)]; exact e) (ne_of_none e fob)
    have hs1 := s1.seq hS
    walk_at "go"
    rw [List.length_map]
    have eb1 := (lb b1 (by simp)).1
    have eb2 := (lb b2 (by simp)).1
    have eb3 := (lb b3 (by simp)).1
    refine ⟨by split <;> omega, by split <;> omega, ?_⟩
    have hn : ((if (40 : Int) < (ns.length : Int) then (40 : Int) else (ns.length : Int)) + 3).toNat ≤ 43 := by split <;> omega
    generalize ((if (40 : Int) < (ns.length : Int) then (40 : Int) else (ns.length : Int)) + 3).toNat = nn at hn ⊢
    refine for_range (lo := 0) (fun i σ H' => ∃ (U : Hp) (v2 v3 v4 v5 v6 : Option V), σ = [some (.ref a), some (.ref ob), v2, v3, v4, v5, v6] ∧ Same U H' ∧ SqL K U a (ns.map V.int) ∧ U ob = some (.ins A.CReply dxb (rpF (.ref b1) (.ref b2) (.ref b3) (.ref b4))) ∧ U b1 = some (.lst []) ∧ U b2 = some (.lst []) ∧ U b3 = some (.lst []))
      ⟨H1, none, none, none, none, none, rfl, Same.refl _, hs1, obb, eb1, eb2, eb3⟩ ?_ ?_
    · rintro i σ H2 hi ⟨U, v2, v3, v4, v5, v6, rfl, sU, uS, uob, ub1, ub2, ub3⟩
      walk_at "go"
      intro o dx fo fdx hdo
      refine ⟨o, dx, rfl, upd_same, fun p1 p2 p3 p4 H3 k3 o3 l3 e12 e13 e23 e14 e24 e34 => ⟨rfl, ?_⟩⟩
      have kU : Same U H3 := fun c u e => by
        have e2 := sU _ _ e
        exact k3 c u (by rw [upd_ne (ne_of_none e2 fo), upd_ne (ne_of_none e2 fdx)]; exact e2) (ne_of_none e2 fo)
      have fr : ∀ x ∈ [p4, p3, p2, p1], U x = none := fun x hx => by
        have := (l3 x hx).2
        have x1 : x ≠ o := fun z => by rw [z, upd_same] at this; cases this
        rw [upd_ne x1] at this
        have x2 : x ≠ dx := fun z => by rw [z, upd_same] at this; cases this
        rw [upd_ne x2] at this
        exact sU.free this
      have x3 : Same (upd U p4 (.lst [])) H3 := fun c u e => by
        by_cases hc : c = p4
        · subst hc; rw [upd_same] at e; rw [(l3 c (by simp)).1]; exact e
        · rw [upd_ne hc] at e; exact kU c u e
      have f4 : U p4 = none := fr p4 (by simp)
      have kv : ∀ c u, U c = some u → (upd U p4 (.lst [])) c = some u := fun c u e => by rw [upd_ne (ne_of_none e f4)]; exact e
      have uo : U o = none := sU.free fo
      have no4 : o ≠ p4 := fun z => by rw [z, (l3 p4 (by simp)).1] at o3; cases o3
      have R3 : RpAt A.CReply K (upd U p4 (.lst [])) H3 o p1 p2 p3 p4 [] [] [] :=
        ⟨x3, by rw [upd_ne no4]; exact uo, ⟨dx, o3⟩, upd_same, by rw [upd_ne e14]; exact fr p1 (by simp), by rw [upd_ne e24]; exact fr p2 (by simp), by rw [upd_ne e34]; exact fr p3 (by simp), e12, e13, e23, ⟨[], (l3 p1 (by simp)).1, .nil⟩, (l3 p2 (by simp)).1, ⟨[], (l3 p3 (by simp)).1, .nil⟩⟩
      have kS : Same U (upd U p4 (.lst [])) := kv
      generalize upd U p4 (.lst []) = U3 at x3 kv R3 kS
      have m1 := (l3 p1 (by simp)).1
      have m2 := (l3 p2 (by simp)).1
      have m3 := (l3 p3 (by simp)).1
      walk_at "go"
      rename_i qt hqt qe hqe qw hqw
      have xt := Ext.skip (o := .lst []) R3.sU hqt
      have Rt := R3.ext xt.grow (fun c u e _ => xt.hh _ _ e)
      have xe := Ext.skip (o := .lst []) Rt.sU hqe
      have Re := Rt.ext xe.grow (fun c u e _ => xe.hh _ _ e)
      have xw := Ext.skip (o := .lst []) Re.sU hqw
      have Rw := Re.ext xw.grow (fun c u e _ => xw.hh _ _ e)
      have et3 := xw.hh _ _ (xe.hh _ _ (upd_same : (upd H3 qt (.lst [])) qt = some (.lst [])))
      have ee3 := xw.hh _ _ (upd_same : (upd (upd H3 qt (.lst [])) qe (.lst [])) qe = some (.lst []))
      have ew3 : (upd (upd (upd H3 qt (.lst [])) qe (.lst [])) qw (.lst [])) qw = some (.lst []) := upd_same
      have nte : qt ≠ qe := ne_of_none (upd_same : (upd H3 qt (.lst [])) qt = some (.lst [])) hqe
      have ntw : qt ≠ qw := ne_of_none (xe.hh _ _ (upd_same : (upd H3 qt (.lst [])) qt = some (.lst []))) hqw
      have new_ : qe ≠ qw := ne_of_none (upd_same : (upd (upd H3 qt (.lst [])) qe (.lst [])) qe = some (.lst [])) hqw
      have hf : ∀ {x p : Addr}, H3 p = some (.lst []) → (x = qt ∨ x = qe ∨ x = qw) → x ≠ p := fun {x p} e hx z => by
        rcases hx with rfl | rfl | rfl
        · rw [z, e] at hqt; cases hqt
        · rw [z, xt.hh _ _ e] at hqe; cases hqe
        · rw [z, xe.hh _ _ (xt.hh _ _ e)] at hqw; cases hqw
      have L3_ : L3 K U3 (upd (upd (upd H3 qt (.lst [])) qe (.lst [])) qw (.lst [])) qt qe qw [] [] [] := ⟨R3.sU.free hqt, Rt.sU.free hqe, Re.sU.free hqw, nte, ntw, new_, ⟨[], et3, .nil⟩, ee3, ⟨[], ew3, .nil⟩⟩
      generalize upd (upd (upd H3 qt (.lst [])) qe (.lst [])) qw (.lst []) = H4 at Rw L3_ ⊢
      try unfold tNil
      dsimp only
      refine ⟨a, o, p1, p2, p3, p4, qt, qe, qw, ns, i, U3, ?_, kS.seq uS, Rw, L3_, fun x hx => ?_, szOk T D, fun U5 H5 g5 => ?_⟩
      · show [V.ref a, V.int (0 + (i : Int)), _, _, _, _] = [V.ref a, V.int (i : Int), _, _, _, _]
        rw [Int.zero_add]
      · simp only [List.mem_cons, List.not_mem_nil, or_false] at hx
        exact ⟨hf m1 hx, hf m2 hx, hf m3 hx⟩
      have s5 : Same U H5 := (kS.trans g5.vv).trans g5.vh
      clear L3_ Rw xw xe xt Re Rt hf et3 ee3 ew3 hqt hqe hqw R3 x3 kv l3 k3 o3
      walk_at "gx"
      refine ⟨a, ns, i, ?_, s5.seq uS, ?_⟩
      · show [V.ref a, V.int (0 + (i : Int))] = [V.ref a, V.int (i : Int)]
        rw [Int.zero_add]
      have hr0 := lawRow_nn ns i
      generalize lawRow ns i = row at hr0 ⊢
      walk_at "gx"
      obtain ⟨m, hm⟩ : ∃ m : Nat, row / 7 % 40 = m := ⟨(row / 7 % 40).toNat, by omega⟩
      refine ⟨row / 7 / 3, m, ?_, by omega, fun H6 s6 => ?_⟩
      · show [V.int (row / 7 / 3), V.int (row / 7 % 40)] = _
        rw [hm]
      have ht := isText_law (row / 7 / 3) m (by omega)
      have hwl : (lawTextS (row / 7 / 3) m).length ≤ 1000 := by rw [lawTextS_len]; omega
      have hso := strOk_law (row / 7 / 3) m
      generalize lawTextS (row / 7 / 3) m = wd at ht hwl hso ⊢
      have hn : 0 ≤ 1 + row / 7 % 4294967295 ∧ 1 + row / 7 % 4294967295 ≤ 4294967295 := by omega
      have hc : 0 ≤ row / 7 / 3 % 20 ∧ row / 7 / 3 % 20 ≤ 4294967295 := by omega
      walk_at "gx"
      refine ⟨(by show 3 ≤ 1000; decide), fun fa hfa => ?_⟩
      refine ⟨fa, 1 + row / 7 % 4294967295, row / 7 / 3 % 20, wd, rfl, upd_same, fun dxf H7 k7 ev7 => ⟨rfl, ?_⟩⟩
      have s7 : Same U H7 := fun c u e => by
        have e2 := s6 _ _ (s5 _ _ e)
        exact k7 c u (by rw [upd_ne (ne_of_none e2 hfa)]; exact e2) (ne_of_none e2 hfa)
      walk_at "gx"
      refine ⟨fa, A.CFault, dxf, _, .ref A.CDisplayError, .ref A.CDisplayError, true, rfl, ev7, T.iXFault, (fun u h => h), T.isFault_DisplayError, ?_⟩
      walk_at "gx"
      refine ⟨fa, A.CFault, dxf, _, _, rfl, ev7, T.xfFault, T.nFault_number, ff_n _ _ _, ?_⟩
      walk_at "gx"
      refine ⟨fa, A.CFault, dxf, _, _, rfl, ev7, T.xfFault, T.nFault_words, ff_w _ _ _, ?_⟩
      walk_at "gx"
      rename_i q1 hq1 q2 hq2
      have shT : Sh 1 (.tuple [.int (1 + row / 7 % 4294967295), .str wd]) := sh_tuple fun d hd => by
        simp only [List.mem_cons, List.not_mem_nil, or_false] at hd
        rcases hd with rfl | rfl
        · exact sh_int _
        · exact sh_str hso
      have sq1 := same_upd (o := .tup [.int (1 + row / 7 % 4294967295), .str wd]) hq1
      have sq2 := same_upd (o := .tup [.int (1 + row / 7 % 4294967295), .str wd]) hq2
      refine t_ne (d := .tuple [.int (1 + row / 7 % 4294967295), .str wd]) (e := .tuple [.int (1 + row / 7 % 4294967295), .str wd]) (.tup (SqT.of (sq2 _ _ upd_same)) (.cons (.int _) (.cons (.str _) .nil))) (.tup (SqT.of upd_same) (.cons (.int _) (.cons (.str _) .nil))) shT.shaped shT.shaped ⟨_, rfl, ne_self shT.shaped rfl ?_⟩
      have s8 := s7.trans (sq1.trans sq2)
      have ev8 := ev7.to (sq1.trans sq2)
      generalize upd (upd H7 q1 (.tup [.int (1 + row / 7 % 4294967295), .str wd])) q2 (.tup [.int (1 + row / 7 % 4294967295), .str wd]) = H8 at s8 ev8 ⊢
      walk_at "gx"
      refine ⟨fa, dxf, 1 + row / 7 % 4294967295, row / 7 / 3 % 20, wd, msgOcts 1 0 (bodyOf (fArgs (1 + row / 7 % 4294967295) (row / 7 / 3 % 20) wd)), rfl, ev8, fun va H9 s9 e9 => fEv T D hn hc ht hwl e9, fun pf H9 nf s9 e9 => ?_⟩
      walk_at "gx"
      rename_i r1 h1 r2 h2 r3 h3 r4 h4
      have z1 := same_upd (o := .tup [.str "uint", .int (1 + row / 7 % 4294967295)]) h1
      have z2 := same_upd (o := .tup [.str "uint", .int (row / 7 / 3 % 20)]) h2
      have z3 := same_upd (o := .tup [.str "text", .str wd]) h3
      have z4 := same_upd (o := .lst [.ref r1, .ref r2, .ref r3]) h4
      have w1 := z4 _ _ (z3 _ _ (z2 _ _ (upd_same : (upd H9 r1 (.tup [.str "uint", .int (1 + row / 7 % 4294967295)])) r1 = _)))
      have w2 := z4 _ _ (z3 _ _ (upd_same : (upd (upd H9 r1 (.tup [.str "uint", .int (1 + row / 7 % 4294967295)])) r2 (.tup [.str "uint", .int (row / 7 / 3 % 20)])) r2 = _))
      have w3 := z4 _ _ (upd_same : (upd (upd (upd H9 r1 (.tup [.str "uint", .int (1 + row / 7 % 4294967295)])) r2 (.tup [.str "uint", .int (row / 7 / 3 % 20)])) r3 (.tup [.str "text", .str wd])) r3 = _)
      have hb := fBody_len (1 + row / 7 % 4294967295) (row / 7 / 3 % 20) wd hwl
      have zz := z1.trans (z2.trans (z3.trans z4))
      dsimp only
      refine ⟨1, 0, r4, fArgs (1 + row / 7 % 4294967295) (row / 7 / 3 % 20) wd, rfl, ⟨⟨[.ref r1, .ref r2, .ref r3], SqL.of upd_same, rfl, fun i x hx => ?_⟩, fun g hg => ?_⟩, by omega, by show 3 < 60000; decide, fun z => ?_, fun _ z => ?_, fun _ _ pe H11 n11 => ?_⟩
      · match i, hx with
        | 0, hx => cases hx; exact ⟨_, r1, _, rfl, rfl, SqT.of w1, rfl⟩
        | 1, hx => cases hx; exact ⟨_, r2, _, rfl, rfl, SqT.of w2, rfl⟩
        | 2, hx => cases hx; exact ⟨_, r3, _, rfl, rfl, SqT.of w3, rfl, by omega⟩
        | i + 3, hx => cases hx
      · simp only [fArgs, List.mem_cons, List.not_mem_nil, or_false] at hg
        rcases hg with rfl | rfl | rfl
        · exact uintOk hn
        · exact uintOk hc
        · exact txtOk ht
      · exfalso
        rcases z with z | z | z
        · exact z (by decide)
        · exact z (by decide)
        · exact absurd z (by show ¬ 20 < 3; decide)
      · exfalso
        unfold encLong at z
        omega
      · have s11 := zz.trans n11.same
        refine t_ne (dp_ints (SqL.of (s11 _ _ e9))) (dp_ints (SqL.of n11.at_)) (sh_ints _).shaped (sh_ints _).shaped ⟨_, rfl, ne_self (sh_ints _).shaped rfl ?_⟩
        exact ⟨U, _, _, _, _, _, rfl, s8.trans (s9.trans s11), uS, uob, ub1, ub2, ub3⟩
    · rintro σ H2 ⟨U, v2, v3, v4, v5, v6, rfl, sU, uS, uob, ub1, ub2, ub3⟩
      walk_at "go"
      refine ⟨ob, _, dxb, _, _, rfl, sU _ _ uob, T.clReply, T.nReply_told, rpF_t _ _ _ _, ?_⟩
      walk_at "go"
      rename_i q1 hq1
      have s2 := sU.trans (same_upd (o := .lst []) hq1)
      refine t_eq (d := pInts []) (e := pInts []) (dp_ints (xs := []) (SqL.of (s2 _ _ ub1))) (dp_ints (xs := []) (SqL.of upd_same)) (sh_ints _).shaped (sh_ints _).shaped ?_
      rw [(sh_ints _).self]
      generalize upd H2 q1 (.lst []) = H3 at s2 ⊢
      walk_at "go"
      refine ⟨ob, _, dxb, _, _, rfl, s2 _ _ uob, T.clReply, T.nReply_ended, rpF_e _ _ _ _, ?_⟩
      walk_at "go"
      rename_i q2 hq2
      have s3 := s2.trans (same_upd (o := .lst []) hq2)
      refine t_eq (d := pInts []) (e := pInts []) (dp_ints (xs := []) (SqL.of (s3 _ _ ub2))) (dp_ints (xs := []) (SqL.of upd_same)) (sh_ints _).shaped (sh_ints _).shaped ?_
      rw [(sh_ints _).self]
      generalize upd H3 q2 (.lst []) = H4 at s3 ⊢
      walk_at "go"
      refine ⟨ob, _, dxb, _, _, rfl, s3 _ _ uob, T.clReply, T.nReply_wishes, rpF_w _ _ _ _, ?_⟩
      walk_at "go"
      rename_i q3 hq3
      have s4 := s3.trans (same_upd (o := .lst []) hq3)
      refine t_eq (d := pInts []) (e := pInts []) (dp_ints (xs := []) (SqL.of (s4 _ _ ub3))) (dp_ints (xs := []) (SqL.of upd_same)) (sh_ints _).shaped (sh_ints _).shaped ?_
      rw [(sh_ints _).self]
      exact q _
end
theorem all_mk {P : Program} (hP : Prg P) {w : World} {K : PySem.W.Frag} {h : Heap} {mg : Str → Option Value} {fa : Addr} (X : K.In h) (G : h.Ns mainGlobals mg) (hfa : mg "law" = some (.ref fa))
    {fis_integer : Addr} {od1 an1 : Option Addr} {sl1 : Array (Option Value)} {oc1 kV1 dc1 pm1 cd1 ct1 : Value}
    {fis_text : Addr} {od2 an2 : Option Addr} {sl2 : Array (Option Value)} {oc2 kV2 dc2 pm2 cd2 ct2 : Value}
    {fnumber_octets : Addr} {od3 an3 : Option Addr} {sl3 : Array (Option Value)} {oc3 kV3 dc3 pm3 cd3 ct3 : Value}
    {ffield_octets : Addr} {od4 an4 : Option Addr} {sl4 : Array (Option Value)} {oc4 kV4 dc4 pm4 cd4 ct4 : Value}
    {f_is_code : Addr} {od5 an5 : Option Addr} {sl5 : Array (Option Value)} {oc5 kV5 dc5 pm5 cd5 ct5 : Value}
    {f_is_of : Addr} {od6 an6 : Option Addr} {sl6 : Array (Option Value)} {oc6 kV6 dc6 pm6 cd6 ct6 : Value}
    {f_are_octets : Addr} {od7 an7 : Option Addr} {sl7 : Array (Option Value)} {oc7 kV7 dc7 pm7 cd7 ct7 : Value}
    {f_is_bound : Addr} {od8 an8 : Option Addr} {sl8 : Array (Option Value)} {oc8 kV8 dc8 pm8 cd8 ct8 : Value}
    {f_text_octets : Addr} {od9 an9 : Option Addr} {sl9 : Array (Option Value)} {oc9 kV9 dc9 pm9 cd9 ct9 : Value}
    {f_padded : Addr} {od10 an10 : Option Addr} {sl10 : Array (Option Value)} {oc10 kV10 dc10 pm10 cd10 ct10 : Value}
    {fencode_message : Addr} {od11 an11 : Option Addr} {sl11 : Array (Option Value)} {oc11 kV11 dc11 pm11 cd11 ct11 : Value}
    {fevent_octets : Addr} {od12 an12 : Option Addr} {sl12 : Array (Option Value)} {oc12 kV12 dc12 pm12 cd12 ct12 : Value}
    {f_opcode_of : Addr} {od13 an13 : Option Addr} {sl13 : Array (Option Value)} {oc13 kV13 dc13 pm13 cd13 ct13 : Value}
    {ffault_octets : Addr} {od14 an14 : Option Addr} {sl14 : Array (Option Value)} {oc14 kV14 dc14 pm14 cd14 ct14 : Value}
    {f_law_cell : Addr} {od15 an15 : Option Addr} {sl15 : Array (Option Value)} {oc15 kV15 dc15 pm15 cd15 ct15 : Value}
    {f_law_row : Addr} {od16 an16 : Option Addr} {sl16 : Array (Option Value)} {oc16 kV16 dc16 pm16 cd16 ct16 : Value}
    {f_law_sign : Addr} {od17 an17 : Option Addr} {sl17 : Array (Option Value)} {oc17 kV17 dc17 pm17 cd17 ct17 : Value}
    {f_law_text : Addr} {od18 an18 : Option Addr} {sl18 : Array (Option Value)} {oc18 kV18 dc18 pm18 cd18 ct18 : Value}
    {f_law_deeds : Addr} {od19 an19 : Option Addr} {sl19 : Array (Option Value)} {oc19 kV19 dc19 pm19 cd19 ct19 : Value}
    {flaw : Addr} {od20 an20 : Option Addr} {sl20 : Array (Option Value)} {oc20 kV20 dc20 pm20 cd20 ct20 : Value}
    {fFault___init__ : Addr} {od21 an21 : Option Addr} {sl21 : Array (Option Value)} {oc21 kV21 dc21 pm21 ct21 : Value}
    {cc21 cda21 : Addr} {cl21 ccl21 : Value} {cld21 cdd21 : Option Addr} {csl21 ccs21 : Array (Option Value)} {fvs21 : Array Value} {tf21 : Tok} {cdD21 : ClassData}
    {fReply___init__ : Addr} {od22 an22 : Option Addr} {sl22 : Array (Option Value)} {oc22 kV22 dc22 pm22 cd22 ct22 : Value}
    {fReply_tell : Addr} {od23 an23 : Option Addr} {sl23 : Array (Option Value)} {oc23 kV23 dc23 pm23 cd23 ct23 : Value}
    {fReply_end : Addr} {od24 an24 : Option Addr} {sl24 : Array (Option Value)} {oc24 kV24 dc24 pm24 cd24 ct24 : Value}
    {fReply_wish : Addr} {od25 an25 : Option Addr} {sl25 : Array (Option Value)} {oc25 kV25 dc25 pm25 cd25 ct25 : Value}
    {tDISPLAY : Tok}
    {tGREATEST_NUMBER : Tok}
    {tLEAST_INT : Tok}
    {tGREATEST_INT : Tok}
    {tLONGEST_TEXT : Tok}
    {tMOST_OCTETS : Tok}
    {t_FIRST_CODE : Tok}
    {t_LAST_CODE : Tok}
    {t_PERCENT_CODE : Tok}
    {tHEADER_SIZE : Tok}
    {tGREATEST_SIZE : Tok}
    {tGREATEST_OPCODE : Tok}
    {tMOST_ARGUMENTS : Tok}
    {a_EVENTS : Addr}
    {es_EVENTS : Array DictEntry} {nn_EVENTS : Nat}
    {a_EVENTS_k0 : Addr}
    {ow_EVENTS_k0 : Option Addr} {nw_EVENTS_k0 : Nat} {sw_EVENTS_k0 : Array (Option Value)}
    {a_EVENTS_k0_0 : Addr}
    {tk_EVENTS_k0_0_0 : Tok}
    {ow_EVENTS_k0_0 : Option Addr} {nw_EVENTS_k0_0 : Nat} {sw_EVENTS_k0_0 : Array (Option Value)}
    {a_EVENTS_k0_0_1 : Addr}
    {tk_EVENTS_k0_0_1_0 tk_EVENTS_k0_0_1_1 tk_EVENTS_k0_0_1_2 : Tok}
    {ow_EVENTS_k0_0_1 : Option Addr} {nw_EVENTS_k0_0_1 : Nat} {sw_EVENTS_k0_0_1 : Array (Option Value)}
    {a_EVENTS_k0_1 : Addr}
    {tk_EVENTS_k0_1_0 : Tok}
    {ow_EVENTS_k0_1 : Option Addr} {nw_EVENTS_k0_1 : Nat} {sw_EVENTS_k0_1 : Array (Option Value)}
    {a_EVENTS_k0_1_1 : Addr}
    {tk_EVENTS_k0_1_1_0 : Tok}
    {ow_EVENTS_k0_1_1 : Option Addr} {nw_EVENTS_k0_1_1 : Nat} {sw_EVENTS_k0_1_1 : Array (Option Value)}
    {a_EVENTS_k1 : Addr}
    {ow_EVENTS_k1 : Option Addr} {nw_EVENTS_k1 : Nat} {sw_EVENTS_k1 : Array (Option Value)}
    {a_EVENTS_k1_0 : Addr}
    {tk_EVENTS_k1_0_0 : Tok}
    {ow_EVENTS_k1_0 : Option Addr} {nw_EVENTS_k1_0 : Nat} {sw_EVENTS_k1_0 : Array (Option Value)}
    {a_EVENTS_k1_0_1 : Addr}
    {tk_EVENTS_k1_0_1_0 : Tok}
    {ow_EVENTS_k1_0_1 : Option Addr} {nw_EVENTS_k1_0_1 : Nat} {sw_EVENTS_k1_0_1 : Array (Option Value)}
    {a_EVENTS_k2 : Addr}
    {ow_EVENTS_k2 : Option Addr} {nw_EVENTS_k2 : Nat} {sw_EVENTS_k2 : Array (Option Value)}
    {a_EVENTS_k2_0 : Addr}
    {tk_EVENTS_k2_0_0 : Tok}
    {ow_EVENTS_k2_0 : Option Addr} {nw_EVENTS_k2_0 : Nat} {sw_EVENTS_k2_0 : Array (Option Value)}
    {a_EVENTS_k2_0_1 : Addr}
    {tk_EVENTS_k2_0_1_0 tk_EVENTS_k2_0_1_1 : Tok}
    {ow_EVENTS_k2_0_1 : Option Addr} {nw_EVENTS_k2_0_1 : Nat} {sw_EVENTS_k2_0_1 : Array (Option Value)}
    {a_EVENTS_k2_1 : Addr}
    {tk_EVENTS_k2_1_0 : Tok}
    {ow_EVENTS_k2_1 : Option Addr} {nw_EVENTS_k2_1 : Nat} {sw_EVENTS_k2_1 : Array (Option Value)}
    {a_EVENTS_k2_1_1 : Addr}
    {tk_EVENTS_k2_1_1_0 : Tok}
    {ow_EVENTS_k2_1_1 : Option Addr} {nw_EVENTS_k2_1_1 : Nat} {sw_EVENTS_k2_1_1 : Array (Option Value)}
    {a_EVENTS_k3 : Addr}
    {ow_EVENTS_k3 : Option Addr} {nw_EVENTS_k3 : Nat} {sw_EVENTS_k3 : Array (Option Value)}
    {a_EVENTS_k3_0 : Addr}
    {tk_EVENTS_k3_0_0 : Tok}
    {ow_EVENTS_k3_0 : Option Addr} {nw_EVENTS_k3_0 : Nat} {sw_EVENTS_k3_0 : Array (Option Value)}
    {a_EVENTS_k3_0_1 : Addr}
    {ow_EVENTS_k3_0_1 : Option Addr} {nw_EVENTS_k3_0_1 : Nat} {sw_EVENTS_k3_0_1 : Array (Option Value)}
    {a_EVENTS_k4 : Addr}
    {ow_EVENTS_k4 : Option Addr} {nw_EVENTS_k4 : Nat} {sw_EVENTS_k4 : Array (Option Value)}
    {a_EVENTS_k4_0 : Addr}
    {tk_EVENTS_k4_0_0 : Tok}
    {ow_EVENTS_k4_0 : Option Addr} {nw_EVENTS_k4_0 : Nat} {sw_EVENTS_k4_0 : Array (Option Value)}
    {a_EVENTS_k4_0_1 : Addr}
    {tk_EVENTS_k4_0_1_0 tk_EVENTS_k4_0_1_1 tk_EVENTS_k4_0_1_2 tk_EVENTS_k4_0_1_3 : Tok}
    {ow_EVENTS_k4_0_1 : Option Addr} {nw_EVENTS_k4_0_1 : Nat} {sw_EVENTS_k4_0_1 : Array (Option Value)}
    {a_EVENTS_k5 : Addr}
    {ow_EVENTS_k5 : Option Addr} {nw_EVENTS_k5 : Nat} {sw_EVENTS_k5 : Array (Option Value)}
    {a_EVENTS_k5_0 : Addr}
    {tk_EVENTS_k5_0_0 : Tok}
    {ow_EVENTS_k5_0 : Option Addr} {nw_EVENTS_k5_0 : Nat} {sw_EVENTS_k5_0 : Array (Option Value)}
    {a_EVENTS_k5_0_1 : Addr}
    {tk_EVENTS_k5_0_1_0 tk_EVENTS_k5_0_1_1 tk_EVENTS_k5_0_1_2 tk_EVENTS_k5_0_1_3 : Tok}
    {ow_EVENTS_k5_0_1 : Option Addr} {nw_EVENTS_k5_0_1 : Nat} {sw_EVENTS_k5_0_1 : Array (Option Value)}
    {a_EVENTS_k5_1 : Addr}
    {tk_EVENTS_k5_1_0 : Tok}
    {ow_EVENTS_k5_1 : Option Addr} {nw_EVENTS_k5_1 : Nat} {sw_EVENTS_k5_1 : Array (Option Value)}
    {a_EVENTS_k5_1_1 : Addr}
    {ow_EVENTS_k5_1_1 : Option Addr} {nw_EVENTS_k5_1_1 : Nat} {sw_EVENTS_k5_1_1 : Array (Option Value)}
    {a_EVENTS_k5_2 : Addr}
    {tk_EVENTS_k5_2_0 : Tok}
    {ow_EVENTS_k5_2 : Option Addr} {nw_EVENTS_k5_2 : Nat} {sw_EVENTS_k5_2 : Array (Option Value)}
    {a_EVENTS_k5_2_1 : Addr}
    {tk_EVENTS_k5_2_1_0 : Tok}
    {ow_EVENTS_k5_2_1 : Option Addr} {nw_EVENTS_k5_2_1 : Nat} {sw_EVENTS_k5_2_1 : Array (Option Value)}
    {a_EVENTS_k5_3 : Addr}
    {tk_EVENTS_k5_3_0 : Tok}
    {ow_EVENTS_k5_3 : Option Addr} {nw_EVENTS_k5_3 : Nat} {sw_EVENTS_k5_3 : Array (Option Value)}
    {a_EVENTS_k5_3_1 : Addr}
    {tk_EVENTS_k5_3_1_0 : Tok}
    {ow_EVENTS_k5_3_1 : Option Addr} {nw_EVENTS_k5_3_1 : Nat} {sw_EVENTS_k5_3_1 : Array (Option Value)}
    {a_EVENTS_k6 : Addr}
    {ow_EVENTS_k6 : Option Addr} {nw_EVENTS_k6 : Nat} {sw_EVENTS_k6 : Array (Option Value)}
    {a_EVENTS_k6_0 : Addr}
    {tk_EVENTS_k6_0_0 : Tok}
    {ow_EVENTS_k6_0 : Option Addr} {nw_EVENTS_k6_0 : Nat} {sw_EVENTS_k6_0 : Array (Option Value)}
    {a_EVENTS_k6_0_1 : Addr}
    {tk_EVENTS_k6_0_1_0 tk_EVENTS_k6_0_1_1 tk_EVENTS_k6_0_1_2 tk_EVENTS_k6_0_1_3 : Tok}
    {ow_EVENTS_k6_0_1 : Option Addr} {nw_EVENTS_k6_0_1 : Nat} {sw_EVENTS_k6_0_1 : Array (Option Value)}
    {a_EVENTS_k6_1 : Addr}
    {tk_EVENTS_k6_1_0 : Tok}
    {ow_EVENTS_k6_1 : Option Addr} {nw_EVENTS_k6_1 : Nat} {sw_EVENTS_k6_1 : Array (Option Value)}
    {a_EVENTS_k6_1_1 : Addr}
    {ow_EVENTS_k6_1_1 : Option Addr} {nw_EVENTS_k6_1_1 : Nat} {sw_EVENTS_k6_1_1 : Array (Option Value)}
    {a_EVENTS_k7 : Addr}
    {ow_EVENTS_k7 : Option Addr} {nw_EVENTS_k7 : Nat} {sw_EVENTS_k7 : Array (Option Value)}
    {a_EVENTS_k7_0 : Addr}
    {tk_EVENTS_k7_0_0 : Tok}
    {ow_EVENTS_k7_0 : Option Addr} {nw_EVENTS_k7_0 : Nat} {sw_EVENTS_k7_0 : Array (Option Value)}
    {a_EVENTS_k7_0_1 : Addr}
    {tk_EVENTS_k7_0_1_0 tk_EVENTS_k7_0_1_1 tk_EVENTS_k7_0_1_2 : Tok}
    {ow_EVENTS_k7_0_1 : Option Addr} {nw_EVENTS_k7_0_1 : Nat} {sw_EVENTS_k7_0_1 : Array (Option Value)}
    {a_EVENTS_k7_1 : Addr}
    {tk_EVENTS_k7_1_0 : Tok}
    {ow_EVENTS_k7_1 : Option Addr} {nw_EVENTS_k7_1 : Nat} {sw_EVENTS_k7_1 : Array (Option Value)}
    {a_EVENTS_k7_1_1 : Addr}
    {tk_EVENTS_k7_1_1_0 : Tok}
    {ow_EVENTS_k7_1_1 : Option Addr} {nw_EVENTS_k7_1_1 : Nat} {sw_EVENTS_k7_1_1 : Array (Option Value)}
    {a_EVENTS_k7_2 : Addr}
    {tk_EVENTS_k7_2_0 : Tok}
    {ow_EVENTS_k7_2 : Option Addr} {nw_EVENTS_k7_2 : Nat} {sw_EVENTS_k7_2 : Array (Option Value)}
    {a_EVENTS_k7_2_1 : Addr}
    {tk_EVENTS_k7_2_1_0 tk_EVENTS_k7_2_1_1 tk_EVENTS_k7_2_1_2 : Tok}
    {ow_EVENTS_k7_2_1 : Option Addr} {nw_EVENTS_k7_2_1 : Nat} {sw_EVENTS_k7_2_1 : Array (Option Value)}
    {a_EVENTS_k7_3 : Addr}
    {tk_EVENTS_k7_3_0 : Tok}
    {ow_EVENTS_k7_3 : Option Addr} {nw_EVENTS_k7_3 : Nat} {sw_EVENTS_k7_3 : Array (Option Value)}
    {a_EVENTS_k7_3_1 : Addr}
    {tk_EVENTS_k7_3_1_0 tk_EVENTS_k7_3_1_1 tk_EVENTS_k7_3_1_2 tk_EVENTS_k7_3_1_3 : Tok}
    {ow_EVENTS_k7_3_1 : Option Addr} {nw_EVENTS_k7_3_1 : Nat} {sw_EVENTS_k7_3_1 : Array (Option Value)}
    {a_EVENTS_k7_4 : Addr}
    {tk_EVENTS_k7_4_0 : Tok}
    {ow_EVENTS_k7_4 : Option Addr} {nw_EVENTS_k7_4 : Nat} {sw_EVENTS_k7_4 : Array (Option Value)}
    {a_EVENTS_k7_4_1 : Addr}
    {tk_EVENTS_k7_4_1_0 tk_EVENTS_k7_4_1_1 tk_EVENTS_k7_4_1_2 : Tok}
    {ow_EVENTS_k7_4_1 : Option Addr} {nw_EVENTS_k7_4_1 : Nat} {sw_EVENTS_k7_4_1 : Array (Option Value)}
    {a_EVENTS_k8 : Addr}
    {ow_EVENTS_k8 : Option Addr} {nw_EVENTS_k8 : Nat} {sw_EVENTS_k8 : Array (Option Value)}
    {a_EVENTS_k8_0 : Addr}
    {tk_EVENTS_k8_0_0 : Tok}
    {ow_EVENTS_k8_0 : Option Addr} {nw_EVENTS_k8_0 : Nat} {sw_EVENTS_k8_0 : Array (Option Value)}
    {a_EVENTS_k8_0_1 : Addr}
    {tk_EVENTS_k8_0_1_0 : Tok}
    {ow_EVENTS_k8_0_1 : Option Addr} {nw_EVENTS_k8_0_1 : Nat} {sw_EVENTS_k8_0_1 : Array (Option Value)}
    {a_EVENTS_k8_1 : Addr}
    {tk_EVENTS_k8_1_0 : Tok}
    {ow_EVENTS_k8_1 : Option Addr} {nw_EVENTS_k8_1 : Nat} {sw_EVENTS_k8_1 : Array (Option Value)}
    {a_EVENTS_k8_1_1 : Addr}
    {tk_EVENTS_k8_1_1_0 : Tok}
    {ow_EVENTS_k8_1_1 : Option Addr} {nw_EVENTS_k8_1_1 : Nat} {sw_EVENTS_k8_1_1 : Array (Option Value)}
    {a_EVENTS_k8_2 : Addr}
    {tk_EVENTS_k8_2_0 : Tok}
    {ow_EVENTS_k8_2 : Option Addr} {nw_EVENTS_k8_2 : Nat} {sw_EVENTS_k8_2 : Array (Option Value)}
    {a_EVENTS_k8_2_1 : Addr}
    {tk_EVENTS_k8_2_1_0 : Tok}
    {ow_EVENTS_k8_2_1 : Option Addr} {nw_EVENTS_k8_2_1 : Nat} {sw_EVENTS_k8_2_1 : Array (Option Value)}
    {a_EVENTS_k8_3 : Addr}
    {tk_EVENTS_k8_3_0 : Tok}
    {ow_EVENTS_k8_3 : Option Addr} {nw_EVENTS_k8_3 : Nat} {sw_EVENTS_k8_3 : Array (Option Value)}
    {a_EVENTS_k8_3_1 : Addr}
    {tk_EVENTS_k8_3_1_0 tk_EVENTS_k8_3_1_1 tk_EVENTS_k8_3_1_2 tk_EVENTS_k8_3_1_3 : Tok}
    {ow_EVENTS_k8_3_1 : Option Addr} {nw_EVENTS_k8_3_1 : Nat} {sw_EVENTS_k8_3_1 : Array (Option Value)}
    {a_EVENTS_k8_4 : Addr}
    {tk_EVENTS_k8_4_0 : Tok}
    {ow_EVENTS_k8_4 : Option Addr} {nw_EVENTS_k8_4 : Nat} {sw_EVENTS_k8_4 : Array (Option Value)}
    {a_EVENTS_k8_4_1 : Addr}
    {tk_EVENTS_k8_4_1_0 tk_EVENTS_k8_4_1_1 tk_EVENTS_k8_4_1_2 : Tok}
    {ow_EVENTS_k8_4_1 : Option Addr} {nw_EVENTS_k8_4_1 : Nat} {sw_EVENTS_k8_4_1 : Array (Option Value)}
    {a_EVENTS_k9 : Addr}
    {ow_EVENTS_k9 : Option Addr} {nw_EVENTS_k9 : Nat} {sw_EVENTS_k9 : Array (Option Value)}
    {a_EVENTS_k9_0 : Addr}
    {tk_EVENTS_k9_0_0 : Tok}
    {ow_EVENTS_k9_0 : Option Addr} {nw_EVENTS_k9_0 : Nat} {sw_EVENTS_k9_0 : Array (Option Value)}
    {a_EVENTS_k9_0_1 : Addr}
    {tk_EVENTS_k9_0_1_0 tk_EVENTS_k9_0_1_1 : Tok}
    {ow_EVENTS_k9_0_1 : Option Addr} {nw_EVENTS_k9_0_1 : Nat} {sw_EVENTS_k9_0_1 : Array (Option Value)}
    {a_EVENTS_k9_1 : Addr}
    {tk_EVENTS_k9_1_0 : Tok}
    {ow_EVENTS_k9_1 : Option Addr} {nw_EVENTS_k9_1 : Nat} {sw_EVENTS_k9_1 : Array (Option Value)}
    {a_EVENTS_k9_1_1 : Addr}
    {tk_EVENTS_k9_1_1_0 tk_EVENTS_k9_1_1_1 tk_EVENTS_k9_1_1_2 : Tok}
    {ow_EVENTS_k9_1_1 : Option Addr} {nw_EVENTS_k9_1_1 : Nat} {sw_EVENTS_k9_1_1 : Array (Option Value)}
    {a_EVENTS_k9_2 : Addr}
    {tk_EVENTS_k9_2_0 : Tok}
    {ow_EVENTS_k9_2 : Option Addr} {nw_EVENTS_k9_2 : Nat} {sw_EVENTS_k9_2 : Array (Option Value)}
    {a_EVENTS_k9_2_1 : Addr}
    {tk_EVENTS_k9_2_1_0 : Tok}
    {ow_EVENTS_k9_2_1 : Option Addr} {nw_EVENTS_k9_2_1 : Nat} {sw_EVENTS_k9_2_1 : Array (Option Value)}
    {a_EVENTS_k9_3 : Addr}
    {tk_EVENTS_k9_3_0 : Tok}
    {ow_EVENTS_k9_3 : Option Addr} {nw_EVENTS_k9_3 : Nat} {sw_EVENTS_k9_3 : Array (Option Value)}
    {a_EVENTS_k9_3_1 : Addr}
    {tk_EVENTS_k9_3_1_0 tk_EVENTS_k9_3_1_1 tk_EVENTS_k9_3_1_2 : Tok}
    {ow_EVENTS_k9_3_1 : Option Addr} {nw_EVENTS_k9_3_1 : Nat} {sw_EVENTS_k9_3_1 : Array (Option Value)}
    {a_EVENTS_k9_4 : Addr}
    {tk_EVENTS_k9_4_0 : Tok}
    {ow_EVENTS_k9_4 : Option Addr} {nw_EVENTS_k9_4 : Nat} {sw_EVENTS_k9_4 : Array (Option Value)}
    {a_EVENTS_k9_4_1 : Addr}
    {ow_EVENTS_k9_4_1 : Option Addr} {nw_EVENTS_k9_4_1 : Nat} {sw_EVENTS_k9_4_1 : Array (Option Value)}
    {a_EVENTS_k9_5 : Addr}
    {tk_EVENTS_k9_5_0 : Tok}
    {ow_EVENTS_k9_5 : Option Addr} {nw_EVENTS_k9_5 : Nat} {sw_EVENTS_k9_5 : Array (Option Value)}
    {a_EVENTS_k9_5_1 : Addr}
    {ow_EVENTS_k9_5_1 : Option Addr} {nw_EVENTS_k9_5_1 : Nat} {sw_EVENTS_k9_5_1 : Array (Option Value)}
    {a_EVENTS_k10 : Addr}
    {ow_EVENTS_k10 : Option Addr} {nw_EVENTS_k10 : Nat} {sw_EVENTS_k10 : Array (Option Value)}
    {a_EVENTS_k10_0 : Addr}
    {tk_EVENTS_k10_0_0 : Tok}
    {ow_EVENTS_k10_0 : Option Addr} {nw_EVENTS_k10_0 : Nat} {sw_EVENTS_k10_0 : Array (Option Value)}
    {a_EVENTS_k10_0_1 : Addr}
    {tk_EVENTS_k10_0_1_0 tk_EVENTS_k10_0_1_1 : Tok}
    {ow_EVENTS_k10_0_1 : Option Addr} {nw_EVENTS_k10_0_1 : Nat} {sw_EVENTS_k10_0_1 : Array (Option Value)}
    {a_EVENTS_k10_1 : Addr}
    {tk_EVENTS_k10_1_0 : Tok}
    {ow_EVENTS_k10_1 : Option Addr} {nw_EVENTS_k10_1 : Nat} {sw_EVENTS_k10_1 : Array (Option Value)}
    {a_EVENTS_k10_1_1 : Addr}
    {tk_EVENTS_k10_1_1_0 tk_EVENTS_k10_1_1_1 tk_EVENTS_k10_1_1_2 : Tok}
    {ow_EVENTS_k10_1_1 : Option Addr} {nw_EVENTS_k10_1_1 : Nat} {sw_EVENTS_k10_1_1 : Array (Option Value)}
    {a_EVENTS_k11 : Addr}
    {ow_EVENTS_k11 : Option Addr} {nw_EVENTS_k11 : Nat} {sw_EVENTS_k11 : Array (Option Value)}
    {a_EVENTS_k11_0 : Addr}
    {tk_EVENTS_k11_0_0 : Tok}
    {ow_EVENTS_k11_0 : Option Addr} {nw_EVENTS_k11_0 : Nat} {sw_EVENTS_k11_0 : Array (Option Value)}
    {a_EVENTS_k11_0_1 : Addr}
    {tk_EVENTS_k11_0_1_0 tk_EVENTS_k11_0_1_1 : Tok}
    {ow_EVENTS_k11_0_1 : Option Addr} {nw_EVENTS_k11_0_1 : Nat} {sw_EVENTS_k11_0_1 : Array (Option Value)}
    {a_EVENTS_k11_1 : Addr}
    {tk_EVENTS_k11_1_0 : Tok}
    {ow_EVENTS_k11_1 : Option Addr} {nw_EVENTS_k11_1 : Nat} {sw_EVENTS_k11_1 : Array (Option Value)}
    {a_EVENTS_k11_1_1 : Addr}
    {ow_EVENTS_k11_1_1 : Option Addr} {nw_EVENTS_k11_1_1 : Nat} {sw_EVENTS_k11_1_1 : Array (Option Value)}
    {a_EVENTS_k11_2 : Addr}
    {tk_EVENTS_k11_2_0 : Tok}
    {ow_EVENTS_k11_2 : Option Addr} {nw_EVENTS_k11_2 : Nat} {sw_EVENTS_k11_2 : Array (Option Value)}
    {a_EVENTS_k11_2_1 : Addr}
    {tk_EVENTS_k11_2_1_0 tk_EVENTS_k11_2_1_1 : Tok}
    {ow_EVENTS_k11_2_1 : Option Addr} {nw_EVENTS_k11_2_1 : Nat} {sw_EVENTS_k11_2_1 : Array (Option Value)}
    {a_EVENTS_k12 : Addr}
    {ow_EVENTS_k12 : Option Addr} {nw_EVENTS_k12 : Nat} {sw_EVENTS_k12 : Array (Option Value)}
    {a_EVENTS_k12_0 : Addr}
    {tk_EVENTS_k12_0_0 : Tok}
    {ow_EVENTS_k12_0 : Option Addr} {nw_EVENTS_k12_0 : Nat} {sw_EVENTS_k12_0 : Array (Option Value)}
    {a_EVENTS_k12_0_1 : Addr}
    {tk_EVENTS_k12_0_1_0 : Tok}
    {ow_EVENTS_k12_0_1 : Option Addr} {nw_EVENTS_k12_0_1 : Nat} {sw_EVENTS_k12_0_1 : Array (Option Value)}
    {a_EVENTS_k12_1 : Addr}
    {tk_EVENTS_k12_1_0 : Tok}
    {ow_EVENTS_k12_1 : Option Addr} {nw_EVENTS_k12_1 : Nat} {sw_EVENTS_k12_1 : Array (Option Value)}
    {a_EVENTS_k12_1_1 : Addr}
    {ow_EVENTS_k12_1_1 : Option Addr} {nw_EVENTS_k12_1_1 : Nat} {sw_EVENTS_k12_1_1 : Array (Option Value)}
    {a_EVENTS_k12_2 : Addr}
    {tk_EVENTS_k12_2_0 : Tok}
    {ow_EVENTS_k12_2 : Option Addr} {nw_EVENTS_k12_2 : Nat} {sw_EVENTS_k12_2 : Array (Option Value)}
    {a_EVENTS_k12_2_1 : Addr}
    {tk_EVENTS_k12_2_1_0 tk_EVENTS_k12_2_1_1 : Tok}
    {ow_EVENTS_k12_2_1 : Option Addr} {nw_EVENTS_k12_2_1 : Nat} {sw_EVENTS_k12_2_1 : Array (Option Value)}
    {a_EVENTS_k13 : Addr}
    {ow_EVENTS_k13 : Option Addr} {nw_EVENTS_k13 : Nat} {sw_EVENTS_k13 : Array (Option Value)}
    {a_EVENTS_k13_0 : Addr}
    {tk_EVENTS_k13_0_0 : Tok}
    {ow_EVENTS_k13_0 : Option Addr} {nw_EVENTS_k13_0 : Nat} {sw_EVENTS_k13_0 : Array (Option Value)}
    {a_EVENTS_k13_0_1 : Addr}
    {ow_EVENTS_k13_0_1 : Option Addr} {nw_EVENTS_k13_0_1 : Nat} {sw_EVENTS_k13_0_1 : Array (Option Value)}
    {a_EVENTS_k13_1 : Addr}
    {tk_EVENTS_k13_1_0 : Tok}
    {ow_EVENTS_k13_1 : Option Addr} {nw_EVENTS_k13_1 : Nat} {sw_EVENTS_k13_1 : Array (Option Value)}
    {a_EVENTS_k13_1_1 : Addr}
    {ow_EVENTS_k13_1_1 : Option Addr} {nw_EVENTS_k13_1_1 : Nat} {sw_EVENTS_k13_1_1 : Array (Option Value)}
    {CReply : Addr}
    {CDisplayError : Addr}
    {CBadMessage : Addr}
    {CMessageTooLong : Addr}
    {CFault : Addr}
    {nmFault qnFault : Str} {NFault : Addr} {bsFault bmFault : List Value} {snFault : List Str} {sbFault : List Value} {abFault : Bool} {coFault : Option Bool} {ddFault : Option Addr} {k0Fault k1Fault k2Fault k3Fault k5Fault : Option Value}
    (a1 : PySem.W.nsIn K mainGlobals "is_integer" = some (some (.ref fis_integer)))
    (l1 : K.lookup fis_integer = some ⟨oc1, od1, .func (PySem.W.fnOf "is_integer" "is_integer" (defArgs s_is_integer) (defBody s_is_integer) (defScope s_is_integer) .none kV1 dc1 pm1 an1 cd1 ct1), sl1⟩) (c1 : PySem.W.codeIn K cd1 "is_integer" = true) (k1 : PySem.W.keepIn K (.ref fis_integer) = true)
    (a2 : PySem.W.nsIn K mainGlobals "is_text" = some (some (.ref fis_text)))
    (l2 : K.lookup fis_text = some ⟨oc2, od2, .func (PySem.W.fnOf "is_text" "is_text" (defArgs s_is_text) (defBody s_is_text) (defScope s_is_text) .none kV2 dc2 pm2 an2 cd2 ct2), sl2⟩) (c2 : PySem.W.codeIn K cd2 "is_text" = true) (k2 : PySem.W.keepIn K (.ref fis_text) = true)
    (a3 : PySem.W.nsIn K mainGlobals "number_octets" = some (some (.ref fnumber_octets)))
    (l3 : K.lookup fnumber_octets = some ⟨oc3, od3, .func (PySem.W.fnOf "number_octets" "number_octets" (defArgs s_number_octets) (defBody s_number_octets) (defScope s_number_octets) .none kV3 dc3 pm3 an3 cd3 ct3), sl3⟩) (c3 : PySem.W.codeIn K cd3 "number_octets" = true) (k3 : PySem.W.keepIn K (.ref fnumber_octets) = true)
    (a4 : PySem.W.nsIn K mainGlobals "field_octets" = some (some (.ref ffield_octets)))
    (l4 : K.lookup ffield_octets = some ⟨oc4, od4, .func (PySem.W.fnOf "field_octets" "field_octets" (defArgs s_field_octets) (defBody s_field_octets) (defScope s_field_octets) .none kV4 dc4 pm4 an4 cd4 ct4), sl4⟩) (c4 : PySem.W.codeIn K cd4 "field_octets" = true) (k4 : PySem.W.keepIn K (.ref ffield_octets) = true)
    (a5 : PySem.W.nsIn K mainGlobals "_is_code" = some (some (.ref f_is_code)))
    (l5 : K.lookup f_is_code = some ⟨oc5, od5, .func (PySem.W.fnOf "_is_code" "_is_code" (defArgs s__is_code) (defBody s__is_code) (defScope s__is_code) .none kV5 dc5 pm5 an5 cd5 ct5), sl5⟩) (c5 : PySem.W.codeIn K cd5 "_is_code" = true) (k5 : PySem.W.keepIn K (.ref f_is_code) = true)
    (a6 : PySem.W.nsIn K mainGlobals "_is_of" = some (some (.ref f_is_of)))
    (l6 : K.lookup f_is_of = some ⟨oc6, od6, .func (PySem.W.fnOf "_is_of" "_is_of" (defArgs s__is_of) (defBody s__is_of) (defScope s__is_of) .none kV6 dc6 pm6 an6 cd6 ct6), sl6⟩) (c6 : PySem.W.codeIn K cd6 "_is_of" = true) (k6 : PySem.W.keepIn K (.ref f_is_of) = true)
    (a7 : PySem.W.nsIn K mainGlobals "_are_octets" = some (some (.ref f_are_octets)))
    (l7 : K.lookup f_are_octets = some ⟨oc7, od7, .func (PySem.W.fnOf "_are_octets" "_are_octets" (defArgs s__are_octets) (defBody s__are_octets) (defScope s__are_octets) .none kV7 dc7 pm7 an7 cd7 ct7), sl7⟩) (c7 : PySem.W.codeIn K cd7 "_are_octets" = true) (k7 : PySem.W.keepIn K (.ref f_are_octets) = true)
    (a8 : PySem.W.nsIn K mainGlobals "_is_bound" = some (some (.ref f_is_bound)))
    (l8 : K.lookup f_is_bound = some ⟨oc8, od8, .func (PySem.W.fnOf "_is_bound" "_is_bound" (defArgs s__is_bound) (defBody s__is_bound) (defScope s__is_bound) .none kV8 dc8 pm8 an8 cd8 ct8), sl8⟩) (c8 : PySem.W.codeIn K cd8 "_is_bound" = true) (k8 : PySem.W.keepIn K (.ref f_is_bound) = true)
    (a9 : PySem.W.nsIn K mainGlobals "_text_octets" = some (some (.ref f_text_octets)))
    (l9 : K.lookup f_text_octets = some ⟨oc9, od9, .func (PySem.W.fnOf "_text_octets" "_text_octets" (defArgs s__text_octets) (defBody s__text_octets) (defScope s__text_octets) .none kV9 dc9 pm9 an9 cd9 ct9), sl9⟩) (c9 : PySem.W.codeIn K cd9 "_text_octets" = true) (k9 : PySem.W.keepIn K (.ref f_text_octets) = true)
    (a10 : PySem.W.nsIn K mainGlobals "_padded" = some (some (.ref f_padded)))
    (l10 : K.lookup f_padded = some ⟨oc10, od10, .func (PySem.W.fnOf "_padded" "_padded" (defArgs s__padded) (defBody s__padded) (defScope s__padded) .none kV10 dc10 pm10 an10 cd10 ct10), sl10⟩) (c10 : PySem.W.codeIn K cd10 "_padded" = true) (k10 : PySem.W.keepIn K (.ref f_padded) = true)
    (a11 : PySem.W.nsIn K mainGlobals "encode_message" = some (some (.ref fencode_message)))
    (l11 : K.lookup fencode_message = some ⟨oc11, od11, .func (PySem.W.fnOf "encode_message" "encode_message" (defArgs s_encode_message) (defBody s_encode_message) (defScope s_encode_message) .none kV11 dc11 pm11 an11 cd11 ct11), sl11⟩) (c11 : PySem.W.codeIn K cd11 "encode_message" = true) (k11 : PySem.W.keepIn K (.ref fencode_message) = true)
    (a12 : PySem.W.nsIn K mainGlobals "event_octets" = some (some (.ref fevent_octets)))
    (l12 : K.lookup fevent_octets = some ⟨oc12, od12, .func (PySem.W.fnOf "event_octets" "event_octets" (defArgs s_event_octets) (defBody s_event_octets) (defScope s_event_octets) .none kV12 dc12 pm12 an12 cd12 ct12), sl12⟩) (c12 : PySem.W.codeIn K cd12 "event_octets" = true) (k12 : PySem.W.keepIn K (.ref fevent_octets) = true)
    (a13 : PySem.W.nsIn K mainGlobals "_opcode_of" = some (some (.ref f_opcode_of)))
    (l13 : K.lookup f_opcode_of = some ⟨oc13, od13, .func (PySem.W.fnOf "_opcode_of" "_opcode_of" (defArgs s__opcode_of) (defBody s__opcode_of) (defScope s__opcode_of) .none kV13 dc13 pm13 an13 cd13 ct13), sl13⟩) (c13 : PySem.W.codeIn K cd13 "_opcode_of" = true) (k13 : PySem.W.keepIn K (.ref f_opcode_of) = true)
    (a14 : PySem.W.nsIn K mainGlobals "fault_octets" = some (some (.ref ffault_octets)))
    (l14 : K.lookup ffault_octets = some ⟨oc14, od14, .func (PySem.W.fnOf "fault_octets" "fault_octets" (defArgs s_fault_octets) (defBody s_fault_octets) (defScope s_fault_octets) .none kV14 dc14 pm14 an14 cd14 ct14), sl14⟩) (c14 : PySem.W.codeIn K cd14 "fault_octets" = true) (k14 : PySem.W.keepIn K (.ref ffault_octets) = true)
    (a15 : PySem.W.nsIn K mainGlobals "_law_cell" = some (some (.ref f_law_cell)))
    (l15 : K.lookup f_law_cell = some ⟨oc15, od15, .func (PySem.W.fnOf "_law_cell" "_law_cell" (defArgs s__law_cell) (defBody s__law_cell) (defScope s__law_cell) .none kV15 dc15 pm15 an15 cd15 ct15), sl15⟩) (c15 : PySem.W.codeIn K cd15 "_law_cell" = true) (k15 : PySem.W.keepIn K (.ref f_law_cell) = true)
    (a16 : PySem.W.nsIn K mainGlobals "_law_row" = some (some (.ref f_law_row)))
    (l16 : K.lookup f_law_row = some ⟨oc16, od16, .func (PySem.W.fnOf "_law_row" "_law_row" (defArgs s__law_row) (defBody s__law_row) (defScope s__law_row) .none kV16 dc16 pm16 an16 cd16 ct16), sl16⟩) (c16 : PySem.W.codeIn K cd16 "_law_row" = true) (k16 : PySem.W.keepIn K (.ref f_law_row) = true)
    (a17 : PySem.W.nsIn K mainGlobals "_law_sign" = some (some (.ref f_law_sign)))
    (l17 : K.lookup f_law_sign = some ⟨oc17, od17, .func (PySem.W.fnOf "_law_sign" "_law_sign" (defArgs s__law_sign) (defBody s__law_sign) (defScope s__law_sign) .none kV17 dc17 pm17 an17 cd17 ct17), sl17⟩) (c17 : PySem.W.codeIn K cd17 "_law_sign" = true) (k17 : PySem.W.keepIn K (.ref f_law_sign) = true)
    (a18 : PySem.W.nsIn K mainGlobals "_law_text" = some (some (.ref f_law_text)))
    (l18 : K.lookup f_law_text = some ⟨oc18, od18, .func (PySem.W.fnOf "_law_text" "_law_text" (defArgs s__law_text) (defBody s__law_text) (defScope s__law_text) .none kV18 dc18 pm18 an18 cd18 ct18), sl18⟩) (c18 : PySem.W.codeIn K cd18 "_law_text" = true) (k18 : PySem.W.keepIn K (.ref f_law_text) = true)
    (a19 : PySem.W.nsIn K mainGlobals "_law_deeds" = some (some (.ref f_law_deeds)))
    (l19 : K.lookup f_law_deeds = some ⟨oc19, od19, .func (PySem.W.fnOf "_law_deeds" "_law_deeds" (defArgs s__law_deeds) (defBody s__law_deeds) (defScope s__law_deeds) .none kV19 dc19 pm19 an19 cd19 ct19), sl19⟩) (c19 : PySem.W.codeIn K cd19 "_law_deeds" = true) (k19 : PySem.W.keepIn K (.ref f_law_deeds) = true)
    (a20 : PySem.W.nsIn K mainGlobals "law" = some (some (.ref flaw)))
    (l20 : K.lookup flaw = some ⟨oc20, od20, .func (PySem.W.fnOf "law" "law" (defArgs s_law) (defBody s_law) (defScope s_law) .none kV20 dc20 pm20 an20 cd20 ct20), sl20⟩) (c20 : PySem.W.codeIn K cd20 "law" = true) (k20 : PySem.W.keepIn K (.ref flaw) = true)
    (a21 : PySem.W.findIn K (.ref CFault) "__init__" = some (some (.ref fFault___init__)))
    (i21 : PySem.W.isFn K (.ref fFault___init__) = true)
    (l21 : K.lookup fFault___init__ = some ⟨oc21, od21, .func (PySem.W.fnX "__init__" "Fault.__init__" (defArgs s_Fault___init__) (defBody s_Fault___init__) (defScope s_Fault___init__) [("__class__", cc21)] .none kV21 dc21 pm21 an21 (.ref cda21) ct21), sl21⟩) (c21 : PySem.W.codeIn K (.ref cda21) "Fault.__init__" = true) (k21 : PySem.W.keepIn K (.ref fFault___init__) = true)
    (lc21 : K.lookup cc21 = some ⟨cl21, cld21, .cell (some (.ref CFault)), csl21⟩) (ld21 : K.lookup cda21 = some ⟨ccl21, cdd21, .fields fvs21, ccs21⟩) (rv21 : fvs21[2]? = some (.str "/claim/cut.py" tf21)) (lD21 : PySem.W.clsIn K CFault = some cdD21) (ty21 : PySem.W.typeIn K (.ref fFault___init__) = some (.type "function"))
    (a22 : PySem.W.findIn K (.ref CReply) "__init__" = some (some (.ref fReply___init__)))
    (i22 : PySem.W.isFn K (.ref fReply___init__) = true)
    (l22 : K.lookup fReply___init__ = some ⟨oc22, od22, .func (PySem.W.fnOf "__init__" "Reply.__init__" (defArgs s_Reply___init__) (defBody s_Reply___init__) (defScope s_Reply___init__) .none kV22 dc22 pm22 an22 cd22 ct22), sl22⟩) (c22 : PySem.W.codeIn K cd22 "Reply.__init__" = true) (k22 : PySem.W.keepIn K (.ref fReply___init__) = true)
    (a23 : PySem.W.findIn K (.ref CReply) "tell" = some (some (.ref fReply_tell)))
    (i23 : PySem.W.isFn K (.ref fReply_tell) = true)
    (l23 : K.lookup fReply_tell = some ⟨oc23, od23, .func (PySem.W.fnOf "tell" "Reply.tell" (defArgs s_Reply_tell) (defBody s_Reply_tell) (defScope s_Reply_tell) .none kV23 dc23 pm23 an23 cd23 ct23), sl23⟩) (c23 : PySem.W.codeIn K cd23 "Reply.tell" = true) (k23 : PySem.W.keepIn K (.ref fReply_tell) = true)
    (a24 : PySem.W.findIn K (.ref CReply) "end" = some (some (.ref fReply_end)))
    (i24 : PySem.W.isFn K (.ref fReply_end) = true)
    (l24 : K.lookup fReply_end = some ⟨oc24, od24, .func (PySem.W.fnOf "end" "Reply.end" (defArgs s_Reply_end) (defBody s_Reply_end) (defScope s_Reply_end) .none kV24 dc24 pm24 an24 cd24 ct24), sl24⟩) (c24 : PySem.W.codeIn K cd24 "Reply.end" = true) (k24 : PySem.W.keepIn K (.ref fReply_end) = true)
    (a25 : PySem.W.findIn K (.ref CReply) "wish" = some (some (.ref fReply_wish)))
    (i25 : PySem.W.isFn K (.ref fReply_wish) = true)
    (l25 : K.lookup fReply_wish = some ⟨oc25, od25, .func (PySem.W.fnOf "wish" "Reply.wish" (defArgs s_Reply_wish) (defBody s_Reply_wish) (defScope s_Reply_wish) .none kV25 dc25 pm25 an25 cd25 ct25), sl25⟩) (c25 : PySem.W.codeIn K cd25 "Reply.wish" = true) (k25 : PySem.W.keepIn K (.ref fReply_wish) = true)
    (z_all : PySem.W.nsIn K mainGlobals "all" = some none)
    (z_bool : PySem.W.nsIn K mainGlobals "bool" = some none)
    (z_int : PySem.W.nsIn K mainGlobals "int" = some none)
    (z_isinstance : PySem.W.nsIn K mainGlobals "isinstance" = some none)
    (z_len : PySem.W.nsIn K mainGlobals "len" = some none)
    (z_list : PySem.W.nsIn K mainGlobals "list" = some none)
    (z_min : PySem.W.nsIn K mainGlobals "min" = some none)
    (z_ord : PySem.W.nsIn K mainGlobals "ord" = some none)
    (z_range : PySem.W.nsIn K mainGlobals "range" = some none)
    (z_str : PySem.W.nsIn K mainGlobals "str" = some none)
    (z_super : PySem.W.nsIn K mainGlobals "super" = some none)
    (z_tuple : PySem.W.nsIn K mainGlobals "tuple" = some none)
    (z_zip : PySem.W.nsIn K mainGlobals "zip" = some none)
    (q_DISPLAY : PySem.W.nsIn K mainGlobals "DISPLAY" = some (some (.int (1) tDISPLAY)))
    (q_GREATEST_NUMBER : PySem.W.nsIn K mainGlobals "GREATEST_NUMBER" = some (some (.int (4294967295) tGREATEST_NUMBER)))
    (q_LEAST_INT : PySem.W.nsIn K mainGlobals "LEAST_INT" = some (some (.int (-2147483648) tLEAST_INT)))
    (q_GREATEST_INT : PySem.W.nsIn K mainGlobals "GREATEST_INT" = some (some (.int (2147483647) tGREATEST_INT)))
    (q_LONGEST_TEXT : PySem.W.nsIn K mainGlobals "LONGEST_TEXT" = some (some (.int (1000) tLONGEST_TEXT)))
    (q_MOST_OCTETS : PySem.W.nsIn K mainGlobals "MOST_OCTETS" = some (some (.int (16384) tMOST_OCTETS)))
    (q__FIRST_CODE : PySem.W.nsIn K mainGlobals "_FIRST_CODE" = some (some (.int (32) t_FIRST_CODE)))
    (q__LAST_CODE : PySem.W.nsIn K mainGlobals "_LAST_CODE" = some (some (.int (126) t_LAST_CODE)))
    (q__PERCENT_CODE : PySem.W.nsIn K mainGlobals "_PERCENT_CODE" = some (some (.int (37) t_PERCENT_CODE)))
    (q_HEADER_SIZE : PySem.W.nsIn K mainGlobals "HEADER_SIZE" = some (some (.int (8) tHEADER_SIZE)))
    (q_GREATEST_SIZE : PySem.W.nsIn K mainGlobals "GREATEST_SIZE" = some (some (.int (20480) tGREATEST_SIZE)))
    (q_GREATEST_OPCODE : PySem.W.nsIn K mainGlobals "GREATEST_OPCODE" = some (some (.int (65535) tGREATEST_OPCODE)))
    (q_MOST_ARGUMENTS : PySem.W.nsIn K mainGlobals "MOST_ARGUMENTS" = some (some (.int (20) tMOST_ARGUMENTS)))
    (q__EVENTS : PySem.W.nsIn K mainGlobals "_EVENTS" = some (some (.ref a_EVENTS)))
    (dl_EVENTS : K.lookup a_EVENTS = some ⟨.type "dict", none, .dict es_EVENTS nn_EVENTS, #[]⟩) (dk_EVENTS : PySem.W.KeysLit w.params es_EVENTS.toList)
    (de_EVENTS_k0 : PySem.W.nsIn K a_EVENTS "display" = some (some (.ref a_EVENTS_k0)))
    (de_EVENTS_k1 : PySem.W.nsIn K a_EVENTS "callback" = some (some (.ref a_EVENTS_k1)))
    (de_EVENTS_k2 : PySem.W.nsIn K a_EVENTS "registry" = some (some (.ref a_EVENTS_k2)))
    (de_EVENTS_k3 : PySem.W.nsIn K a_EVENTS "buffer" = some (some (.ref a_EVENTS_k3)))
    (de_EVENTS_k4 : PySem.W.nsIn K a_EVENTS "output" = some (some (.ref a_EVENTS_k4)))
    (de_EVENTS_k5 : PySem.W.nsIn K a_EVENTS "window" = some (some (.ref a_EVENTS_k5)))
    (de_EVENTS_k6 : PySem.W.nsIn K a_EVENTS "popup" = some (some (.ref a_EVENTS_k6)))
    (de_EVENTS_k7 : PySem.W.nsIn K a_EVENTS "pointer" = some (some (.ref a_EVENTS_k7)))
    (de_EVENTS_k8 : PySem.W.nsIn K a_EVENTS "keyboard" = some (some (.ref a_EVENTS_k8)))
    (de_EVENTS_k9 : PySem.W.nsIn K a_EVENTS "transfer" = some (some (.ref a_EVENTS_k9)))
    (de_EVENTS_k10 : PySem.W.nsIn K a_EVENTS "offer" = some (some (.ref a_EVENTS_k10)))
    (de_EVENTS_k11 : PySem.W.nsIn K a_EVENTS "capture" = some (some (.ref a_EVENTS_k11)))
    (de_EVENTS_k12 : PySem.W.nsIn K a_EVENTS "fetch" = some (some (.ref a_EVENTS_k12)))
    (de_EVENTS_k13 : PySem.W.nsIn K a_EVENTS "watch" = some (some (.ref a_EVENTS_k13)))
    (w_EVENTS_k0 : K.lookup a_EVENTS_k0 = some ⟨.type "tuple", ow_EVENTS_k0, .seq #[.ref a_EVENTS_k0_0, .ref a_EVENTS_k0_1] nw_EVENTS_k0, sw_EVENTS_k0⟩)
    (w_EVENTS_k0_0 : K.lookup a_EVENTS_k0_0 = some ⟨.type "tuple", ow_EVENTS_k0_0, .seq #[.str "error" tk_EVENTS_k0_0_0, .ref a_EVENTS_k0_0_1] nw_EVENTS_k0_0, sw_EVENTS_k0_0⟩)
    (w_EVENTS_k0_0_1 : K.lookup a_EVENTS_k0_0_1 = some ⟨.type "tuple", ow_EVENTS_k0_0_1, .seq #[.str "uint" tk_EVENTS_k0_0_1_0, .str "uint" tk_EVENTS_k0_0_1_1, .str "text" tk_EVENTS_k0_0_1_2] nw_EVENTS_k0_0_1, sw_EVENTS_k0_0_1⟩)
    (w_EVENTS_k0_1 : K.lookup a_EVENTS_k0_1 = some ⟨.type "tuple", ow_EVENTS_k0_1, .seq #[.str "removed" tk_EVENTS_k0_1_0, .ref a_EVENTS_k0_1_1] nw_EVENTS_k0_1, sw_EVENTS_k0_1⟩)
    (w_EVENTS_k0_1_1 : K.lookup a_EVENTS_k0_1_1 = some ⟨.type "tuple", ow_EVENTS_k0_1_1, .seq #[.str "uint" tk_EVENTS_k0_1_1_0] nw_EVENTS_k0_1_1, sw_EVENTS_k0_1_1⟩)
    (w_EVENTS_k1 : K.lookup a_EVENTS_k1 = some ⟨.type "tuple", ow_EVENTS_k1, .seq #[.ref a_EVENTS_k1_0] nw_EVENTS_k1, sw_EVENTS_k1⟩)
    (w_EVENTS_k1_0 : K.lookup a_EVENTS_k1_0 = some ⟨.type "tuple", ow_EVENTS_k1_0, .seq #[.str "done" tk_EVENTS_k1_0_0, .ref a_EVENTS_k1_0_1] nw_EVENTS_k1_0, sw_EVENTS_k1_0⟩)
    (w_EVENTS_k1_0_1 : K.lookup a_EVENTS_k1_0_1 = some ⟨.type "tuple", ow_EVENTS_k1_0_1, .seq #[.str "uint" tk_EVENTS_k1_0_1_0] nw_EVENTS_k1_0_1, sw_EVENTS_k1_0_1⟩)
    (w_EVENTS_k2 : K.lookup a_EVENTS_k2 = some ⟨.type "tuple", ow_EVENTS_k2, .seq #[.ref a_EVENTS_k2_0, .ref a_EVENTS_k2_1] nw_EVENTS_k2, sw_EVENTS_k2⟩)
    (w_EVENTS_k2_0 : K.lookup a_EVENTS_k2_0 = some ⟨.type "tuple", ow_EVENTS_k2_0, .seq #[.str "there" tk_EVENTS_k2_0_0, .ref a_EVENTS_k2_0_1] nw_EVENTS_k2_0, sw_EVENTS_k2_0⟩)
    (w_EVENTS_k2_0_1 : K.lookup a_EVENTS_k2_0_1 = some ⟨.type "tuple", ow_EVENTS_k2_0_1, .seq #[.str "uint" tk_EVENTS_k2_0_1_0, .str "text" tk_EVENTS_k2_0_1_1] nw_EVENTS_k2_0_1, sw_EVENTS_k2_0_1⟩)
    (w_EVENTS_k2_1 : K.lookup a_EVENTS_k2_1 = some ⟨.type "tuple", ow_EVENTS_k2_1, .seq #[.str "gone" tk_EVENTS_k2_1_0, .ref a_EVENTS_k2_1_1] nw_EVENTS_k2_1, sw_EVENTS_k2_1⟩)
    (w_EVENTS_k2_1_1 : K.lookup a_EVENTS_k2_1_1 = some ⟨.type "tuple", ow_EVENTS_k2_1_1, .seq #[.str "uint" tk_EVENTS_k2_1_1_0] nw_EVENTS_k2_1_1, sw_EVENTS_k2_1_1⟩)
    (w_EVENTS_k3 : K.lookup a_EVENTS_k3 = some ⟨.type "tuple", ow_EVENTS_k3, .seq #[.ref a_EVENTS_k3_0] nw_EVENTS_k3, sw_EVENTS_k3⟩)
    (w_EVENTS_k3_0 : K.lookup a_EVENTS_k3_0 = some ⟨.type "tuple", ow_EVENTS_k3_0, .seq #[.str "release" tk_EVENTS_k3_0_0, .ref a_EVENTS_k3_0_1] nw_EVENTS_k3_0, sw_EVENTS_k3_0⟩)
    (w_EVENTS_k3_0_1 : K.lookup a_EVENTS_k3_0_1 = some ⟨.type "tuple", ow_EVENTS_k3_0_1, .seq #[] nw_EVENTS_k3_0_1, sw_EVENTS_k3_0_1⟩)
    (w_EVENTS_k4 : K.lookup a_EVENTS_k4 = some ⟨.type "tuple", ow_EVENTS_k4, .seq #[.ref a_EVENTS_k4_0] nw_EVENTS_k4, sw_EVENTS_k4⟩)
    (w_EVENTS_k4_0 : K.lookup a_EVENTS_k4_0 = some ⟨.type "tuple", ow_EVENTS_k4_0, .seq #[.str "size" tk_EVENTS_k4_0_0, .ref a_EVENTS_k4_0_1] nw_EVENTS_k4_0, sw_EVENTS_k4_0⟩)
    (w_EVENTS_k4_0_1 : K.lookup a_EVENTS_k4_0_1 = some ⟨.type "tuple", ow_EVENTS_k4_0_1, .seq #[.str "uint" tk_EVENTS_k4_0_1_0, .str "uint" tk_EVENTS_k4_0_1_1, .str "uint" tk_EVENTS_k4_0_1_2, .str "uint" tk_EVENTS_k4_0_1_3] nw_EVENTS_k4_0_1, sw_EVENTS_k4_0_1⟩)
    (w_EVENTS_k5 : K.lookup a_EVENTS_k5 = some ⟨.type "tuple", ow_EVENTS_k5, .seq #[.ref a_EVENTS_k5_0, .ref a_EVENTS_k5_1, .ref a_EVENTS_k5_2, .ref a_EVENTS_k5_3] nw_EVENTS_k5, sw_EVENTS_k5⟩)
    (w_EVENTS_k5_0 : K.lookup a_EVENTS_k5_0 = some ⟨.type "tuple", ow_EVENTS_k5_0, .seq #[.str "configure" tk_EVENTS_k5_0_0, .ref a_EVENTS_k5_0_1] nw_EVENTS_k5_0, sw_EVENTS_k5_0⟩)
    (w_EVENTS_k5_0_1 : K.lookup a_EVENTS_k5_0_1 = some ⟨.type "tuple", ow_EVENTS_k5_0_1, .seq #[.str "uint" tk_EVENTS_k5_0_1_0, .str "uint" tk_EVENTS_k5_0_1_1, .str "uint" tk_EVENTS_k5_0_1_2, .str "uint" tk_EVENTS_k5_0_1_3] nw_EVENTS_k5_0_1, sw_EVENTS_k5_0_1⟩)
    (w_EVENTS_k5_1 : K.lookup a_EVENTS_k5_1 = some ⟨.type "tuple", ow_EVENTS_k5_1, .seq #[.str "close" tk_EVENTS_k5_1_0, .ref a_EVENTS_k5_1_1] nw_EVENTS_k5_1, sw_EVENTS_k5_1⟩)
    (w_EVENTS_k5_1_1 : K.lookup a_EVENTS_k5_1_1 = some ⟨.type "tuple", ow_EVENTS_k5_1_1, .seq #[] nw_EVENTS_k5_1_1, sw_EVENTS_k5_1_1⟩)
    (w_EVENTS_k5_2 : K.lookup a_EVENTS_k5_2 = some ⟨.type "tuple", ow_EVENTS_k5_2, .seq #[.str "output" tk_EVENTS_k5_2_0, .ref a_EVENTS_k5_2_1] nw_EVENTS_k5_2, sw_EVENTS_k5_2⟩)
    (w_EVENTS_k5_2_1 : K.lookup a_EVENTS_k5_2_1 = some ⟨.type "tuple", ow_EVENTS_k5_2_1, .seq #[.str "uint" tk_EVENTS_k5_2_1_0] nw_EVENTS_k5_2_1, sw_EVENTS_k5_2_1⟩)
    (w_EVENTS_k5_3 : K.lookup a_EVENTS_k5_3 = some ⟨.type "tuple", ow_EVENTS_k5_3, .seq #[.str "left" tk_EVENTS_k5_3_0, .ref a_EVENTS_k5_3_1] nw_EVENTS_k5_3, sw_EVENTS_k5_3⟩)
    (w_EVENTS_k5_3_1 : K.lookup a_EVENTS_k5_3_1 = some ⟨.type "tuple", ow_EVENTS_k5_3_1, .seq #[.str "uint" tk_EVENTS_k5_3_1_0] nw_EVENTS_k5_3_1, sw_EVENTS_k5_3_1⟩)
    (w_EVENTS_k6 : K.lookup a_EVENTS_k6 = some ⟨.type "tuple", ow_EVENTS_k6, .seq #[.ref a_EVENTS_k6_0, .ref a_EVENTS_k6_1] nw_EVENTS_k6, sw_EVENTS_k6⟩)
    (w_EVENTS_k6_0 : K.lookup a_EVENTS_k6_0 = some ⟨.type "tuple", ow_EVENTS_k6_0, .seq #[.str "placed" tk_EVENTS_k6_0_0, .ref a_EVENTS_k6_0_1] nw_EVENTS_k6_0, sw_EVENTS_k6_0⟩)
    (w_EVENTS_k6_0_1 : K.lookup a_EVENTS_k6_0_1 = some ⟨.type "tuple", ow_EVENTS_k6_0_1, .seq #[.str "int" tk_EVENTS_k6_0_1_0, .str "int" tk_EVENTS_k6_0_1_1, .str "uint" tk_EVENTS_k6_0_1_2, .str "uint" tk_EVENTS_k6_0_1_3] nw_EVENTS_k6_0_1, sw_EVENTS_k6_0_1⟩)
    (w_EVENTS_k6_1 : K.lookup a_EVENTS_k6_1 = some ⟨.type "tuple", ow_EVENTS_k6_1, .seq #[.str "done" tk_EVENTS_k6_1_0, .ref a_EVENTS_k6_1_1] nw_EVENTS_k6_1, sw_EVENTS_k6_1⟩)
    (w_EVENTS_k6_1_1 : K.lookup a_EVENTS_k6_1_1 = some ⟨.type "tuple", ow_EVENTS_k6_1_1, .seq #[] nw_EVENTS_k6_1_1, sw_EVENTS_k6_1_1⟩)
    (w_EVENTS_k7 : K.lookup a_EVENTS_k7 = some ⟨.type "tuple", ow_EVENTS_k7, .seq #[.ref a_EVENTS_k7_0, .ref a_EVENTS_k7_1, .ref a_EVENTS_k7_2, .ref a_EVENTS_k7_3, .ref a_EVENTS_k7_4] nw_EVENTS_k7, sw_EVENTS_k7⟩)
    (w_EVENTS_k7_0 : K.lookup a_EVENTS_k7_0 = some ⟨.type "tuple", ow_EVENTS_k7_0, .seq #[.str "enter" tk_EVENTS_k7_0_0, .ref a_EVENTS_k7_0_1] nw_EVENTS_k7_0, sw_EVENTS_k7_0⟩)
    (w_EVENTS_k7_0_1 : K.lookup a_EVENTS_k7_0_1 = some ⟨.type "tuple", ow_EVENTS_k7_0_1, .seq #[.str "object" tk_EVENTS_k7_0_1_0, .str "int" tk_EVENTS_k7_0_1_1, .str "int" tk_EVENTS_k7_0_1_2] nw_EVENTS_k7_0_1, sw_EVENTS_k7_0_1⟩)
    (w_EVENTS_k7_1 : K.lookup a_EVENTS_k7_1 = some ⟨.type "tuple", ow_EVENTS_k7_1, .seq #[.str "leave" tk_EVENTS_k7_1_0, .ref a_EVENTS_k7_1_1] nw_EVENTS_k7_1, sw_EVENTS_k7_1⟩)
    (w_EVENTS_k7_1_1 : K.lookup a_EVENTS_k7_1_1 = some ⟨.type "tuple", ow_EVENTS_k7_1_1, .seq #[.str "object" tk_EVENTS_k7_1_1_0] nw_EVENTS_k7_1_1, sw_EVENTS_k7_1_1⟩)
    (w_EVENTS_k7_2 : K.lookup a_EVENTS_k7_2 = some ⟨.type "tuple", ow_EVENTS_k7_2, .seq #[.str "motion" tk_EVENTS_k7_2_0, .ref a_EVENTS_k7_2_1] nw_EVENTS_k7_2, sw_EVENTS_k7_2⟩)
    (w_EVENTS_k7_2_1 : K.lookup a_EVENTS_k7_2_1 = some ⟨.type "tuple", ow_EVENTS_k7_2_1, .seq #[.str "int" tk_EVENTS_k7_2_1_0, .str "int" tk_EVENTS_k7_2_1_1, .str "uint" tk_EVENTS_k7_2_1_2] nw_EVENTS_k7_2_1, sw_EVENTS_k7_2_1⟩)
    (w_EVENTS_k7_3 : K.lookup a_EVENTS_k7_3 = some ⟨.type "tuple", ow_EVENTS_k7_3, .seq #[.str "button" tk_EVENTS_k7_3_0, .ref a_EVENTS_k7_3_1] nw_EVENTS_k7_3, sw_EVENTS_k7_3⟩)
    (w_EVENTS_k7_3_1 : K.lookup a_EVENTS_k7_3_1 = some ⟨.type "tuple", ow_EVENTS_k7_3_1, .seq #[.str "uint" tk_EVENTS_k7_3_1_0, .str "uint" tk_EVENTS_k7_3_1_1, .str "uint" tk_EVENTS_k7_3_1_2, .str "uint" tk_EVENTS_k7_3_1_3] nw_EVENTS_k7_3_1, sw_EVENTS_k7_3_1⟩)
    (w_EVENTS_k7_4 : K.lookup a_EVENTS_k7_4 = some ⟨.type "tuple", ow_EVENTS_k7_4, .seq #[.str "axis" tk_EVENTS_k7_4_0, .ref a_EVENTS_k7_4_1] nw_EVENTS_k7_4, sw_EVENTS_k7_4⟩)
    (w_EVENTS_k7_4_1 : K.lookup a_EVENTS_k7_4_1 = some ⟨.type "tuple", ow_EVENTS_k7_4_1, .seq #[.str "int" tk_EVENTS_k7_4_1_0, .str "int" tk_EVENTS_k7_4_1_1, .str "uint" tk_EVENTS_k7_4_1_2] nw_EVENTS_k7_4_1, sw_EVENTS_k7_4_1⟩)
    (w_EVENTS_k8 : K.lookup a_EVENTS_k8 = some ⟨.type "tuple", ow_EVENTS_k8, .seq #[.ref a_EVENTS_k8_0, .ref a_EVENTS_k8_1, .ref a_EVENTS_k8_2, .ref a_EVENTS_k8_3, .ref a_EVENTS_k8_4] nw_EVENTS_k8, sw_EVENTS_k8⟩)
    (w_EVENTS_k8_0 : K.lookup a_EVENTS_k8_0 = some ⟨.type "tuple", ow_EVENTS_k8_0, .seq #[.str "keymap" tk_EVENTS_k8_0_0, .ref a_EVENTS_k8_0_1] nw_EVENTS_k8_0, sw_EVENTS_k8_0⟩)
    (w_EVENTS_k8_0_1 : K.lookup a_EVENTS_k8_0_1 = some ⟨.type "tuple", ow_EVENTS_k8_0_1, .seq #[.str "text" tk_EVENTS_k8_0_1_0] nw_EVENTS_k8_0_1, sw_EVENTS_k8_0_1⟩)
    (w_EVENTS_k8_1 : K.lookup a_EVENTS_k8_1 = some ⟨.type "tuple", ow_EVENTS_k8_1, .seq #[.str "enter" tk_EVENTS_k8_1_0, .ref a_EVENTS_k8_1_1] nw_EVENTS_k8_1, sw_EVENTS_k8_1⟩)
    (w_EVENTS_k8_1_1 : K.lookup a_EVENTS_k8_1_1 = some ⟨.type "tuple", ow_EVENTS_k8_1_1, .seq #[.str "object" tk_EVENTS_k8_1_1_0] nw_EVENTS_k8_1_1, sw_EVENTS_k8_1_1⟩)
    (w_EVENTS_k8_2 : K.lookup a_EVENTS_k8_2 = some ⟨.type "tuple", ow_EVENTS_k8_2, .seq #[.str "leave" tk_EVENTS_k8_2_0, .ref a_EVENTS_k8_2_1] nw_EVENTS_k8_2, sw_EVENTS_k8_2⟩)
    (w_EVENTS_k8_2_1 : K.lookup a_EVENTS_k8_2_1 = some ⟨.type "tuple", ow_EVENTS_k8_2_1, .seq #[.str "object" tk_EVENTS_k8_2_1_0] nw_EVENTS_k8_2_1, sw_EVENTS_k8_2_1⟩)
    (w_EVENTS_k8_3 : K.lookup a_EVENTS_k8_3 = some ⟨.type "tuple", ow_EVENTS_k8_3, .seq #[.str "key" tk_EVENTS_k8_3_0, .ref a_EVENTS_k8_3_1] nw_EVENTS_k8_3, sw_EVENTS_k8_3⟩)
    (w_EVENTS_k8_3_1 : K.lookup a_EVENTS_k8_3_1 = some ⟨.type "tuple", ow_EVENTS_k8_3_1, .seq #[.str "uint" tk_EVENTS_k8_3_1_0, .str "uint" tk_EVENTS_k8_3_1_1, .str "uint" tk_EVENTS_k8_3_1_2, .str "uint" tk_EVENTS_k8_3_1_3] nw_EVENTS_k8_3_1, sw_EVENTS_k8_3_1⟩)
    (w_EVENTS_k8_4 : K.lookup a_EVENTS_k8_4 = some ⟨.type "tuple", ow_EVENTS_k8_4, .seq #[.str "symbol" tk_EVENTS_k8_4_0, .ref a_EVENTS_k8_4_1] nw_EVENTS_k8_4, sw_EVENTS_k8_4⟩)
    (w_EVENTS_k8_4_1 : K.lookup a_EVENTS_k8_4_1 = some ⟨.type "tuple", ow_EVENTS_k8_4_1, .seq #[.str "text" tk_EVENTS_k8_4_1_0, .str "text" tk_EVENTS_k8_4_1_1, .str "uint" tk_EVENTS_k8_4_1_2] nw_EVENTS_k8_4_1, sw_EVENTS_k8_4_1⟩)
    (w_EVENTS_k9 : K.lookup a_EVENTS_k9 = some ⟨.type "tuple", ow_EVENTS_k9, .seq #[.ref a_EVENTS_k9_0, .ref a_EVENTS_k9_1, .ref a_EVENTS_k9_2, .ref a_EVENTS_k9_3, .ref a_EVENTS_k9_4, .ref a_EVENTS_k9_5] nw_EVENTS_k9, sw_EVENTS_k9⟩)
    (w_EVENTS_k9_0 : K.lookup a_EVENTS_k9_0 = some ⟨.type "tuple", ow_EVENTS_k9_0, .seq #[.str "offer" tk_EVENTS_k9_0_0, .ref a_EVENTS_k9_0_1] nw_EVENTS_k9_0, sw_EVENTS_k9_0⟩)
    (w_EVENTS_k9_0_1 : K.lookup a_EVENTS_k9_0_1 = some ⟨.type "tuple", ow_EVENTS_k9_0_1, .seq #[.str "new" tk_EVENTS_k9_0_1_0, .str "uint" tk_EVENTS_k9_0_1_1] nw_EVENTS_k9_0_1, sw_EVENTS_k9_0_1⟩)
    (w_EVENTS_k9_1 : K.lookup a_EVENTS_k9_1 = some ⟨.type "tuple", ow_EVENTS_k9_1, .seq #[.str "hover" tk_EVENTS_k9_1_0, .ref a_EVENTS_k9_1_1] nw_EVENTS_k9_1, sw_EVENTS_k9_1⟩)
    (w_EVENTS_k9_1_1 : K.lookup a_EVENTS_k9_1_1 = some ⟨.type "tuple", ow_EVENTS_k9_1_1, .seq #[.str "object" tk_EVENTS_k9_1_1_0, .str "int" tk_EVENTS_k9_1_1_1, .str "int" tk_EVENTS_k9_1_1_2] nw_EVENTS_k9_1_1, sw_EVENTS_k9_1_1⟩)
    (w_EVENTS_k9_2 : K.lookup a_EVENTS_k9_2 = some ⟨.type "tuple", ow_EVENTS_k9_2, .seq #[.str "hover_kind" tk_EVENTS_k9_2_0, .ref a_EVENTS_k9_2_1] nw_EVENTS_k9_2, sw_EVENTS_k9_2⟩)
    (w_EVENTS_k9_2_1 : K.lookup a_EVENTS_k9_2_1 = some ⟨.type "tuple", ow_EVENTS_k9_2_1, .seq #[.str "text" tk_EVENTS_k9_2_1_0] nw_EVENTS_k9_2_1, sw_EVENTS_k9_2_1⟩)
    (w_EVENTS_k9_3 : K.lookup a_EVENTS_k9_3 = some ⟨.type "tuple", ow_EVENTS_k9_3, .seq #[.str "moved" tk_EVENTS_k9_3_0, .ref a_EVENTS_k9_3_1] nw_EVENTS_k9_3, sw_EVENTS_k9_3⟩)
    (w_EVENTS_k9_3_1 : K.lookup a_EVENTS_k9_3_1 = some ⟨.type "tuple", ow_EVENTS_k9_3_1, .seq #[.str "uint" tk_EVENTS_k9_3_1_0, .str "int" tk_EVENTS_k9_3_1_1, .str "int" tk_EVENTS_k9_3_1_2] nw_EVENTS_k9_3_1, sw_EVENTS_k9_3_1⟩)
    (w_EVENTS_k9_4 : K.lookup a_EVENTS_k9_4 = some ⟨.type "tuple", ow_EVENTS_k9_4, .seq #[.str "away" tk_EVENTS_k9_4_0, .ref a_EVENTS_k9_4_1] nw_EVENTS_k9_4, sw_EVENTS_k9_4⟩)
    (w_EVENTS_k9_4_1 : K.lookup a_EVENTS_k9_4_1 = some ⟨.type "tuple", ow_EVENTS_k9_4_1, .seq #[] nw_EVENTS_k9_4_1, sw_EVENTS_k9_4_1⟩)
    (w_EVENTS_k9_5 : K.lookup a_EVENTS_k9_5 = some ⟨.type "tuple", ow_EVENTS_k9_5, .seq #[.str "ended" tk_EVENTS_k9_5_0, .ref a_EVENTS_k9_5_1] nw_EVENTS_k9_5, sw_EVENTS_k9_5⟩)
    (w_EVENTS_k9_5_1 : K.lookup a_EVENTS_k9_5_1 = some ⟨.type "tuple", ow_EVENTS_k9_5_1, .seq #[] nw_EVENTS_k9_5_1, sw_EVENTS_k9_5_1⟩)
    (w_EVENTS_k10 : K.lookup a_EVENTS_k10 = some ⟨.type "tuple", ow_EVENTS_k10, .seq #[.ref a_EVENTS_k10_0, .ref a_EVENTS_k10_1] nw_EVENTS_k10, sw_EVENTS_k10⟩)
    (w_EVENTS_k10_0 : K.lookup a_EVENTS_k10_0 = some ⟨.type "tuple", ow_EVENTS_k10_0, .seq #[.str "kind" tk_EVENTS_k10_0_0, .ref a_EVENTS_k10_0_1] nw_EVENTS_k10_0, sw_EVENTS_k10_0⟩)
    (w_EVENTS_k10_0_1 : K.lookup a_EVENTS_k10_0_1 = some ⟨.type "tuple", ow_EVENTS_k10_0_1, .seq #[.str "text" tk_EVENTS_k10_0_1_0, .str "uint" tk_EVENTS_k10_0_1_1] nw_EVENTS_k10_0_1, sw_EVENTS_k10_0_1⟩)
    (w_EVENTS_k10_1 : K.lookup a_EVENTS_k10_1 = some ⟨.type "tuple", ow_EVENTS_k10_1, .seq #[.str "part" tk_EVENTS_k10_1_0, .ref a_EVENTS_k10_1_1] nw_EVENTS_k10_1, sw_EVENTS_k10_1⟩)
    (w_EVENTS_k10_1_1 : K.lookup a_EVENTS_k10_1_1 = some ⟨.type "tuple", ow_EVENTS_k10_1_1, .seq #[.str "text" tk_EVENTS_k10_1_1_0, .str "uint" tk_EVENTS_k10_1_1_1, .str "octets" tk_EVENTS_k10_1_1_2] nw_EVENTS_k10_1_1, sw_EVENTS_k10_1_1⟩)
    (w_EVENTS_k11 : K.lookup a_EVENTS_k11 = some ⟨.type "tuple", ow_EVENTS_k11, .seq #[.ref a_EVENTS_k11_0, .ref a_EVENTS_k11_1, .ref a_EVENTS_k11_2] nw_EVENTS_k11, sw_EVENTS_k11⟩)
    (w_EVENTS_k11_0 : K.lookup a_EVENTS_k11_0 = some ⟨.type "tuple", ow_EVENTS_k11_0, .seq #[.str "allowed" tk_EVENTS_k11_0_0, .ref a_EVENTS_k11_0_1] nw_EVENTS_k11_0, sw_EVENTS_k11_0⟩)
    (w_EVENTS_k11_0_1 : K.lookup a_EVENTS_k11_0_1 = some ⟨.type "tuple", ow_EVENTS_k11_0_1, .seq #[.str "uint" tk_EVENTS_k11_0_1_0, .str "uint" tk_EVENTS_k11_0_1_1] nw_EVENTS_k11_0_1, sw_EVENTS_k11_0_1⟩)
    (w_EVENTS_k11_1 : K.lookup a_EVENTS_k11_1 = some ⟨.type "tuple", ow_EVENTS_k11_1, .seq #[.str "refused" tk_EVENTS_k11_1_0, .ref a_EVENTS_k11_1_1] nw_EVENTS_k11_1, sw_EVENTS_k11_1⟩)
    (w_EVENTS_k11_1_1 : K.lookup a_EVENTS_k11_1_1 = some ⟨.type "tuple", ow_EVENTS_k11_1_1, .seq #[] nw_EVENTS_k11_1_1, sw_EVENTS_k11_1_1⟩)
    (w_EVENTS_k11_2 : K.lookup a_EVENTS_k11_2 = some ⟨.type "tuple", ow_EVENTS_k11_2, .seq #[.str "rows" tk_EVENTS_k11_2_0, .ref a_EVENTS_k11_2_1] nw_EVENTS_k11_2, sw_EVENTS_k11_2⟩)
    (w_EVENTS_k11_2_1 : K.lookup a_EVENTS_k11_2_1 = some ⟨.type "tuple", ow_EVENTS_k11_2_1, .seq #[.str "uint" tk_EVENTS_k11_2_1_0, .str "octets" tk_EVENTS_k11_2_1_1] nw_EVENTS_k11_2_1, sw_EVENTS_k11_2_1⟩)
    (w_EVENTS_k12 : K.lookup a_EVENTS_k12 = some ⟨.type "tuple", ow_EVENTS_k12, .seq #[.ref a_EVENTS_k12_0, .ref a_EVENTS_k12_1, .ref a_EVENTS_k12_2] nw_EVENTS_k12, sw_EVENTS_k12⟩)
    (w_EVENTS_k12_0 : K.lookup a_EVENTS_k12_0 = some ⟨.type "tuple", ow_EVENTS_k12_0, .seq #[.str "changed" tk_EVENTS_k12_0_0, .ref a_EVENTS_k12_0_1] nw_EVENTS_k12_0, sw_EVENTS_k12_0⟩)
    (w_EVENTS_k12_0_1 : K.lookup a_EVENTS_k12_0_1 = some ⟨.type "tuple", ow_EVENTS_k12_0_1, .seq #[.str "uint" tk_EVENTS_k12_0_1_0] nw_EVENTS_k12_0_1, sw_EVENTS_k12_0_1⟩)
    (w_EVENTS_k12_1 : K.lookup a_EVENTS_k12_1 = some ⟨.type "tuple", ow_EVENTS_k12_1, .seq #[.str "gone" tk_EVENTS_k12_1_0, .ref a_EVENTS_k12_1_1] nw_EVENTS_k12_1, sw_EVENTS_k12_1⟩)
    (w_EVENTS_k12_1_1 : K.lookup a_EVENTS_k12_1_1 = some ⟨.type "tuple", ow_EVENTS_k12_1_1, .seq #[] nw_EVENTS_k12_1_1, sw_EVENTS_k12_1_1⟩)
    (w_EVENTS_k12_2 : K.lookup a_EVENTS_k12_2 = some ⟨.type "tuple", ow_EVENTS_k12_2, .seq #[.str "part" tk_EVENTS_k12_2_0, .ref a_EVENTS_k12_2_1] nw_EVENTS_k12_2, sw_EVENTS_k12_2⟩)
    (w_EVENTS_k12_2_1 : K.lookup a_EVENTS_k12_2_1 = some ⟨.type "tuple", ow_EVENTS_k12_2_1, .seq #[.str "uint" tk_EVENTS_k12_2_1_0, .str "octets" tk_EVENTS_k12_2_1_1] nw_EVENTS_k12_2_1, sw_EVENTS_k12_2_1⟩)
    (w_EVENTS_k13 : K.lookup a_EVENTS_k13 = some ⟨.type "tuple", ow_EVENTS_k13, .seq #[.ref a_EVENTS_k13_0, .ref a_EVENTS_k13_1] nw_EVENTS_k13, sw_EVENTS_k13⟩)
    (w_EVENTS_k13_0 : K.lookup a_EVENTS_k13_0 = some ⟨.type "tuple", ow_EVENTS_k13_0, .seq #[.str "there" tk_EVENTS_k13_0_0, .ref a_EVENTS_k13_0_1] nw_EVENTS_k13_0, sw_EVENTS_k13_0⟩)
    (w_EVENTS_k13_0_1 : K.lookup a_EVENTS_k13_0_1 = some ⟨.type "tuple", ow_EVENTS_k13_0_1, .seq #[] nw_EVENTS_k13_0_1, sw_EVENTS_k13_0_1⟩)
    (w_EVENTS_k13_1 : K.lookup a_EVENTS_k13_1 = some ⟨.type "tuple", ow_EVENTS_k13_1, .seq #[.str "gone" tk_EVENTS_k13_1_0, .ref a_EVENTS_k13_1_1] nw_EVENTS_k13_1, sw_EVENTS_k13_1⟩)
    (w_EVENTS_k13_1_1 : K.lookup a_EVENTS_k13_1_1 = some ⟨.type "tuple", ow_EVENTS_k13_1_1, .seq #[] nw_EVENTS_k13_1_1, sw_EVENTS_k13_1_1⟩)
    (uReply : PySem.W.nsIn K mainGlobals "Reply" = some (some (.ref CReply)))
    (pgReply : PySem.W.plainGet K CReply Str.empty = true) (hdReply : PySem.W.hasDictIn K CReply = true) (poReply : PySem.W.plainOver K CReply = true) (saReply : PySem.W.findIn K (.ref CReply) "__setattr__" = some (some (.builtin "object.__setattr__"))) (mkReply : PySem.W.makesIn K CReply = true) (kcReply : PySem.W.keepIn K (.ref CReply) = true)
    (nReply_told : PySem.W.findIn K (.ref CReply) "told" = some none)
    (nReply_ended : PySem.W.findIn K (.ref CReply) "ended" = some none)
    (nReply_wishes : PySem.W.findIn K (.ref CReply) "wishes" = some none)
    (nReply_applied : PySem.W.findIn K (.ref CReply) "applied" = some none)
    (uDisplayError : PySem.W.nsIn K mainGlobals "DisplayError" = some (some (.ref CDisplayError))) (xDisplayError : PySem.W.excIn K CDisplayError [.type "ValueError", .type "Exception", .type "BaseException", .type "object"] "ValueError.__new__" = true) (keDisplayError : PySem.W.keepIn K (.ref CDisplayError) = true) (bxDisplayError : PySem.W.subIn K (.ref CDisplayError) (.type "BaseException") = some true) (txDisplayError : PySem.W.typeIn K (.ref CDisplayError) = some (.type "type")) (ixDisplayError : PySem.W.isClsIn K CDisplayError = true) (sxDisplayError : PySem.W.subIn K (.ref CDisplayError) (.ref CDisplayError) = some true)
    (uBadMessage : PySem.W.nsIn K mainGlobals "BadMessage" = some (some (.ref CBadMessage))) (xBadMessage : PySem.W.excIn K CBadMessage [.type "ValueError", .type "Exception", .type "BaseException", .type "object"] "ValueError.__new__" = true) (keBadMessage : PySem.W.keepIn K (.ref CBadMessage) = true) (bxBadMessage : PySem.W.subIn K (.ref CBadMessage) (.type "BaseException") = some true) (txBadMessage : PySem.W.typeIn K (.ref CBadMessage) = some (.type "type")) (ixBadMessage : PySem.W.isClsIn K CBadMessage = true) (sxBadMessage : PySem.W.subIn K (.ref CBadMessage) (.ref CBadMessage) = some true)
    (uMessageTooLong : PySem.W.nsIn K mainGlobals "MessageTooLong" = some (some (.ref CMessageTooLong))) (xMessageTooLong : PySem.W.excIn K CMessageTooLong [.type "ValueError", .type "Exception", .type "BaseException", .type "object"] "ValueError.__new__" = true) (keMessageTooLong : PySem.W.keepIn K (.ref CMessageTooLong) = true) (bxMessageTooLong : PySem.W.subIn K (.ref CMessageTooLong) (.type "BaseException") = some true) (txMessageTooLong : PySem.W.typeIn K (.ref CMessageTooLong) = some (.type "type")) (ixMessageTooLong : PySem.W.isClsIn K CMessageTooLong = true) (sxMessageTooLong : PySem.W.subIn K (.ref CMessageTooLong) (.ref CMessageTooLong) = some true)
    (uFault : PySem.W.nsIn K mainGlobals "Fault" = some (some (.ref CFault))) (loFault : K.lookup CFault = some (excClassObj nmFault qnFault CFault NFault bsFault bmFault true snFault sbFault abFault coFault ddFault k0Fault k1Fault k2Fault k3Fault k5Fault "ValueError.__new__")) (rmFault : PySem.HandSPX.refsVE bmFault = true) (keFault : PySem.W.keepIn K (.ref CFault) = true) (bxFault : PySem.W.subIn K (.ref CFault) (.type "BaseException") = some true) (txFault : PySem.W.typeIn K (.ref CFault) = some (.type "type")) (ixFault : PySem.W.isClsIn K CFault = true) (sxFault : PySem.W.subIn K (.ref CFault) (.ref CFault) = some true)
    (saFault : PySem.W.findIn K (.ref CFault) "__setattr__" = some (some (.builtin "object.__setattr__"))) (mrFault : PySem.W.mroIn K CFault (.ref CFault) = some true) (ksFault : PySem.W.ks_superIn K CFault CFault "__init__" = some (some (.builtin "ValueError.__init__"))) (veFault : PySem.W.subIn K (.ref CFault) (.type "ValueError") = some true) (tpFault : PySem.W.nsIn K PySem.cStatics "thirdparty.any" = some none)
    (gaFault : PySem.W.findIn K (.ref CFault) "__getattribute__" = some (some (.builtin "BaseException.__getattribute__"))) (gtFault : PySem.W.findIn K (.ref CFault) "__getattr__" = some none) (hxFault : PySem.W.hasDictIn K CFault = true) (fcFault : PySem.W.findIn K (.ref CFault) "__class__" = some (some (.builtin "object.__class__"))) (moFault : PySem.W.mroIn K CFault (.type "object") = some true) (sgFault : PySem.W.specialIn K (.builtin "object.__class__") "__get__" = some (some (.builtin "getset_descriptor.__get__"))) (tkFault : PySem.W.takesIn K (.builtin "object.__class__") = some true)
    (nFault_number : PySem.W.findIn K (.ref CFault) "number" = some none)
    (nFault_code : PySem.W.findIn K (.ref CFault) "code" = some none)
    (nFault_words : PySem.W.findIn K (.ref CFault) "words" = some none)
    (kitqFault_DisplayError : PySem.W.kitOne K (.ref CFault) (.ref CDisplayError) = some true)
    : ∃ A : Adr, A.flaw = fa ∧ Txt0 P K mg A ∧ Dic w K A ∧ (∀ (s : Shared) (v : Value), BindsTo s A.dlaw ⟨[v], []⟩ [("script", v)]) := by
  have e := hfa.symm.trans (PySem.W.mg_of X G a20)
  cases e
  have F1 := fun_mk (st := s_is_integer) l1 c1 k1
  have b1 := F1.binds (ps := ["value", "least", "greatest"]) fun _ _ _ _ _ _ us hl => match us, hl with | [_, _, _], _ => rfl
  have F2 := fun_mk (st := s_is_text) l2 c2 k2
  have b2 := F2.binds (ps := ["value"]) fun _ _ _ _ _ _ us hl => match us, hl with | [_], _ => rfl
  have F3 := fun_mk (st := s_number_octets) l3 c3 k3
  have b3 := F3.binds (ps := ["number", "count"]) fun _ _ _ _ _ _ us hl => match us, hl with | [_, _], _ => rfl
  have F4 := fun_mk (st := s_field_octets) l4 c4 k4
  have b4 := F4.binds (ps := ["kind", "value"]) fun _ _ _ _ _ _ us hl => match us, hl with | [_, _], _ => rfl
  have F5 := fun_mk (st := s__is_code) l5 c5 k5
  have b5 := F5.binds (ps := ["code"]) fun _ _ _ _ _ _ us hl => match us, hl with | [_], _ => rfl
  have F6 := fun_mk (st := s__is_of) l6 c6 k6
  have b6 := F6.binds (ps := ["kind", "value"]) fun _ _ _ _ _ _ us hl => match us, hl with | [_, _], _ => rfl
  have F7 := fun_mk (st := s__are_octets) l7 c7 k7
  have b7 := F7.binds (ps := ["value"]) fun _ _ _ _ _ _ us hl => match us, hl with | [_], _ => rfl
  have F8 := fun_mk (st := s__is_bound) l8 c8 k8
  have b8 := F8.binds (ps := ["value"]) fun _ _ _ _ _ _ us hl => match us, hl with | [_], _ => rfl
  have F9 := fun_mk (st := s__text_octets) l9 c9 k9
  have b9 := F9.binds (ps := ["text"]) fun _ _ _ _ _ _ us hl => match us, hl with | [_], _ => rfl
  have F10 := fun_mk (st := s__padded) l10 c10 k10
  have b10 := F10.binds (ps := ["octets"]) fun _ _ _ _ _ _ us hl => match us, hl with | [_], _ => rfl
  have F11 := fun_mk (st := s_encode_message) l11 c11 k11
  have b11 := F11.binds (ps := ["number", "opcode", "arguments"]) fun _ _ _ _ _ _ us hl => match us, hl with | [_, _, _], _ => rfl
  have F12 := fun_mk (st := s_event_octets) l12 c12 k12
  have b12 := F12.binds (ps := ["number", "interface", "name", "values"]) fun _ _ _ _ _ _ us hl => match us, hl with | [_, _, _, _], _ => rfl
  have F13 := fun_mk (st := s__opcode_of) l13 c13 k13
  have b13 := F13.binds (ps := ["rows", "name"]) fun _ _ _ _ _ _ us hl => match us, hl with | [_, _], _ => rfl
  have F14 := fun_mk (st := s_fault_octets) l14 c14 k14
  have b14 := F14.binds (ps := ["fault"]) fun _ _ _ _ _ _ us hl => match us, hl with | [_], _ => rfl
  have F15 := fun_mk (st := s__law_cell) l15 c15 k15
  have b15 := F15.binds (ps := ["script", "k"]) fun _ _ _ _ _ _ us hl => match us, hl with | [_, _], _ => rfl
  have F16 := fun_mk (st := s__law_row) l16 c16 k16
  have b16 := F16.binds (ps := ["script", "k"]) fun _ _ _ _ _ _ us hl => match us, hl with | [_, _], _ => rfl
  have F17 := fun_mk (st := s__law_sign) l17 c17 k17
  have b17 := F17.binds (ps := ["digit"]) fun _ _ _ _ _ _ us hl => match us, hl with | [_], _ => rfl
  have F18 := fun_mk (st := s__law_text) l18 c18 k18
  have b18 := F18.binds (ps := ["row", "size"]) fun _ _ _ _ _ _ us hl => match us, hl with | [_, _], _ => rfl
  have F19 := fun_mk (st := s__law_deeds) l19 c19 k19
  have b19 := F19.binds (ps := ["script", "k", "reply", "told", "ended", "wishes"]) fun _ _ _ _ _ _ us hl => match us, hl with | [_, _, _, _, _, _], _ => rfl
  have F20 := fun_mk (st := s_law) l20 c20 k20
  have b20 := F20.binds (ps := ["script"]) fun _ _ _ _ _ _ us hl => match us, hl with | [_], _ => rfl
  have F21 : FunSup K "__init__" "Fault.__init__" s_Fault___init__ fFault___init__ (PySem.W.fnX "__init__" "Fault.__init__" (defArgs s_Fault___init__) (defBody s_Fault___init__) (defScope s_Fault___init__) [("__class__", cc21)] .none kV21 dc21 pm21 an21 (.ref cda21) ct21) CFault := ⟨⟨_, _, _, _, _, _, _, _, _, _, _, _, _, _, _, _, _, _, _, rfl, l21, c21, ld21, rv21, lc21, lD21⟩⟩
  have b21 : Binds K (PySem.W.fnX "__init__" "Fault.__init__" (defArgs s_Fault___init__) (defBody s_Fault___init__) (defScope s_Fault___init__) [("__class__", cc21)] .none kV21 dc21 pm21 an21 (.ref cda21) ct21) ["self", "number", "code", "words"] [] := .all fun us hl => match us, hl with | [_, _, _, _], _ => rfl
  have F22 := fun_mk (st := s_Reply___init__) l22 c22 k22
  have b22 := F22.binds (ps := ["self"]) fun _ _ _ _ _ _ us hl => match us, hl with | [_], _ => rfl
  have F23 := fun_mk (st := s_Reply_tell) l23 c23 k23
  have b23 := F23.binds (ps := ["self", "number", "interface", "name", "values"]) fun _ _ _ _ _ _ us hl => match us, hl with | [_, _, _, _, _], _ => rfl
  have F24 := fun_mk (st := s_Reply_end) l24 c24 k24
  have b24 := F24.binds (ps := ["self", "number"]) fun _ _ _ _ _ _ us hl => match us, hl with | [_, _], _ => rfl
  have F25 := fun_mk (st := s_Reply_wish) l25 c25 k25
  have b25 := F25.binds (ps := ["self", "deed"]) fun _ _ _ _ _ _ us hl => match us, hl with | [_, _], _ => rfl
  have oFault : OexC K CFault := ⟨⟨_, _, _, _, _, _, _, _, _, _, _, _, _, _, _, loFault, rmFault⟩, saFault, bxFault, txFault, keFault⟩
  refine ⟨{ fis_integer := fis_integer, dis_integer := (PySem.W.fnOf "is_integer" "is_integer" (defArgs s_is_integer) (defBody s_is_integer) (defScope s_is_integer) .none kV1 dc1 pm1 an1 cd1 ct1), fis_text := fis_text, dis_text := (PySem.W.fnOf "is_text" "is_text" (defArgs s_is_text) (defBody s_is_text) (defScope s_is_text) .none kV2 dc2 pm2 an2 cd2 ct2), fnumber_octets := fnumber_octets, dnumber_octets := (PySem.W.fnOf "number_octets" "number_octets" (defArgs s_number_octets) (defBody s_number_octets) (defScope s_number_octets) .none kV3 dc3 pm3 an3 cd3 ct3), ffield_octets := ffield_octets, dfield_octets := (PySem.W.fnOf "field_octets" "field_octets" (defArgs s_field_octets) (defBody s_field_octets) (defScope s_field_octets) .none kV4 dc4 pm4 an4 cd4 ct4), f_is_code := f_is_code, d_is_code := (PySem.W.fnOf "_is_code" "_is_code" (defArgs s__is_code) (defBody s__is_code) (defScope s__is_code) .none kV5 dc5 pm5 an5 cd5 ct5), f_is_of := f_is_of, d_is_of := (PySem.W.fnOf "_is_of" "_is_of" (defArgs s__is_of) (defBody s__is_of) (defScope s__is_of) .none kV6 dc6 pm6 an6 cd6 ct6), f_are_octets := f_are_octets, d_are_octets := (PySem.W.fnOf "_are_octets" "_are_octets" (defArgs s__are_octets) (defBody s__are_octets) (defScope s__are_octets) .none kV7 dc7 pm7 an7 cd7 ct7), f_is_bound := f_is_bound, d_is_bound := (PySem.W.fnOf "_is_bound" "_is_bound" (defArgs s__is_bound) (defBody s__is_bound) (defScope s__is_bound) .none kV8 dc8 pm8 an8 cd8 ct8), f_text_octets := f_text_octets, d_text_octets := (PySem.W.fnOf "_text_octets" "_text_octets" (defArgs s__text_octets) (defBody s__text_octets) (defScope s__text_octets) .none kV9 dc9 pm9 an9 cd9 ct9), f_padded := f_padded, d_padded := (PySem.W.fnOf "_padded" "_padded" (defArgs s__padded) (defBody s__padded) (defScope s__padded) .none kV10 dc10 pm10 an10 cd10 ct10), fencode_message := fencode_message, dencode_message := (PySem.W.fnOf "encode_message" "encode_message" (defArgs s_encode_message) (defBody s_encode_message) (defScope s_encode_message) .none kV11 dc11 pm11 an11 cd11 ct11), fevent_octets := fevent_octets, devent_octets := (PySem.W.fnOf "event_octets" "event_octets" (defArgs s_event_octets) (defBody s_event_octets) (defScope s_event_octets) .none kV12 dc12 pm12 an12 cd12 ct12), f_opcode_of := f_opcode_of, d_opcode_of := (PySem.W.fnOf "_opcode_of" "_opcode_of" (defArgs s__opcode_of) (defBody s__opcode_of) (defScope s__opcode_of) .none kV13 dc13 pm13 an13 cd13 ct13), ffault_octets := ffault_octets, dfault_octets := (PySem.W.fnOf "fault_octets" "fault_octets" (defArgs s_fault_octets) (defBody s_fault_octets) (defScope s_fault_octets) .none kV14 dc14 pm14 an14 cd14 ct14), f_law_cell := f_law_cell, d_law_cell := (PySem.W.fnOf "_law_cell" "_law_cell" (defArgs s__law_cell) (defBody s__law_cell) (defScope s__law_cell) .none kV15 dc15 pm15 an15 cd15 ct15), f_law_row := f_law_row, d_law_row := (PySem.W.fnOf "_law_row" "_law_row" (defArgs s__law_row) (defBody s__law_row) (defScope s__law_row) .none kV16 dc16 pm16 an16 cd16 ct16), f_law_sign := f_law_sign, d_law_sign := (PySem.W.fnOf "_law_sign" "_law_sign" (defArgs s__law_sign) (defBody s__law_sign) (defScope s__law_sign) .none kV17 dc17 pm17 an17 cd17 ct17), f_law_text := f_law_text, d_law_text := (PySem.W.fnOf "_law_text" "_law_text" (defArgs s__law_text) (defBody s__law_text) (defScope s__law_text) .none kV18 dc18 pm18 an18 cd18 ct18), f_law_deeds := f_law_deeds, d_law_deeds := (PySem.W.fnOf "_law_deeds" "_law_deeds" (defArgs s__law_deeds) (defBody s__law_deeds) (defScope s__law_deeds) .none kV19 dc19 pm19 an19 cd19 ct19), flaw := fa, dlaw := (PySem.W.fnOf "law" "law" (defArgs s_law) (defBody s_law) (defScope s_law) .none kV20 dc20 pm20 an20 cd20 ct20), fFault___init__ := fFault___init__, dFault___init__ := (PySem.W.fnX "__init__" "Fault.__init__" (defArgs s_Fault___init__) (defBody s_Fault___init__) (defScope s_Fault___init__) [("__class__", cc21)] .none kV21 dc21 pm21 an21 (.ref cda21) ct21), fReply___init__ := fReply___init__, dReply___init__ := (PySem.W.fnOf "__init__" "Reply.__init__" (defArgs s_Reply___init__) (defBody s_Reply___init__) (defScope s_Reply___init__) .none kV22 dc22 pm22 an22 cd22 ct22), fReply_tell := fReply_tell, dReply_tell := (PySem.W.fnOf "tell" "Reply.tell" (defArgs s_Reply_tell) (defBody s_Reply_tell) (defScope s_Reply_tell) .none kV23 dc23 pm23 an23 cd23 ct23), fReply_end := fReply_end, dReply_end := (PySem.W.fnOf "end" "Reply.end" (defArgs s_Reply_end) (defBody s_Reply_end) (defScope s_Reply_end) .none kV24 dc24 pm24 an24 cd24 ct24), fReply_wish := fReply_wish, dReply_wish := (PySem.W.fnOf "wish" "Reply.wish" (defArgs s_Reply_wish) (defBody s_Reply_wish) (defScope s_Reply_wish) .none kV25 dc25 pm25 an25 cd25 ct25), tDISPLAY := tDISPLAY, tGREATEST_NUMBER := tGREATEST_NUMBER, tLEAST_INT := tLEAST_INT, tGREATEST_INT := tGREATEST_INT, tLONGEST_TEXT := tLONGEST_TEXT, tMOST_OCTETS := tMOST_OCTETS, t_FIRST_CODE := t_FIRST_CODE, t_LAST_CODE := t_LAST_CODE, t_PERCENT_CODE := t_PERCENT_CODE, tHEADER_SIZE := tHEADER_SIZE, tGREATEST_SIZE := tGREATEST_SIZE, tGREATEST_OPCODE := tGREATEST_OPCODE, tMOST_ARGUMENTS := tMOST_ARGUMENTS, a_EVENTS := a_EVENTS, a_EVENTS_k0 := a_EVENTS_k0, a_EVENTS_k0_0 := a_EVENTS_k0_0, a_EVENTS_k0_0_1 := a_EVENTS_k0_0_1, a_EVENTS_k0_1 := a_EVENTS_k0_1, a_EVENTS_k0_1_1 := a_EVENTS_k0_1_1, a_EVENTS_k1 := a_EVENTS_k1, a_EVENTS_k1_0 := a_EVENTS_k1_0, a_EVENTS_k1_0_1 := a_EVENTS_k1_0_1, a_EVENTS_k2 := a_EVENTS_k2, a_EVENTS_k2_0 := a_EVENTS_k2_0, a_EVENTS_k2_0_1 := a_EVENTS_k2_0_1, a_EVENTS_k2_1 := a_EVENTS_k2_1, a_EVENTS_k2_1_1 := a_EVENTS_k2_1_1, a_EVENTS_k3 := a_EVENTS_k3, a_EVENTS_k3_0 := a_EVENTS_k3_0, a_EVENTS_k3_0_1 := a_EVENTS_k3_0_1, a_EVENTS_k4 := a_EVENTS_k4, a_EVENTS_k4_0 := a_EVENTS_k4_0, a_EVENTS_k4_0_1 := a_EVENTS_k4_0_1, a_EVENTS_k5 := a_EVENTS_k5, a_EVENTS_k5_0 := a_EVENTS_k5_0, a_EVENTS_k5_0_1 := a_EVENTS_k5_0_1, a_EVENTS_k5_1 := a_EVENTS_k5_1, a_EVENTS_k5_1_1 := a_EVENTS_k5_1_1, a_EVENTS_k5_2 := a_EVENTS_k5_2, a_EVENTS_k5_2_1 := a_EVENTS_k5_2_1, a_EVENTS_k5_3 := a_EVENTS_k5_3, a_EVENTS_k5_3_1 := a_EVENTS_k5_3_1, a_EVENTS_k6 := a_EVENTS_k6, a_EVENTS_k6_0 := a_EVENTS_k6_0, a_EVENTS_k6_0_1 := a_EVENTS_k6_0_1, a_EVENTS_k6_1 := a_EVENTS_k6_1, a_EVENTS_k6_1_1 := a_EVENTS_k6_1_1, a_EVENTS_k7 := a_EVENTS_k7, a_EVENTS_k7_0 := a_EVENTS_k7_0, a_EVENTS_k7_0_1 := a_EVENTS_k7_0_1, a_EVENTS_k7_1 := a_EVENTS_k7_1, a_EVENTS_k7_1_1 := a_EVENTS_k7_1_1, a_EVENTS_k7_2 := a_EVENTS_k7_2, a_EVENTS_k7_2_1 := a_EVENTS_k7_2_1, a_EVENTS_k7_3 := a_EVENTS_k7_3, a_EVENTS_k7_3_1 := a_EVENTS_k7_3_1, a_EVENTS_k7_4 := a_EVENTS_k7_4, a_EVENTS_k7_4_1 := a_EVENTS_k7_4_1, a_EVENTS_k8 := a_EVENTS_k8, a_EVENTS_k8_0 := a_EVENTS_k8_0, a_EVENTS_k8_0_1 := a_EVENTS_k8_0_1, a_EVENTS_k8_1 := a_EVENTS_k8_1, a_EVENTS_k8_1_1 := a_EVENTS_k8_1_1, a_EVENTS_k8_2 := a_EVENTS_k8_2, a_EVENTS_k8_2_1 := a_EVENTS_k8_2_1, a_EVENTS_k8_3 := a_EVENTS_k8_3, a_EVENTS_k8_3_1 := a_EVENTS_k8_3_1, a_EVENTS_k8_4 := a_EVENTS_k8_4, a_EVENTS_k8_4_1 := a_EVENTS_k8_4_1, a_EVENTS_k9 := a_EVENTS_k9, a_EVENTS_k9_0 := a_EVENTS_k9_0, a_EVENTS_k9_0_1 := a_EVENTS_k9_0_1, a_EVENTS_k9_1 := a_EVENTS_k9_1, a_EVENTS_k9_1_1 := a_EVENTS_k9_1_1, a_EVENTS_k9_2 := a_EVENTS_k9_2, a_EVENTS_k9_2_1 := a_EVENTS_k9_2_1, a_EVENTS_k9_3 := a_EVENTS_k9_3, a_EVENTS_k9_3_1 := a_EVENTS_k9_3_1, a_EVENTS_k9_4 := a_EVENTS_k9_4, a_EVENTS_k9_4_1 := a_EVENTS_k9_4_1, a_EVENTS_k9_5 := a_EVENTS_k9_5, a_EVENTS_k9_5_1 := a_EVENTS_k9_5_1, a_EVENTS_k10 := a_EVENTS_k10, a_EVENTS_k10_0 := a_EVENTS_k10_0, a_EVENTS_k10_0_1 := a_EVENTS_k10_0_1, a_EVENTS_k10_1 := a_EVENTS_k10_1, a_EVENTS_k10_1_1 := a_EVENTS_k10_1_1, a_EVENTS_k11 := a_EVENTS_k11, a_EVENTS_k11_0 := a_EVENTS_k11_0, a_EVENTS_k11_0_1 := a_EVENTS_k11_0_1, a_EVENTS_k11_1 := a_EVENTS_k11_1, a_EVENTS_k11_1_1 := a_EVENTS_k11_1_1, a_EVENTS_k11_2 := a_EVENTS_k11_2, a_EVENTS_k11_2_1 := a_EVENTS_k11_2_1, a_EVENTS_k12 := a_EVENTS_k12, a_EVENTS_k12_0 := a_EVENTS_k12_0, a_EVENTS_k12_0_1 := a_EVENTS_k12_0_1, a_EVENTS_k12_1 := a_EVENTS_k12_1, a_EVENTS_k12_1_1 := a_EVENTS_k12_1_1, a_EVENTS_k12_2 := a_EVENTS_k12_2, a_EVENTS_k12_2_1 := a_EVENTS_k12_2_1, a_EVENTS_k13 := a_EVENTS_k13, a_EVENTS_k13_0 := a_EVENTS_k13_0, a_EVENTS_k13_0_1 := a_EVENTS_k13_0_1, a_EVENTS_k13_1 := a_EVENTS_k13_1, a_EVENTS_k13_1_1 := a_EVENTS_k13_1_1, CReply := CReply, CDisplayError := CDisplayError, CBadMessage := CBadMessage, CMessageTooLong := CMessageTooLong, CFault := CFault }, rfl, { Fis_integer := F1, bis_integer := b1, gis_integer := PySem.W.mg_of X G a1, kis_integer := k1, Fis_text := F2, bis_text := b2, gis_text := PySem.W.mg_of X G a2, kis_text := k2, Fnumber_octets := F3, bnumber_octets := b3, gnumber_octets := PySem.W.mg_of X G a3, knumber_octets := k3, Ffield_octets := F4, bfield_octets := b4, gfield_octets := PySem.W.mg_of X G a4, kfield_octets := k4, F_is_code := F5, b_is_code := b5, g_is_code := PySem.W.mg_of X G a5, k_is_code := k5, F_is_of := F6, b_is_of := b6, g_is_of := PySem.W.mg_of X G a6, k_is_of := k6, F_are_octets := F7, b_are_octets := b7, g_are_octets := PySem.W.mg_of X G a7, k_are_octets := k7, F_is_bound := F8, b_is_bound := b8, g_is_bound := PySem.W.mg_of X G a8, k_is_bound := k8, F_text_octets := F9, b_text_octets := b9, g_text_octets := PySem.W.mg_of X G a9, k_text_octets := k9, F_padded := F10, b_padded := b10, g_padded := PySem.W.mg_of X G a10, k_padded := k10, Fencode_message := F11, bencode_message := b11, gencode_message := PySem.W.mg_of X G a11, kencode_message := k11, Fevent_octets := F12, bevent_octets := b12, gevent_octets := PySem.W.mg_of X G a12, kevent_octets := k12, F_opcode_of := F13, b_opcode_of := b13, g_opcode_of := PySem.W.mg_of X G a13, k_opcode_of := k13, Ffault_octets := F14, bfault_octets := b14, gfault_octets := PySem.W.mg_of X G a14, kfault_octets := k14, F_law_cell := F15, b_law_cell := b15, g_law_cell := PySem.W.mg_of X G a15, k_law_cell := k15, F_law_row := F16, b_law_row := b16, g_law_row := PySem.W.mg_of X G a16, k_law_row := k16, F_law_sign := F17, b_law_sign := b17, g_law_sign := PySem.W.mg_of X G a17, k_law_sign := k17, F_law_text := F18, b_law_text := b18, g_law_text := PySem.W.mg_of X G a18, k_law_text := k18, F_law_deeds := F19, b_law_deeds := b19, g_law_deeds := PySem.W.mg_of X G a19, k_law_deeds := k19, Flaw := F20, blaw := b20, glaw := PySem.W.mg_of X G a20, klaw := k20, FFault___init__ := F21, bFault___init__ := b21, MFault := a21, TFault := ty21, FReply___init__ := F22, bReply___init__ := b22, MReply := ⟨mkReply, a22, i22, kcReply⟩, FReply_tell := F23, bReply_tell := b23, mReply_tell := ⟨a23, i23, k23⟩, FReply_end := F24, bReply_end := b24, mReply_end := ⟨a24, i24, k24⟩, FReply_wish := F25, bReply_wish := b25, mReply_wish := ⟨a25, i25, k25⟩, all := PySem.W.mg_none_of X G z_all, bool := PySem.W.mg_none_of X G z_bool, int := PySem.W.mg_none_of X G z_int, isinstance := PySem.W.mg_none_of X G z_isinstance, len := PySem.W.mg_none_of X G z_len, list := PySem.W.mg_none_of X G z_list, min := PySem.W.mg_none_of X G z_min, ord := PySem.W.mg_none_of X G z_ord, range := PySem.W.mg_none_of X G z_range, str := PySem.W.mg_none_of X G z_str, super := PySem.W.mg_none_of X G z_super, tuple := PySem.W.mg_none_of X G z_tuple, zip := PySem.W.mg_none_of X G z_zip, gDISPLAY := PySem.W.mg_of X G q_DISPLAY, gGREATEST_NUMBER := PySem.W.mg_of X G q_GREATEST_NUMBER, gLEAST_INT := PySem.W.mg_of X G q_LEAST_INT, gGREATEST_INT := PySem.W.mg_of X G q_GREATEST_INT, gLONGEST_TEXT := PySem.W.mg_of X G q_LONGEST_TEXT, gMOST_OCTETS := PySem.W.mg_of X G q_MOST_OCTETS, g_FIRST_CODE := PySem.W.mg_of X G q__FIRST_CODE, g_LAST_CODE := PySem.W.mg_of X G q__LAST_CODE, g_PERCENT_CODE := PySem.W.mg_of X G q__PERCENT_CODE, gHEADER_SIZE := PySem.W.mg_of X G q_HEADER_SIZE, gGREATEST_SIZE := PySem.W.mg_of X G q_GREATEST_SIZE, gGREATEST_OPCODE := PySem.W.mg_of X G q_GREATEST_OPCODE, gMOST_ARGUMENTS := PySem.W.mg_of X G q_MOST_ARGUMENTS, g_EVENTS := PySem.W.mg_of X G q__EVENTS, w_EVENTS_k0 := fun _ => .inr ⟨_, _, _, w_EVENTS_k0, rfl, rfl, len_line (Nat.le_of_ble_eq_true rfl), (.cons rfl (.cons rfl .nil))⟩, w_EVENTS_k0_0 := fun _ => .inr ⟨_, _, _, w_EVENTS_k0_0, rfl, rfl, len_line (Nat.le_of_ble_eq_true rfl), (.cons ⟨_, rfl⟩ (.cons rfl .nil))⟩, w_EVENTS_k0_0_1 := fun _ => .inr ⟨_, _, _, w_EVENTS_k0_0_1, rfl, rfl, len_line (Nat.le_of_ble_eq_true rfl), (.cons ⟨_, rfl⟩ (.cons ⟨_, rfl⟩ (.cons ⟨_, rfl⟩ .nil)))⟩, w_EVENTS_k0_1 := fun _ => .inr ⟨_, _, _, w_EVENTS_k0_1, rfl, rfl, len_line (Nat.le_of_ble_eq_true rfl), (.cons ⟨_, rfl⟩ (.cons rfl .nil))⟩, w_EVENTS_k0_1_1 := fun _ => .inr ⟨_, _, _, w_EVENTS_k0_1_1, rfl, rfl, len_line (Nat.le_of_ble_eq_true rfl), (.cons ⟨_, rfl⟩ .nil)⟩, w_EVENTS_k1 := fun _ => .inr ⟨_, _, _, w_EVENTS_k1, rfl, rfl, len_line (Nat.le_of_ble_eq_true rfl), (.cons rfl .nil)⟩, w_EVENTS_k1_0 := fun _ => .inr ⟨_, _, _, w_EVENTS_k1_0, rfl, rfl, len_line (Nat.le_of_ble_eq_true rfl), (.cons ⟨_, rfl⟩ (.cons rfl .nil))⟩, w_EVENTS_k1_0_1 := fun _ => .inr ⟨_, _, _, w_EVENTS_k1_0_1, rfl, rfl, len_line (Nat.le_of_ble_eq_true rfl), (.cons ⟨_, rfl⟩ .nil)⟩, w_EVENTS_k2 := fun _ => .inr ⟨_, _, _, w_EVENTS_k2, rfl, rfl, len_line (Nat.le_of_ble_eq_true rfl), (.cons rfl (.cons rfl .nil))⟩, w_EVENTS_k2_0 := fun _ => .inr ⟨_, _, _, w_EVENTS_k2_0, rfl, rfl, len_line (Nat.le_of_ble_eq_true rfl), (.cons ⟨_, rfl⟩ (.cons rfl .nil))⟩, w_EVENTS_k2_0_1 := fun _ => .inr ⟨_, _, _, w_EVENTS_k2_0_1, rfl, rfl, len_line (Nat.le_of_ble_eq_true rfl), (.cons ⟨_, rfl⟩ (.cons ⟨_, rfl⟩ .nil))⟩, w_EVENTS_k2_1 := fun _ => .inr ⟨_, _, _, w_EVENTS_k2_1, rfl, rfl, len_line (Nat.le_of_ble_eq_true rfl), (.cons ⟨_, rfl⟩ (.cons rfl .nil))⟩, w_EVENTS_k2_1_1 := fun _ => .inr ⟨_, _, _, w_EVENTS_k2_1_1, rfl, rfl, len_line (Nat.le_of_ble_eq_true rfl), (.cons ⟨_, rfl⟩ .nil)⟩, w_EVENTS_k3 := fun _ => .inr ⟨_, _, _, w_EVENTS_k3, rfl, rfl, len_line (Nat.le_of_ble_eq_true rfl), (.cons rfl .nil)⟩, w_EVENTS_k3_0 := fun _ => .inr ⟨_, _, _, w_EVENTS_k3_0, rfl, rfl, len_line (Nat.le_of_ble_eq_true rfl), (.cons ⟨_, rfl⟩ (.cons rfl .nil))⟩, w_EVENTS_k3_0_1 := fun _ => .inr ⟨_, _, _, w_EVENTS_k3_0_1, rfl, rfl, len_line (Nat.le_of_ble_eq_true rfl), .nil⟩, w_EVENTS_k4 := fun _ => .inr ⟨_, _, _, w_EVENTS_k4, rfl, rfl, len_line (Nat.le_of_ble_eq_true rfl), (.cons rfl .nil)⟩, w_EVENTS_k4_0 := fun _ => .inr ⟨_, _, _, w_EVENTS_k4_0, rfl, rfl, len_line (Nat.le_of_ble_eq_true rfl), (.cons ⟨_, rfl⟩ (.cons rfl .nil))⟩, w_EVENTS_k4_0_1 := fun _ => .inr ⟨_, _, _, w_EVENTS_k4_0_1, rfl, rfl, len_line (Nat.le_of_ble_eq_true rfl), (.cons ⟨_, rfl⟩ (.cons ⟨_, rfl⟩ (.cons ⟨_, rfl⟩ (.cons ⟨_, rfl⟩ .nil))))⟩, w_EVENTS_k5 := fun _ => .inr ⟨_, _, _, w_EVENTS_k5, rfl, rfl, len_line (Nat.le_of_ble_eq_true rfl), (.cons rfl (.cons rfl (.cons rfl (.cons rfl .nil))))⟩, w_EVENTS_k5_0 := fun _ => .inr ⟨_, _, _, w_EVENTS_k5_0, rfl, rfl, len_line (Nat.le_of_ble_eq_true rfl), (.cons ⟨_, rfl⟩ (.cons rfl .nil))⟩, w_EVENTS_k5_0_1 := fun _ => .inr ⟨_, _, _, w_EVENTS_k5_0_1, rfl, rfl, len_line (Nat.le_of_ble_eq_true rfl), (.cons ⟨_, rfl⟩ (.cons ⟨_, rfl⟩ (.cons ⟨_, rfl⟩ (.cons ⟨_, rfl⟩ .nil))))⟩, w_EVENTS_k5_1 := fun _ => .inr ⟨_, _, _, w_EVENTS_k5_1, rfl, rfl, len_line (Nat.le_of_ble_eq_true rfl), (.cons ⟨_, rfl⟩ (.cons rfl .nil))⟩, w_EVENTS_k5_1_1 := fun _ => .inr ⟨_, _, _, w_EVENTS_k5_1_1, rfl, rfl, len_line (Nat.le_of_ble_eq_true rfl), .nil⟩, w_EVENTS_k5_2 := fun _ => .inr ⟨_, _, _, w_EVENTS_k5_2, rfl, rfl, len_line (Nat.le_of_ble_eq_true rfl), (.cons ⟨_, rfl⟩ (.cons rfl .nil))⟩, w_EVENTS_k5_2_1 := fun _ => .inr ⟨_, _, _, w_EVENTS_k5_2_1, rfl, rfl, len_line (Nat.le_of_ble_eq_true rfl), (.cons ⟨_, rfl⟩ .nil)⟩, w_EVENTS_k5_3 := fun _ => .inr ⟨_, _, _, w_EVENTS_k5_3, rfl, rfl, len_line (Nat.le_of_ble_eq_true rfl), (.cons ⟨_, rfl⟩ (.cons rfl .nil))⟩, w_EVENTS_k5_3_1 := fun _ => .inr ⟨_, _, _, w_EVENTS_k5_3_1, rfl, rfl, len_line (Nat.le_of_ble_eq_true rfl), (.cons ⟨_, rfl⟩ .nil)⟩, w_EVENTS_k6 := fun _ => .inr ⟨_, _, _, w_EVENTS_k6, rfl, rfl, len_line (Nat.le_of_ble_eq_true rfl), (.cons rfl (.cons rfl .nil))⟩, w_EVENTS_k6_0 := fun _ => .inr ⟨_, _, _, w_EVENTS_k6_0, rfl, rfl, len_line (Nat.le_of_ble_eq_true rfl), (.cons ⟨_, rfl⟩ (.cons rfl .nil))⟩, w_EVENTS_k6_0_1 := fun _ => .inr ⟨_, _, _, w_EVENTS_k6_0_1, rfl, rfl, len_line (Nat.le_of_ble_eq_true rfl), (.cons ⟨_, rfl⟩ (.cons ⟨_, rfl⟩ (.cons ⟨_, rfl⟩ (.cons ⟨_, rfl⟩ .nil))))⟩, w_EVENTS_k6_1 := fun _ => .inr ⟨_, _, _, w_EVENTS_k6_1, rfl, rfl, len_line (Nat.le_of_ble_eq_true rfl), (.cons ⟨_, rfl⟩ (.cons rfl .nil))⟩, w_EVENTS_k6_1_1 := fun _ => .inr ⟨_, _, _, w_EVENTS_k6_1_1, rfl, rfl, len_line (Nat.le_of_ble_eq_true rfl), .nil⟩, w_EVENTS_k7 := fun _ => .inr ⟨_, _, _, w_EVENTS_k7, rfl, rfl, len_line (Nat.le_of_ble_eq_true rfl), (.cons rfl (.cons rfl (.cons rfl (.cons rfl (.cons rfl .nil)))))⟩, w_EVENTS_k7_0 := fun _ => .inr ⟨_, _, _, w_EVENTS_k7_0, rfl, rfl, len_line (Nat.le_of_ble_eq_true rfl), (.cons ⟨_, rfl⟩ (.cons rfl .nil))⟩, w_EVENTS_k7_0_1 := fun _ => .inr ⟨_, _, _, w_EVENTS_k7_0_1, rfl, rfl, len_line (Nat.le_of_ble_eq_true rfl), (.cons ⟨_, rfl⟩ (.cons ⟨_, rfl⟩ (.cons ⟨_, rfl⟩ .nil)))⟩, w_EVENTS_k7_1 := fun _ => .inr ⟨_, _, _, w_EVENTS_k7_1, rfl, rfl, len_line (Nat.le_of_ble_eq_true rfl), (.cons ⟨_, rfl⟩ (.cons rfl .nil))⟩, w_EVENTS_k7_1_1 := fun _ => .inr ⟨_, _, _, w_EVENTS_k7_1_1, rfl, rfl, len_line (Nat.le_of_ble_eq_true rfl), (.cons ⟨_, rfl⟩ .nil)⟩, w_EVENTS_k7_2 := fun _ => .inr ⟨_, _, _, w_EVENTS_k7_2, rfl, rfl, len_line (Nat.le_of_ble_eq_true rfl), (.cons ⟨_, rfl⟩ (.cons rfl .nil))⟩, w_EVENTS_k7_2_1 := fun _ => .inr ⟨_, _, _, w_EVENTS_k7_2_1, rfl, rfl, len_line (Nat.le_of_ble_eq_true rfl), (.cons ⟨_, rfl⟩ (.cons ⟨_, rfl⟩ (.cons ⟨_, rfl⟩ .nil)))⟩, w_EVENTS_k7_3 := fun _ => .inr ⟨_, _, _, w_EVENTS_k7_3, rfl, rfl, len_line (Nat.le_of_ble_eq_true rfl), (.cons ⟨_, rfl⟩ (.cons rfl .nil))⟩, w_EVENTS_k7_3_1 := fun _ => .inr ⟨_, _, _, w_EVENTS_k7_3_1, rfl, rfl, len_line (Nat.le_of_ble_eq_true rfl), (.cons ⟨_, rfl⟩ (.cons ⟨_, rfl⟩ (.cons ⟨_, rfl⟩ (.cons ⟨_, rfl⟩ .nil))))⟩, w_EVENTS_k7_4 := fun _ => .inr ⟨_, _, _, w_EVENTS_k7_4, rfl, rfl, len_line (Nat.le_of_ble_eq_true rfl), (.cons ⟨_, rfl⟩ (.cons rfl .nil))⟩, w_EVENTS_k7_4_1 := fun _ => .inr ⟨_, _, _, w_EVENTS_k7_4_1, rfl, rfl, len_line (Nat.le_of_ble_eq_true rfl), (.cons ⟨_, rfl⟩ (.cons ⟨_, rfl⟩ (.cons ⟨_, rfl⟩ .nil)))⟩, w_EVENTS_k8 := fun _ => .inr ⟨_, _, _, w_EVENTS_k8, rfl, rfl, len_line (Nat.le_of_ble_eq_true rfl), (.cons rfl (.cons rfl (.cons rfl (.cons rfl (.cons rfl .nil)))))⟩, w_EVENTS_k8_0 := fun _ => .inr ⟨_, _, _, w_EVENTS_k8_0, rfl, rfl, len_line (Nat.le_of_ble_eq_true rfl), (.cons ⟨_, rfl⟩ (.cons rfl .nil))⟩, w_EVENTS_k8_0_1 := fun _ => .inr ⟨_, _, _, w_EVENTS_k8_0_1, rfl, rfl, len_line (Nat.le_of_ble_eq_true rfl), (.cons ⟨_, rfl⟩ .nil)⟩, w_EVENTS_k8_1 := fun _ => .inr ⟨_, _, _, w_EVENTS_k8_1, rfl, rfl, len_line (Nat.le_of_ble_eq_true rfl), (.cons ⟨_, rfl⟩ (.cons rfl .nil))⟩, w_EVENTS_k8_1_1 := fun _ => .inr ⟨_, _, _, w_EVENTS_k8_1_1, rfl, rfl, len_line (Nat.le_of_ble_eq_true rfl), (.cons ⟨_, rfl⟩ .nil)⟩, w_EVENTS_k8_2 := fun _ => .inr ⟨_, _, _, w_EVENTS_k8_2, rfl, rfl, len_line (Nat.le_of_ble_eq_true rfl), (.cons ⟨_, rfl⟩ (.cons rfl .nil))⟩, w_EVENTS_k8_2_1 := fun _ => .inr ⟨_, _, _, w_EVENTS_k8_2_1, rfl, rfl, len_line (Nat.le_of_ble_eq_true rfl), (.cons ⟨_, rfl⟩ .nil)⟩, w_EVENTS_k8_3 := fun _ => .inr ⟨_, _, _, w_EVENTS_k8_3, rfl, rfl, len_line (Nat.le_of_ble_eq_true rfl), (.cons ⟨_, rfl⟩ (.cons rfl .nil))⟩, w_EVENTS_k8_3_1 := fun _ => .inr ⟨_, _, _, w_EVENTS_k8_3_1, rfl, rfl, len_line (Nat.le_of_ble_eq_true rfl), (.cons ⟨_, rfl⟩ (.cons ⟨_, rfl⟩ (.cons ⟨_, rfl⟩ (.cons ⟨_, rfl⟩ .nil))))⟩, w_EVENTS_k8_4 := fun _ => .inr ⟨_, _, _, w_EVENTS_k8_4, rfl, rfl, len_line (Nat.le_of_ble_eq_true rfl), (.cons ⟨_, rfl⟩ (.cons rfl .nil))⟩, w_EVENTS_k8_4_1 := fun _ => .inr ⟨_, _, _, w_EVENTS_k8_4_1, rfl, rfl, len_line (Nat.le_of_ble_eq_true rfl), (.cons ⟨_, rfl⟩ (.cons ⟨_, rfl⟩ (.cons ⟨_, rfl⟩ .nil)))⟩, w_EVENTS_k9 := fun _ => .inr ⟨_, _, _, w_EVENTS_k9, rfl, rfl, len_line (Nat.le_of_ble_eq_true rfl), (.cons rfl (.cons rfl (.cons rfl (.cons rfl (.cons rfl (.cons rfl .nil))))))⟩, w_EVENTS_k9_0 := fun _ => .inr ⟨_, _, _, w_EVENTS_k9_0, rfl, rfl, len_line (Nat.le_of_ble_eq_true rfl), (.cons ⟨_, rfl⟩ (.cons rfl .nil))⟩, w_EVENTS_k9_0_1 := fun _ => .inr ⟨_, _, _, w_EVENTS_k9_0_1, rfl, rfl, len_line (Nat.le_of_ble_eq_true rfl), (.cons ⟨_, rfl⟩ (.cons ⟨_, rfl⟩ .nil))⟩, w_EVENTS_k9_1 := fun _ => .inr ⟨_, _, _, w_EVENTS_k9_1, rfl, rfl, len_line (Nat.le_of_ble_eq_true rfl), (.cons ⟨_, rfl⟩ (.cons rfl .nil))⟩, w_EVENTS_k9_1_1 := fun _ => .inr ⟨_, _, _, w_EVENTS_k9_1_1, rfl, rfl, len_line (Nat.le_of_ble_eq_true rfl), (.cons ⟨_, rfl⟩ (.cons ⟨_, rfl⟩ (.cons ⟨_, rfl⟩ .nil)))⟩, w_EVENTS_k9_2 := fun _ => .inr ⟨_, _, _, w_EVENTS_k9_2, rfl, rfl, len_line (Nat.le_of_ble_eq_true rfl), (.cons ⟨_, rfl⟩ (.cons rfl .nil))⟩, w_EVENTS_k9_2_1 := fun _ => .inr ⟨_, _, _, w_EVENTS_k9_2_1, rfl, rfl, len_line (Nat.le_of_ble_eq_true rfl), (.cons ⟨_, rfl⟩ .nil)⟩, w_EVENTS_k9_3 := fun _ => .inr ⟨_, _, _, w_EVENTS_k9_3, rfl, rfl, len_line (Nat.le_of_ble_eq_true rfl), (.cons ⟨_, rfl⟩ (.cons rfl .nil))⟩, w_EVENTS_k9_3_1 := fun _ => .inr ⟨_, _, _, w_EVENTS_k9_3_1, rfl, rfl, len_line (Nat.le_of_ble_eq_true rfl), (.cons ⟨_, rfl⟩ (.cons ⟨_, rfl⟩ (.cons ⟨_, rfl⟩ .nil)))⟩, w_EVENTS_k9_4 := fun _ => .inr ⟨_, _, _, w_EVENTS_k9_4, rfl, rfl, len_line (Nat.le_of_ble_eq_true rfl), (.cons ⟨_, rfl⟩ (.cons rfl .nil))⟩, w_EVENTS_k9_4_1 := fun _ => .inr ⟨_, _, _, w_EVENTS_k9_4_1, rfl, rfl, len_line (Nat.le_of_ble_eq_true rfl), .nil⟩, w_EVENTS_k9_5 := fun _ => .inr ⟨_, _, _, w_EVENTS_k9_5, rfl, rfl, len_line (Nat.le_of_ble_eq_true rfl), (.cons ⟨_, rfl⟩ (.cons rfl .nil))⟩, w_EVENTS_k9_5_1 := fun _ => .inr ⟨_, _, _, w_EVENTS_k9_5_1, rfl, rfl, len_line (Nat.le_of_ble_eq_true rfl), .nil⟩, w_EVENTS_k10 := fun _ => .inr ⟨_, _, _, w_EVENTS_k10, rfl, rfl, len_line (Nat.le_of_ble_eq_true rfl), (.cons rfl (.cons rfl .nil))⟩, w_EVENTS_k10_0 := fun _ => .inr ⟨_, _, _, w_EVENTS_k10_0, rfl, rfl, len_line (Nat.le_of_ble_eq_true rfl), (.cons ⟨_, rfl⟩ (.cons rfl .nil))⟩, w_EVENTS_k10_0_1 := fun _ => .inr ⟨_, _, _, w_EVENTS_k10_0_1, rfl, rfl, len_line (Nat.le_of_ble_eq_true rfl), (.cons ⟨_, rfl⟩ (.cons ⟨_, rfl⟩ .nil))⟩, w_EVENTS_k10_1 := fun _ => .inr ⟨_, _, _, w_EVENTS_k10_1, rfl, rfl, len_line (Nat.le_of_ble_eq_true rfl), (.cons ⟨_, rfl⟩ (.cons rfl .nil))⟩, w_EVENTS_k10_1_1 := fun _ => .inr ⟨_, _, _, w_EVENTS_k10_1_1, rfl, rfl, len_line (Nat.le_of_ble_eq_true rfl), (.cons ⟨_, rfl⟩ (.cons ⟨_, rfl⟩ (.cons ⟨_, rfl⟩ .nil)))⟩, w_EVENTS_k11 := fun _ => .inr ⟨_, _, _, w_EVENTS_k11, rfl, rfl, len_line (Nat.le_of_ble_eq_true rfl), (.cons rfl (.cons rfl (.cons rfl .nil)))⟩, w_EVENTS_k11_0 := fun _ => .inr ⟨_, _, _, w_EVENTS_k11_0, rfl, rfl, len_line (Nat.le_of_ble_eq_true rfl), (.cons ⟨_, rfl⟩ (.cons rfl .nil))⟩, w_EVENTS_k11_0_1 := fun _ => .inr ⟨_, _, _, w_EVENTS_k11_0_1, rfl, rfl, len_line (Nat.le_of_ble_eq_true rfl), (.cons ⟨_, rfl⟩ (.cons ⟨_, rfl⟩ .nil))⟩, w_EVENTS_k11_1 := fun _ => .inr ⟨_, _, _, w_EVENTS_k11_1, rfl, rfl, len_line (Nat.le_of_ble_eq_true rfl), (.cons ⟨_, rfl⟩ (.cons rfl .nil))⟩, w_EVENTS_k11_1_1 := fun _ => .inr ⟨_, _, _, w_EVENTS_k11_1_1, rfl, rfl, len_line (Nat.le_of_ble_eq_true rfl), .nil⟩, w_EVENTS_k11_2 := fun _ => .inr ⟨_, _, _, w_EVENTS_k11_2, rfl, rfl, len_line (Nat.le_of_ble_eq_true rfl), (.cons ⟨_, rfl⟩ (.cons rfl .nil))⟩, w_EVENTS_k11_2_1 := fun _ => .inr ⟨_, _, _, w_EVENTS_k11_2_1, rfl, rfl, len_line (Nat.le_of_ble_eq_true rfl), (.cons ⟨_, rfl⟩ (.cons ⟨_, rfl⟩ .nil))⟩, w_EVENTS_k12 := fun _ => .inr ⟨_, _, _, w_EVENTS_k12, rfl, rfl, len_line (Nat.le_of_ble_eq_true rfl), (.cons rfl (.cons rfl (.cons rfl .nil)))⟩, w_EVENTS_k12_0 := fun _ => .inr ⟨_, _, _, w_EVENTS_k12_0, rfl, rfl, len_line (Nat.le_of_ble_eq_true rfl), (.cons ⟨_, rfl⟩ (.cons rfl .nil))⟩, w_EVENTS_k12_0_1 := fun _ => .inr ⟨_, _, _, w_EVENTS_k12_0_1, rfl, rfl, len_line (Nat.le_of_ble_eq_true rfl), (.cons ⟨_, rfl⟩ .nil)⟩, w_EVENTS_k12_1 := fun _ => .inr ⟨_, _, _, w_EVENTS_k12_1, rfl, rfl, len_line (Nat.le_of_ble_eq_true rfl), (.cons ⟨_, rfl⟩ (.cons rfl .nil))⟩, w_EVENTS_k12_1_1 := fun _ => .inr ⟨_, _, _, w_EVENTS_k12_1_1, rfl, rfl, len_line (Nat.le_of_ble_eq_true rfl), .nil⟩, w_EVENTS_k12_2 := fun _ => .inr ⟨_, _, _, w_EVENTS_k12_2, rfl, rfl, len_line (Nat.le_of_ble_eq_true rfl), (.cons ⟨_, rfl⟩ (.cons rfl .nil))⟩, w_EVENTS_k12_2_1 := fun _ => .inr ⟨_, _, _, w_EVENTS_k12_2_1, rfl, rfl, len_line (Nat.le_of_ble_eq_true rfl), (.cons ⟨_, rfl⟩ (.cons ⟨_, rfl⟩ .nil))⟩, w_EVENTS_k13 := fun _ => .inr ⟨_, _, _, w_EVENTS_k13, rfl, rfl, len_line (Nat.le_of_ble_eq_true rfl), (.cons rfl (.cons rfl .nil))⟩, w_EVENTS_k13_0 := fun _ => .inr ⟨_, _, _, w_EVENTS_k13_0, rfl, rfl, len_line (Nat.le_of_ble_eq_true rfl), (.cons ⟨_, rfl⟩ (.cons rfl .nil))⟩, w_EVENTS_k13_0_1 := fun _ => .inr ⟨_, _, _, w_EVENTS_k13_0_1, rfl, rfl, len_line (Nat.le_of_ble_eq_true rfl), .nil⟩, w_EVENTS_k13_1 := fun _ => .inr ⟨_, _, _, w_EVENTS_k13_1, rfl, rfl, len_line (Nat.le_of_ble_eq_true rfl), (.cons ⟨_, rfl⟩ (.cons rfl .nil))⟩, w_EVENTS_k13_1_1 := fun _ => .inr ⟨_, _, _, w_EVENTS_k13_1_1, rfl, rfl, len_line (Nat.le_of_ble_eq_true rfl), .nil⟩, clReply := ⟨pgReply, hdReply, poReply, saReply⟩, gReply := PySem.W.mg_of X G uReply, nReply_told := nReply_told, nReply_ended := nReply_ended, nReply_wishes := nReply_wishes, nReply_applied := nReply_applied, gDisplayError := PySem.W.mg_of X G uDisplayError, xDisplayError := xDisplayError, kDisplayError := keDisplayError, bxDisplayError := bxDisplayError, txDisplayError := txDisplayError, exDisplayError := exm_self bxDisplayError ixDisplayError txDisplayError sxDisplayError, gBadMessage := PySem.W.mg_of X G uBadMessage, xBadMessage := xBadMessage, kBadMessage := keBadMessage, bxBadMessage := bxBadMessage, txBadMessage := txBadMessage, exBadMessage := exm_self bxBadMessage ixBadMessage txBadMessage sxBadMessage, gMessageTooLong := PySem.W.mg_of X G uMessageTooLong, xMessageTooLong := xMessageTooLong, kMessageTooLong := keMessageTooLong, bxMessageTooLong := bxMessageTooLong, txMessageTooLong := txMessageTooLong, exMessageTooLong := exm_self bxMessageTooLong ixMessageTooLong txMessageTooLong sxMessageTooLong, gFault := PySem.W.mg_of X G uFault, oFault := oFault, vFault := ⟨oFault, mrFault, ksFault, veFault, tpFault⟩, xfFault := ⟨gaFault, gtFault, bxFault, hxFault⟩, iXFault := ⟨gaFault, gtFault, bxFault, hxFault, fcFault, sgFault, tkFault, moFault⟩, kFault := keFault, bxFault := bxFault, txFault := txFault, exFault := exm_self bxFault ixFault txFault sxFault, nFault_number := nFault_number, nFault_code := nFault_code, nFault_words := nFault_words, isFault_DisplayError := kitqFault_DisplayError, prg := hP }, { d_EVENTS_k0 := ⟨_, _, _, dl_EVENTS, dk_EVENTS, de_EVENTS_k0, rfl⟩, d_EVENTS_k1 := ⟨_, _, _, dl_EVENTS, dk_EVENTS, de_EVENTS_k1, rfl⟩, d_EVENTS_k2 := ⟨_, _, _, dl_EVENTS, dk_EVENTS, de_EVENTS_k2, rfl⟩, d_EVENTS_k3 := ⟨_, _, _, dl_EVENTS, dk_EVENTS, de_EVENTS_k3, rfl⟩, d_EVENTS_k4 := ⟨_, _, _, dl_EVENTS, dk_EVENTS, de_EVENTS_k4, rfl⟩, d_EVENTS_k5 := ⟨_, _, _, dl_EVENTS, dk_EVENTS, de_EVENTS_k5, rfl⟩, d_EVENTS_k6 := ⟨_, _, _, dl_EVENTS, dk_EVENTS, de_EVENTS_k6, rfl⟩, d_EVENTS_k7 := ⟨_, _, _, dl_EVENTS, dk_EVENTS, de_EVENTS_k7, rfl⟩, d_EVENTS_k8 := ⟨_, _, _, dl_EVENTS, dk_EVENTS, de_EVENTS_k8, rfl⟩, d_EVENTS_k9 := ⟨_, _, _, dl_EVENTS, dk_EVENTS, de_EVENTS_k9, rfl⟩, d_EVENTS_k10 := ⟨_, _, _, dl_EVENTS, dk_EVENTS, de_EVENTS_k10, rfl⟩, d_EVENTS_k11 := ⟨_, _, _, dl_EVENTS, dk_EVENTS, de_EVENTS_k11, rfl⟩, d_EVENTS_k12 := ⟨_, _, _, dl_EVENTS, dk_EVENTS, de_EVENTS_k12, rfl⟩, d_EVENTS_k13 := ⟨_, _, _, dl_EVENTS, dk_EVENTS, de_EVENTS_k13, rfl⟩ }, fun s v => .of_eq rfl⟩
theorem walk {l : PySem.W.OpenLaw} {q : Program} {loose : List Str} {XP : (Str → Option Value) → Heap → Prop} {YP : World → Heap → Prop} {d : DefRec} {K : Params → PySem.W.Frag} (hn : l.most = some 63) (hdf : d.params.defaults = [])
    (hY : ∀ (w : World) (h : Heap), YP w h → (K w.params).In h)
    (F : ∀ (w : World) (mg : Str → Option Value) (fa : Addr) (h : Heap), (K w.params).In h → h.Ns mainGlobals mg → mg d.name = some (.ref fa) →
      ∃ A : Adr, A.flaw = fa ∧ Txt0 l.prog (K w.params) mg A ∧ Dic w (K w.params) A ∧ (∀ (s : Shared) (v : Value), BindsTo s A.dlaw ⟨[v], []⟩ [("script", v)])) :
    PySem.W.WalkO q loose XP YP l.row.toRowW d [] (fun f vs => PySem.call f vs) :=
  L2.walk_of (n := 63) (k := 11) (x := "script") (CX := fun _ => CX0) (sp := fun w => sp_law (K w.params)) hn (by decide) hdf ⟨rfl, by decide, by decide⟩ hY (fun w mg fa h X G hfa => by
    obtain ⟨A, rfl, T, D, b⟩ := F w mg fa h X G hfa
    exact ⟨A.dlaw, b, fun base _ _ => ok_law T D⟩) (fun _ _ a ns hl _ hS => ⟨a, ns, rfl, hS, hl, fun _ => rfl⟩) fun _ _ _ _ _ z => z
end My
open PySem PySem.W PyProof.Rows
set_option maxRecDepth 100000 in
set_option maxHeartbeats 0 in
theorem PySem.Challenge.cw_sillwatch_k14_replies_and_faults_holds : PySem.Challenge.rw_sillwatch_k14_replies_and_faults.Holds := by
  w_on; o_law; k_head; (case hw => w_witness2)
  k_fill
  refine My.walk (l := PySem.Challenge.rw_sillwatch_k14_replies_and_faults) rfl rfl (fun w h Y => PySem.W.kIn_of Y) ?F
  case F =>
    intro w mg fa h KX G hmg
    refine' My.all_mk (P := PySem.Challenge.rw_sillwatch_k14_replies_and_faults.prog) ⟨by first | rfl | decide +kernel, by first | rfl | decide +kernel⟩ KX G hmg ?a1 ?l1 ?c1 ?k1 ?a2 ?l2 ?c2 ?k2 ?a3 ?l3 ?c3 ?k3 ?a4 ?l4 ?c4 ?k4 ?a5 ?l5 ?c5 ?k5 ?a6 ?l6 ?c6 ?k6 ?a7 ?l7 ?c7 ?k7 ?a8 ?l8 ?c8 ?k8 ?a9 ?l9 ?c9 ?k9 ?a10 ?l10 ?c10 ?k10 ?a11 ?l11 ?c11 ?k11 ?a12 ?l12 ?c12 ?k12 ?a13 ?l13 ?c13 ?k13 ?a14 ?l14 ?c14 ?k14 ?a15 ?l15 ?c15 ?k15 ?a16 ?l16 ?c16 ?k16 ?a17 ?l17 ?c17 ?k17 ?a18 ?l18 ?c18 ?k18 ?a19 ?l19 ?c19 ?k19 ?a20 ?l20 ?c20 ?k20 ?a21 ?i21 ?l21 ?c21 ?k21 ?lc21 ?ld21 ?rv21 ?lD21 ?ty21 ?a22 ?i22 ?l22 ?c22 ?k22 ?a23 ?i23 ?l23 ?c23 ?k23 ?a24 ?i24 ?l24 ?c24 ?k24 ?a25 ?i25 ?l25 ?c25 ?k25 ?z_all ?z_bool ?z_int ?z_isinstance ?z_len ?z_list ?z_min ?z_ord ?z_range ?z_str ?z_super ?z_tuple ?z_zip ?q_DISPLAY ?q_GREATEST_NUMBER ?q_LEAST_INT ?q_GREATEST_INT ?q_LONGEST_TEXT ?q_MOST_OCTETS ?q__FIRST_CODE ?q__LAST_CODE ?q__PERCENT_CODE ?q_HEADER_SIZE ?q_GREATEST_SIZE ?q_GREATEST_OPCODE ?q_MOST_ARGUMENTS ?q__EVENTS ?dl_EVENTS ?dk_EVENTS ?de_EVENTS_k0 ?de_EVENTS_k1 ?de_EVENTS_k2 ?de_EVENTS_k3 ?de_EVENTS_k4 ?de_EVENTS_k5 ?de_EVENTS_k6 ?de_EVENTS_k7 ?de_EVENTS_k8 ?de_EVENTS_k9 ?de_EVENTS_k10 ?de_EVENTS_k11 ?de_EVENTS_k12 ?de_EVENTS_k13 ?w_EVENTS_k0 ?w_EVENTS_k0_0 ?w_EVENTS_k0_0_1 ?w_EVENTS_k0_1 ?w_EVENTS_k0_1_1 ?w_EVENTS_k1 ?w_EVENTS_k1_0 ?w_EVENTS_k1_0_1 ?w_EVENTS_k2 ?w_EVENTS_k2_0 ?w_EVENTS_k2_0_1 ?w_EVENTS_k2_1 ?w_EVENTS_k2_1_1 ?w_EVENTS_k3 ?w_EVENTS_k3_0 ?w_EVENTS_k3_0_1 ?w_EVENTS_k4 ?w_EVENTS_k4_0 ?w_EVENTS_k4_0_1 ?w_EVENTS_k5 ?w_EVENTS_k5_0 ?w_EVENTS_k5_0_1 ?w_EVENTS_k5_1 ?w_EVENTS_k5_1_1 ?w_EVENTS_k5_2 ?w_EVENTS_k5_2_1 ?w_EVENTS_k5_3 ?w_EVENTS_k5_3_1 ?w_EVENTS_k6 ?w_EVENTS_k6_0 ?w_EVENTS_k6_0_1 ?w_EVENTS_k6_1 ?w_EVENTS_k6_1_1 ?w_EVENTS_k7 ?w_EVENTS_k7_0 ?w_EVENTS_k7_0_1 ?w_EVENTS_k7_1 ?w_EVENTS_k7_1_1 ?w_EVENTS_k7_2 ?w_EVENTS_k7_2_1 ?w_EVENTS_k7_3 ?w_EVENTS_k7_3_1 ?w_EVENTS_k7_4 ?w_EVENTS_k7_4_1 ?w_EVENTS_k8 ?w_EVENTS_k8_0 ?w_EVENTS_k8_0_1 ?w_EVENTS_k8_1 ?w_EVENTS_k8_1_1 ?w_EVENTS_k8_2 ?w_EVENTS_k8_2_1 ?w_EVENTS_k8_3 ?w_EVENTS_k8_3_1 ?w_EVENTS_k8_4 ?w_EVENTS_k8_4_1 ?w_EVENTS_k9 ?w_EVENTS_k9_0 ?w_EVENTS_k9_0_1 ?w_EVENTS_k9_1 ?w_EVENTS_k9_1_1 ?w_EVENTS_k9_2 ?w_EVENTS_k9_2_1 ?w_EVENTS_k9_3 ?w_EVENTS_k9_3_1 ?w_EVENTS_k9_4 ?w_EVENTS_k9_4_1 ?w_EVENTS_k9_5 ?w_EVENTS_k9_5_1 ?w_EVENTS_k10 ?w_EVENTS_k10_0 ?w_EVENTS_k10_0_1 ?w_EVENTS_k10_1 ?w_EVENTS_k10_1_1 ?w_EVENTS_k11 ?w_EVENTS_k11_0 ?w_EVENTS_k11_0_1 ?w_EVENTS_k11_1 ?w_EVENTS_k11_1_1 ?w_EVENTS_k11_2 ?w_EVENTS_k11_2_1 ?w_EVENTS_k12 ?w_EVENTS_k12_0 ?w_EVENTS_k12_0_1 ?w_EVENTS_k12_1 ?w_EVENTS_k12_1_1 ?w_EVENTS_k12_2 ?w_EVENTS_k12_2_1 ?w_EVENTS_k13 ?w_EVENTS_k13_0 ?w_EVENTS_k13_0_1 ?w_EVENTS_k13_1 ?w_EVENTS_k13_1_1 ?uReply ?pgReply ?hdReply ?poReply ?saReply ?mkReply ?kcReply ?nReply_told ?nReply_ended ?nReply_wishes ?nReply_applied ?uDisplayError ?xDisplayError ?keDisplayError ?bxDisplayError ?txDisplayError ?ixDisplayError ?sxDisplayError ?uBadMessage ?xBadMessage ?keBadMessage ?bxBadMessage ?txBadMessage ?ixBadMessage ?sxBadMessage ?uMessageTooLong ?xMessageTooLong ?keMessageTooLong ?bxMessageTooLong ?txMessageTooLong ?ixMessageTooLong ?sxMessageTooLong ?uFault ?loFault ?rmFault ?keFault ?bxFault ?txFault ?ixFault ?sxFault ?saFault ?mrFault ?ksFault ?veFault ?tpFault ?gaFault ?gtFault ?hxFault ?fcFault ?moFault ?sgFault ?tkFault ?nFault_number ?nFault_code ?nFault_words ?kitqFault_DisplayError
    (case uReply => k_is)
    (case uDisplayError => k_is)
    (case uBadMessage => k_is)
    (case uMessageTooLong => k_is)
    (case uFault => k_is)
    (case a1 => k_is)
    (case l1 => k_is)
    (case c1 => k_is)
    (case k1 => k_is)
    (case a2 => k_is)
    (case l2 => k_is)
    (case c2 => k_is)
    (case k2 => k_is)
    (case a3 => k_is)
    (case l3 => k_is)
    (case c3 => k_is)
    (case k3 => k_is)
    (case a4 => k_is)
    (case l4 => k_is)
    (case c4 => k_is)
    (case k4 => k_is)
    (case a5 => k_is)
    (case l5 => k_is)
    (case c5 => k_is)
    (case k5 => k_is)
    (case a6 => k_is)
    (case l6 => k_is)
    (case c6 => k_is)
    (case k6 => k_is)
    (case a7 => k_is)
    (case l7 => k_is)
    (case c7 => k_is)
    (case k7 => k_is)
    (case a8 => k_is)
    (case l8 => k_is)
    (case c8 => k_is)
    (case k8 => k_is)
    (case a9 => k_is)
    (case l9 => k_is)
    (case c9 => k_is)
    (case k9 => k_is)
    (case a10 => k_is)
    (case l10 => k_is)
    (case c10 => k_is)
    (case k10 => k_is)
    (case a11 => k_is)
    (case l11 => k_is)
    (case c11 => k_is)
    (case k11 => k_is)
    (case a12 => k_is)
    (case l12 => k_is)
    (case c12 => k_is)
    (case k12 => k_is)
    (case a13 => k_is)
    (case l13 => k_is)
    (case c13 => k_is)
    (case k13 => k_is)
    (case a14 => k_is)
    (case l14 => k_is)
    (case c14 => k_is)
    (case k14 => k_is)
    (case a15 => k_is)
    (case l15 => k_is)
    (case c15 => k_is)
    (case k15 => k_is)
    (case a16 => k_is)
    (case l16 => k_is)
    (case c16 => k_is)
    (case k16 => k_is)
    (case a17 => k_is)
    (case l17 => k_is)
    (case c17 => k_is)
    (case k17 => k_is)
    (case a18 => k_is)
    (case l18 => k_is)
    (case c18 => k_is)
    (case k18 => k_is)
    (case a19 => k_is)
    (case l19 => k_is)
    (case c19 => k_is)
    (case k19 => k_is)
    (case a20 => k_is)
    (case l20 => k_is)
    (case c20 => k_is)
    (case k20 => k_is)
    (case a21 => k_is)
    (case i21 => k_is)
    (case l21 => k_is)
    (case c21 => k_is)
    (case k21 => k_is)
    (case lc21 => k_is)
    (case ld21 => k_is)
    (case rv21 => first | rfl | decide +kernel)
    (case lD21 => k_is)
    (case ty21 => k_is)
    (case a22 => k_is)
    (case i22 => k_is)
    (case l22 => k_is)
    (case c22 => k_is)
    (case k22 => k_is)
    (case a23 => k_is)
    (case i23 => k_is)
    (case l23 => k_is)
    (case c23 => k_is)
    (case k23 => k_is)
    (case a24 => k_is)
    (case i24 => k_is)
    (case l24 => k_is)
    (case c24 => k_is)
    (case k24 => k_is)
    (case a25 => k_is)
    (case i25 => k_is)
    (case l25 => k_is)
    (case c25 => k_is)
    (case k25 => k_is)
    (case z_all => k_is)
    (case z_bool => k_is)
    (case z_int => k_is)
    (case z_isinstance => k_is)
    (case z_len => k_is)
    (case z_list => k_is)
    (case z_min => k_is)
    (case z_ord => k_is)
    (case z_range => k_is)
    (case z_str => k_is)
    (case z_super => k_is)
    (case z_tuple => k_is)
    (case z_zip => k_is)
    (case q_DISPLAY => k_is)
    (case q_GREATEST_NUMBER => k_is)
    (case q_LEAST_INT => k_is)
    (case q_GREATEST_INT => k_is)
    (case q_LONGEST_TEXT => k_is)
    (case q_MOST_OCTETS => k_is)
    (case q__FIRST_CODE => k_is)
    (case q__LAST_CODE => k_is)
    (case q__PERCENT_CODE => k_is)
    (case q_HEADER_SIZE => k_is)
    (case q_GREATEST_SIZE => k_is)
    (case q_GREATEST_OPCODE => k_is)
    (case q_MOST_ARGUMENTS => k_is)
    (case q__EVENTS => k_is)
    (case dl_EVENTS => k_is)
    (case dk_EVENTS => k_keys)
    (case de_EVENTS_k0 => k_is)
    (case de_EVENTS_k1 => k_is)
    (case de_EVENTS_k2 => k_is)
    (case de_EVENTS_k3 => k_is)
    (case de_EVENTS_k4 => k_is)
    (case de_EVENTS_k5 => k_is)
    (case de_EVENTS_k6 => k_is)
    (case de_EVENTS_k7 => k_is)
    (case de_EVENTS_k8 => k_is)
    (case de_EVENTS_k9 => k_is)
    (case de_EVENTS_k10 => k_is)
    (case de_EVENTS_k11 => k_is)
    (case de_EVENTS_k12 => k_is)
    (case de_EVENTS_k13 => k_is)
    (case w_EVENTS_k0 => k_is)
    (case w_EVENTS_k0_0 => k_is)
    (case w_EVENTS_k0_0_1 => k_is)
    (case w_EVENTS_k0_1 => k_is)
    (case w_EVENTS_k0_1_1 => k_is)
    (case w_EVENTS_k1 => k_is)
    (case w_EVENTS_k1_0 => k_is)
    (case w_EVENTS_k1_0_1 => k_is)
    (case w_EVENTS_k2 => k_is)
    (case w_EVENTS_k2_0 => k_is)
    (case w_EVENTS_k2_0_1 => k_is)
    (case w_EVENTS_k2_1 => k_is)
    (case w_EVENTS_k2_1_1 => k_is)
    (case w_EVENTS_k3 => k_is)
    (case w_EVENTS_k3_0 => k_is)
    (case w_EVENTS_k3_0_1 => k_is)
    (case w_EVENTS_k4 => k_is)
    (case w_EVENTS_k4_0 => k_is)
    (case w_EVENTS_k4_0_1 => k_is)
    (case w_EVENTS_k5 => k_is)
    (case w_EVENTS_k5_0 => k_is)
    (case w_EVENTS_k5_0_1 => k_is)
    (case w_EVENTS_k5_1 => k_is)
    (case w_EVENTS_k5_1_1 => k_is)
    (case w_EVENTS_k5_2 => k_is)
    (case w_EVENTS_k5_2_1 => k_is)
    (case w_EVENTS_k5_3 => k_is)
    (case w_EVENTS_k5_3_1 => k_is)
    (case w_EVENTS_k6 => k_is)
    (case w_EVENTS_k6_0 => k_is)
    (case w_EVENTS_k6_0_1 => k_is)
    (case w_EVENTS_k6_1 => k_is)
    (case w_EVENTS_k6_1_1 => k_is)
    (case w_EVENTS_k7 => k_is)
    (case w_EVENTS_k7_0 => k_is)
    (case w_EVENTS_k7_0_1 => k_is)
    (case w_EVENTS_k7_1 => k_is)
    (case w_EVENTS_k7_1_1 => k_is)
    (case w_EVENTS_k7_2 => k_is)
    (case w_EVENTS_k7_2_1 => k_is)
    (case w_EVENTS_k7_3 => k_is)
    (case w_EVENTS_k7_3_1 => k_is)
    (case w_EVENTS_k7_4 => k_is)
    (case w_EVENTS_k7_4_1 => k_is)
    (case w_EVENTS_k8 => k_is)
    (case w_EVENTS_k8_0 => k_is)
    (case w_EVENTS_k8_0_1 => k_is)
    (case w_EVENTS_k8_1 => k_is)
    (case w_EVENTS_k8_1_1 => k_is)
    (case w_EVENTS_k8_2 => k_is)
    (case w_EVENTS_k8_2_1 => k_is)
    (case w_EVENTS_k8_3 => k_is)
    (case w_EVENTS_k8_3_1 => k_is)
    (case w_EVENTS_k8_4 => k_is)
    (case w_EVENTS_k8_4_1 => k_is)
    (case w_EVENTS_k9 => k_is)
    (case w_EVENTS_k9_0 => k_is)
    (case w_EVENTS_k9_0_1 => k_is)
    (case w_EVENTS_k9_1 => k_is)
    (case w_EVENTS_k9_1_1 => k_is)
    (case w_EVENTS_k9_2 => k_is)
    (case w_EVENTS_k9_2_1 => k_is)
    (case w_EVENTS_k9_3 => k_is)
    (case w_EVENTS_k9_3_1 => k_is)
    (case w_EVENTS_k9_4 => k_is)
    (case w_EVENTS_k9_4_1 => k_is)
    (case w_EVENTS_k9_5 => k_is)
    (case w_EVENTS_k9_5_1 => k_is)
    (case w_EVENTS_k10 => k_is)
    (case w_EVENTS_k10_0 => k_is)
    (case w_EVENTS_k10_0_1 => k_is)
    (case w_EVENTS_k10_1 => k_is)
    (case w_EVENTS_k10_1_1 => k_is)
    (case w_EVENTS_k11 => k_is)
    (case w_EVENTS_k11_0 => k_is)
    (case w_EVENTS_k11_0_1 => k_is)
    (case w_EVENTS_k11_1 => k_is)
    (case w_EVENTS_k11_1_1 => k_is)
    (case w_EVENTS_k11_2 => k_is)
    (case w_EVENTS_k11_2_1 => k_is)
    (case w_EVENTS_k12 => k_is)
    (case w_EVENTS_k12_0 => k_is)
    (case w_EVENTS_k12_0_1 => k_is)
    (case w_EVENTS_k12_1 => k_is)
    (case w_EVENTS_k12_1_1 => k_is)
    (case w_EVENTS_k12_2 => k_is)
    (case w_EVENTS_k12_2_1 => k_is)
    (case w_EVENTS_k13 => k_is)
    (case w_EVENTS_k13_0 => k_is)
    (case w_EVENTS_k13_0_1 => k_is)
    (case w_EVENTS_k13_1 => k_is)
    (case w_EVENTS_k13_1_1 => k_is)
    (case pgReply => k_is)
    (case hdReply => k_is)
    (case poReply => k_is)
    (case saReply => k_is)
    (case mkReply => k_is)
    (case kcReply => k_is)
    (case nReply_told => k_is)
    (case nReply_ended => k_is)
    (case nReply_wishes => k_is)
    (case nReply_applied => k_is)
    (case xDisplayError => k_exc)
    (case keDisplayError => k_is)
    (case bxDisplayError => k_is)
    (case txDisplayError => k_is)
    (case ixDisplayError => k_is)
    (case sxDisplayError => first | rfl | k_is)
    (case xBadMessage => k_exc)
    (case keBadMessage => k_is)
    (case bxBadMessage => k_is)
    (case txBadMessage => k_is)
    (case ixBadMessage => k_is)
    (case sxBadMessage => first | rfl | k_is)
    (case xMessageTooLong => k_exc)
    (case keMessageTooLong => k_is)
    (case bxMessageTooLong => k_is)
    (case txMessageTooLong => k_is)
    (case ixMessageTooLong => k_is)
    (case sxMessageTooLong => first | rfl | k_is)
    (case loFault => k_is)
    (case rmFault => first | rfl | decide +kernel)
    (case keFault => k_is)
    (case bxFault => k_is)
    (case txFault => k_is)
    (case ixFault => k_is)
    (case sxFault => first | rfl | k_is)
    (case saFault => k_is)
    (case mrFault => k_is)
    (case ksFault => ks_is)
    (case veFault => k_is)
    (case tpFault => k_is)
    (case gaFault => k_is)
    (case gtFault => k_is)
    (case hxFault => k_is)
    (case fcFault => k_is)
    (case moFault => k_is)
    (case sgFault => k_is)
    (case tkFault => k_is)
    (case nFault_number => k_is)
    (case nFault_code => k_is)
    (case nFault_words => k_is)
    (case kitqFault_DisplayError => kit_is)
