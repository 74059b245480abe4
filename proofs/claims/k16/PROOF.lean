import PyProof.Rows.All
import Wide.All
import OpenK.AllK
import Wide.FinOn
import HandS.ForMost
import HandS.Exc
import HandS.TryOnly
import HandS.ExcOwn
import HandS.WordsExc
import HandS.IsInst
import HandS.Wide
import HandS.Flow
import HandS.More
import HandS.Codes
import HandS.Walk
import HandS.TupLe
import HandS.WordsDict
import HandS.Conv
import HandS.TryMany
import HandS.ExcIs
import KE.KBits
import HandS.CallLocal
import HandS.Strs
import HandS.SetFor
import HandS.Set
import HandS.Property
import KE.GoesMore
import KE.KTurns
import KE.KDictZip
import HandS.Keys
import HandS.Remove
import HandS.NoneIn
import HandS.Deep
import KE.KExcSuper
import KE.RegKSuper
import KE.KExcIs
import HandS.ExcInit
import HandS.ExcField
import PySem.Challenge.RW_sillwatch_k16_outputs_that_change
set_option Elab.async false
set_option linter.all false
set_option maxRecDepth 100000
set_option maxHeartbeats 4000000
namespace My
open PySem L2
section
/-! ### a def whose first statement is super().__init__(e, ..), in an own exception (our own rule) -/
open PySem PySem.Spec PyProof.Rows
structure SupScope (N P : List Str) (sc : Scope) : Prop where
  kind : sc.kind = .function
  co : sc.isCoroutine = false
  gen : sc.isGenerator = false
  nd : N.Nodup
  pre : N.take P.length = P
  par : ∀ x ∈ P, sc.names.lookup x = some .local
  nocell : ∀ y ∈ sc.names, y.2 ≠ .cell
  free : ∀ y ∈ sc.names, y.2 = .free → y.1 = "__class__"
  cls : sc.names.lookup ("__class__" : Str) = some .free
  sup : sc.names.lookup ("super" : Str) = some .globalImplicit
abbrev envSup (qual : Str) (scope : Scope) (L f : Addr) (cd : Value) (cc : Addr) : Env := PySem.W.envX qual scope L f cd [("__class__", cc)]
def cxSup (CX : CXT) (P : Program) (w : World) (K : PySem.W.Frag) (mg : Str → Option Value) (base : Heap) (N : List Str) (qual : Str) (scope : Scope) (f : Addr) (cd : Value) (cc : Addr) (A : Around) (outer : List Env) (s : Shared) (H : Hp) (E : XK) : Cx where
  prog := P
  w := w
  K := K
  mg := mg
  base := base
  A := A.deeper (envSup qual scope s.heap.objs.size f cd cc)
  N := N
  s_0 := s
  H_0 := H
  env := envSup qual scope s.heap.objs.size f cd cc
  outer := outer
  stack := envSup qual scope s.heap.objs.size f cd cc :: outer
  ex := []
  calm := true
  fn := fun x => x != ("__class__" : Str)
  pn := []
  xe := fun e s' => wpAny (model P w) (A.deeper (envSup qual scope s.heap.objs.size f cd cc)) (leaving (envSup qual scope s.heap.objs.size f cd cc) e) (fun _ s'' => CX outer H s E e s'') (fun e' s'' => CX outer H s E e' s'') s'
theorem zip_rev_out {x : Str} : ∀ {ps : List Str} {us : List Value}, x ∉ ps → ((ps.zip us).reverse.lookup x) = none := by
  intro ps us h
  rw [List.lookup_eq_none_iff]
  intro p hp
  rw [List.mem_reverse] at hp
  have := (List.of_mem_zip (a := p.1) (b := p.2) hp).1
  simp only [beq_eq_false_iff_ne, bne_iff_ne, ne_eq]
  intro e
  rw [e] at h
  exact h this
theorem zip_rev_get {x : Str} {u : Value} : ∀ {ps : List Str} {us : List Value} {i : Nat}, ps.Nodup → ps[i]? = some x → us[i]? = some u → (ps.zip us).reverse.lookup x = some u
  | [], _, _, _, h, _ => by simp at h
  | _ :: _, [], _, _, _, h => by simp at h
  | p :: ps, v :: us, 0, nd, h1, h2 => by
    simp at h1 h2; subst h1; subst h2
    rw [List.zip_cons_cons, List.reverse_cons, List.lookup_append, zip_rev_out (List.nodup_cons.mp nd).1]
    simp [List.lookup]
  | p :: ps, v :: us, i + 1, nd, h1, h2 => by
    rw [List.zip_cons_cons, List.reverse_cons, List.lookup_append, zip_rev_get (i := i) (List.nodup_cons.mp nd).2 (by simpa using h1) (by simpa using h2)]
    rfl
theorem sup_cell {x : Str} {c cc : Addr} (h : List.lookup x [(("__class__" : Str), cc)] = some c) : x = "__class__" ∧ c = cc := by
  rw [List.lookup_cons] at h
  cases e : (x == ("__class__" : Str)) with
  | true =>
    rw [e] at h
    exact ⟨by simpa using e, by cases h; rfl⟩
  | false => rw [e] at h; cases h
theorem inv_sup {CX : CXT} {P : Program} {w : World} {K : PySem.W.Frag} {mg : Str → Option Value} {base : Heap} {N ps : List Str} {qual : Str} {scope : Scope} {f cc : Addr} {cd : Value} {A : Around} {outer : List Env} {s : Shared} {H : Hp} {E : XK} {us : List Value} {vs : List V} {h1 : Heap} {tk : Nat}
    {cl : Value} {cld : Option Addr} {cv : Option Value} {csl : Array (Option Value)} (S : SupScope N ps scope) (hd : A.handled = none) (e0 : Env0 P w K mg base A outer s H) (hl : vs.length = ps.length) (r : Vals vs us) (hcc : K.lookup cc = some ⟨cl, cld, .cell cv, csl⟩)
    (hns : h1.Ns s.heap.objs.size (fun x => (ps.zip us).reverse.lookup x)) (hk : ∀ b o, s.heap.get? b = some o → h1.get? b = some o) :
    Inv (cxSup CX P w K mg base N qual scope f cd cc A outer s H E) [] (L2.start N vs) H { s with heap := h1, toks := tk } := by
  have hpl : ps.length ≤ N.length := by have := congrArg List.length S.pre; rw [List.length_take] at this; omega
  have noA : ∀ b : Addr, b ∉ (cxSup CX P w K mg base N qual scope f cd cc A outer s H E).ex := fun b z => absurd (show b ∈ ([] : List Addr) from z) (by simp)
  have hcb : base.get? cc = some ⟨cl, cld, .cell cv, csl⟩ := e0.mod.kin _ _ hcc
  have hcs := (e0.bs _ _ hcb).1
  refine ⟨⟨e0.mod, S.kind, rfl, rfl, Nat.le_refl _, fun y z c a b => ?_, fun y hy => ?_, fun y c hf h => ?_, fun _ => hd, Around.frames_deeper e0.frames, .inr ⟨rfl, rfl⟩, fun b z => absurd z (noA b), e0.bs, e0.bsz, fun b _ _ => noA b, fun b z => absurd z (noA b), e0.funs, e0.frf⟩,
    rfl, e0.bare, Un.kept hk, ⟨_, hns, fun i y v a b c => ?_⟩, fun y c h => ?_, e0.hok.fresh (Nat.le_refl _), fun y c h => ?_, fun p hp => absurd (show p ∈ ([] : List (Addr × Obj)) from hp) (by simp), e0.hok.kept hk, ?_⟩
  · rw [(sup_cell a).1, (sup_cell b).1]
  · have hy : scope.names.lookup y = some .cell ∨ scope.names.lookup y = some .free := hy
    rcases hy with hy | hy
    · exact absurd rfl (S.nocell _ (PySem.mem_of_lookup hy))
    · have e := S.free _ (PySem.mem_of_lookup hy) rfl
      refine ⟨cc, ?_⟩
      show List.lookup y [(("__class__" : Str), cc)] = some cc
      rw [show y = "__class__" from e]
      exact List.lookup_cons_self
  · have := (sup_cell h).1
    subst this
    exact absurd hf (by show ¬ ((("__class__" : Str) != ("__class__" : Str)) = true); decide)
  · have hi : i < vs.length := by
      unfold L2.start at b
      by_cases hi : i < vs.length
      · exact hi
      · rw [List.getElem?_append_right (by simpa using hi)] at b
        rw [List.getElem?_replicate] at b
        split at b <;> cases b
    have ha : vs[i]? = some v := by
      unfold L2.start at b
      rw [List.getElem?_append_left (by simpa using hi), List.getElem?_map] at b
      cases e : vs[i]? with
      | none => rw [e] at b; cases b
      | some a => rw [e] at b; cases b; rfl
    obtain ⟨u, hu, rv⟩ := r.get ha
    have hp : ps[i]? = some y := by
      rw [← S.pre, List.getElem?_take_of_lt (by omega)]; exact a
    have ndP : ps.Nodup := by rw [← S.pre]; exact S.nd.sublist (List.take_sublist _ _)
    exact ⟨u, rv, .inl ⟨S.par y (List.mem_of_getElem? hp), zip_rev_get ndP hp hu⟩⟩
  · obtain ⟨_, rfl⟩ := sup_cell h
    exact ⟨cv, _, hk _ _ hcs, rfl⟩
  · obtain ⟨_, rfl⟩ := sup_cell h
    exact (e0.bs _ _ hcb).2
  · unfold L2.start
    show _ = N.length
    rw [List.length_append, List.length_map, List.length_replicate]
    omega
/-- ValueError's __init__ called through the wrapper that super() gave -/
theorem sup_call {X : Cx} {pins : List (Addr × Obj)} {σ : L2.St} {H : Hp} {s : Shared} {a C u : Addr} {us : List Value} {Q : Value → Shared → Prop} {E : Value → Shared → Prop} {A : Around} (T : OexC X.K C) (I : Inv X pins σ H s) (e : H a = some (exo a C none))
    (hu : s.heap.get? u = some (PySem.W.kxs_mw "ValueError.__init__" a)) (hl : us.length ≤ sizeLine) (h : ∀ s', Inv X pins σ H s' → Q .none s') :
    wpAny (model X.prog X.w) A (call (.ref u) us) Q E s := by
  obtain ⟨nm, q, N, bs, bm, sn, sub, ab, col, dd, k0, k1, k2, k3, k5, hC, hbm⟩ := T.cls
  obtain ⟨t1, ho⟩ := exo_at I.hok e
  have hCs := I.kIn _ _ hC
  obtain ⟨hp, g, d, t, os⟩ := s
  refine wpAny_call (codeAny_of_tree ?_)
  show wpAny _ A.in1 (callAny (.ref u) ⟨us, []⟩) _ _ _
  simp only [callAny]
  refine wpAny_bind (wpAny_load hu ?_)
  simp only [PySem.W.kxs_mw, show (Value.type "method-wrapper" == Value.type "method" || Value.type "method-wrapper" == Value.type "builtin_function_or_method" || Value.type "method-wrapper" == Value.type "method-wrapper") = true by decide, if_true]
  refine PySem.W.KFB.if_so (by decide) ?_
  refine wpAny_bind (PySem.W.check_bound_init F.excBase_ValueError.toExcCallFacts hCs ho rfl ?_)
  refine wpAny_bind (wpAny_pure (wpAny_pure ?_))
  refine ⟨PySem.plainId_quiet F.excBase_ValueError.init.plain _, codeAny_builtin F.excBase_ValueError.initEntry ?_⟩
  refine PySem.W.exc_init_tree (cls := .ref C) (t0 := t1) (dv := none) (c2 := .none) (c3 := .none) (b4 := .bool false) ho hl (fun h' k hx _ => ?_)
  have J := I.write (t' := t) (x := a) (e := a) (o := exo a C none) (by rw [e]; exact True.intro) (.inl rfl) k ⟨_, hx⟩ (exo_ok hx)
  have eu : upd H a (exo a C none) = H := by
    funext b
    by_cases hb : b = a
    · rw [hb, upd_same, e]
    · rw [upd_ne hb]
  rw [eu] at J
  exact h _ J
/-- what the written part says of an own exception's class C whose __init__ D has -/
structure SupC (K : PySem.W.Frag) (C D : Addr) : Prop where
  ox : OexC K C
  up : PySem.W.mroIn K C (.ref D) = some true
  get : PySem.W.ks_superIn K C D "__init__" = some (some (.builtin "ValueError.__init__"))
  ve : PySem.W.subIn K (.ref C) (.type "ValueError") = some true
  tp : PySem.W.nsIn K PySem.cStatics "thirdparty.any" = some none
theorem fn_sup {CX : CXT} {P : Program} {w : World} {K : PySem.W.Frag} {mg : Str → Option Value} {base : Heap} {k : Nat} {f cc cda D : Addr} {name qual : Str} {params : Arguments} {e : Expr} {es : List Expr} {p0 p1 p2 p3 p4 : Pos} {rest : List Stmt} {scope : Scope} {dV kV doc pm ct oc cl ccl : Value} {an od cld cdd : Option Addr}
    {osl csl ccs : Array (Option Value)} {N ps : List Str} {sp : Sp} {ar : Arg} {fvs : Array Value} {file : Str} {tf : Tok} {cdD : ClassData}
    (lk : K.lookup f = some ⟨oc, od, .func (PySem.W.fnX name qual params (.Expr (.Call (.Attribute (.Call (.Name "super" p0) [] [] p1) "__init__" p2) (e :: es) [] p3) p4 :: rest) scope [("__class__", cc)] dV kV doc pm an (.ref cda) ct), osl⟩)
    (hcd : PySem.W.codeIn K (.ref cda) qual = true) (S : SupScope N ps scope) (len : ∀ vs H Q E, sp vs H Q E → vs.length = ps.length)
    (hpar : (params.posonlyargs ++ params.args).head? = some ar) (har : ps[0]? = some ar.arg)
    (hcode : K.lookup cda = some ⟨ccl, cdd, .fields fvs, ccs⟩) (hvs : fvs[2]? = some (.str file tf)) (hfile : ((P.main.file : Str) == file) = true)
    (hcc : K.lookup cc = some ⟨cl, cld, .cell (some (.ref D)), csl⟩) (hD : PySem.W.clsIn K D = some cdD) (hsuper : mg "super" = none) (htop : (P.main.scope.names.lookup ("super" : Str)).isSome = false)
    (pl : Addr → Sem Bool) (hev : ∀ L : Addr, eval (.Call (.Attribute (.Call (.Name "super" p0) [] [] p1) "__init__" p2) (e :: es) [] p3) (envSup qual scope L f (.ref cda) cc) = (do
      let ov ← attributeBase (.Call (.Name "super" p0) [] [] p1) "__init__" (envSup qual scope L f (.ref cda) cc) (eval (.Call (.Name "super" p0) [] [] p1) (envSup qual scope L f (.ref cda) cc))
      standAt p2.atName
      let (fx, first) ← holding [ov] (getMethod ov "__init__" (pl L))
      callWith p3 fx first (backTo p3 (starEach (e :: es) (envSup qual scope L f (.ref cda) cc))) []))
    (he : ∀ X : Cx, starEach (e :: es) X.env = (false, eval e X.env) :: starEach es X.env) (hpl : ∀ X : Cx, (backTo p3 (starEach es X.env)).any (·.1) = false)
    (hbody : ∀ (A : Around) (outer : List Env) (s : Shared) (H : Hp) (vs : List V) (Q : VK) (E : XK), Room k (A.deeper (envSup qual scope s.heap.objs.size f (.ref cda) cc)) → sp vs H Q E →
      ∃ (ta : TA) (t : TS) (a C : Addr) (ws : List V), PA (cxSup CX P w K mg base N qual scope f (.ref cda) cc A outer s H E) (e :: es) ta ∧ PSs (cxSup CX P w K mg base N qual scope f (.ref cda) cc A outer s H E) rest t ∧ vs = .ref a :: ws ∧ H a = some (exo a C none) ∧ SupC K C D ∧
        ta (L2.start N vs) H fun us H1 => us.length ≤ 1000 ∧ H1 a = some (exo a C none) ∧ t { nx := fun _ H' => Q .non H', rt := Q } (L2.start N vs) H1) :
    FnOk P w K mg base CX (k + 1) f (PySem.W.fnX name qual params (.Expr (.Call (.Attribute (.Call (.Name "super" p0) [] [] p1) "__init__" p2) (e :: es) [] p3) p4 :: rest) scope [("__class__", cc)] dV kV doc pm an (.ref cda) ct) ps sp := by
  refine ⟨len, fun A outer s H args us vs Q E hr e0 hb r hsp => ?_⟩
  have hl := len _ _ _ _ hsp
  have KX : K.In s.heap := e0.mod.kin.keeps fun b o e => (e0.bs b o e).1
  have lim : s.heap.NoLimit := e0.mod.nolimit.keeps fun b o e => (e0.bs b o e).1
  refine PySem.ks_codeAny_call_defAt (fd := PySem.W.fnX name qual params (.Expr (.Call (.Attribute (.Call (.Name "super" p0) [] [] p1) "__init__" p2) (e :: es) [] p3) p4 :: rest) scope [("__class__", cc)] dV kV doc pm an (.ref cda) ct) (binds := ps.zip us)
    hr.depth (KX _ _ lk) rfl lim (PySem.W.codeRec_of KX hcd) rfl hb S.nocell (fun ⟨n, v⟩ hy => S.par n (List.of_mem_zip hy).1) (fun h₀ hns hk => ?_) S.co S.gen S.kind
  obtain ⟨ta, t, a, C, ws, hPA, hPS, rfl, ea, T, hq⟩ := hbody A outer s H vs Q E (hr.deeper _) hsp
  have I : Inv (cxSup CX P w K mg base N qual scope f (.ref cda) cc A outer s H E) [] (L2.start N (.ref a :: ws)) H { s with heap := h₀, toks := s.toks + (ps.zip us).length } := inv_sup S hr.hd e0 hl r hcc hns hk
  have ndP : ps.Nodup := by rw [← S.pre]; exact S.nd.sublist (List.take_sublist _ _)
  have hus : ∃ ur, us = .ref a :: ur := by
    cases r with
    | cons h _ => obtain rfl := (show _ = Value.ref a from h); exact ⟨_, rfl⟩
  obtain ⟨ur, rfl⟩ := hus
  have hself : (ps.zip (.ref a :: ur)).reverse.lookup ar.arg = some (.ref a) := zip_rev_get (i := 0) ndP har rfl
  obtain ⟨t1, ho⟩ := exo_at I.hok ea
  have K0 : K.In h₀ := I.kIn
  obtain ⟨oD, hD1, hD2⟩ : ∃ oD, h₀.get? D = some oD ∧ oD.data = .cls cdD := by
    unfold PySem.W.clsIn at hD
    split at hD
    · rename_i c d cd' sl ho
      cases hD
      exact ⟨_, K0 _ _ ho, rfl⟩
    · cases hD
  show PySem.wpAt (model P w) (A.deeper (envSup qual scope s.heap.objs.size f (.ref cda) cc)) (.func (.Expr (.Call (.Attribute (.Call (.Name "super" p0) [] [] p1) "__init__" p2) (e :: es) [] p3) p4 :: rest) (envSup qual scope s.heap.objs.size f (.ref cda) cc)) (execs (.Expr (.Call (.Attribute (.Call (.Name "super" p0) [] [] p1) "__init__" p2) (e :: es) [] p3) p4 :: rest) (envSup qual scope s.heap.objs.size f (.ref cda) cc)) _ _ _
  refine PySem.ks_wpAt_execs_cons (PySem.ks_wpAt_Expr_any (PySem.ks_wpAt_MethodCall ?_ (hev _)) I.quiet)
  refine PySem.ks_wpAt_super_base (f := f) (cc := cda) (ar := ar) (vs := fvs) (file := file) (tf := tf) (env := envSup qual scope s.heap.objs.size f (.ref cda) cc) S.sup S.cls (by decide) rfl (K0 _ _ lk) rfl hpar rfl (K0 _ _ hcode) rfl hvs hfile htop ?_
  obtain ⟨mb, hb1, hb2⟩ := I.mod.blt
  refine PySem.W.ks_loadName_global S.kind S.sup (Calls.loadGlobal_builtin (I.mod.glob.keeps I.bk) hsuper (hb1.keeps I.bk) ((hb2 _ (by decide)).trans (by first | rfl | kernel_rfl | decide +kernel)) ⟨rfl, ?_⟩)
  refine wpAny_loadName_free S.kind S.cls (c := cc) rfl ⟨_, K0 _ _ hcc, rfl⟩ ?_
  refine wpAny_loadName_local S.kind (S.par _ (List.mem_of_getElem? har)) hns hself ?_
  refine PySem.ks_wpAny_isType_cls hD1 hD2 ⟨rfl, ?_⟩
  refine PySem.ks_wpAny_call_super hD1 hD2 ho rfl (fun c z => by cases z) (PySem.W.looks_mroIn K0 T.up) (fun h' eso k => ?_)
  have I' := I.kept (t' := s.toks + (ps.zip (Value.ref a :: ur)).length) k
  have K' : K.In h' := I'.kIn
  have ho' := k _ _ ho
  obtain ⟨nm, q, N', bs, bm, sn, sub, ab, col, dd, k0, k1, k2, k3, k5, hC, hbm⟩ := T.ox.cls
  have hcl : PySem.W.clsIn K C = some { name := nm, bases := bs, mro := .ref C :: bm, ns := N', qualname := q, hasDict := true, slotNames := sn, subclasses := sub, abstract := ab, collection := col, hasDel := false } := by unfold PySem.W.clsIn; rw [hC] <;> rfl
  have hget := T.get
  unfold PySem.W.ks_superIn at hget
  rw [hcl, Option.bind_some] at hget
  have haC : a ≠ C := fun z => by
    have := (e0.bs _ _ (e0.mod.kin _ _ hC)).2
    rw [← z, ea] at this; cases this
  have IA : PySem.W.InstAt h' a { cls := .ref C, dict := none, data := .fields #[.ref t1, .none, .none, .none, .bool false, .none] } C none := ⟨ho', rfl, rfl, trivial⟩
  refine PySem.W.kxs_getMethod PySem.W.kxs_ValueError eso (PySem.W.looks_opaque K' T.tp) ((PySem.W.looks_clsIn K' hcl).andThen .now) rfl K' hget (IA.type.andThen (PySem.W.looks_subIn K' T.ve)) haC (by decide) ?_
  have I2 := I'.kept (t' := s.toks + (ps.zip (Value.ref a :: ur)).length + 1) (h' := h'.push (PySem.W.kxs_mw "ValueError.__init__" a)) (fun b o e => Heap.get?_push_of_some _ e)
  have I3 : Inv (cxSup CX P w K mg base N qual scope f (.ref cda) cc A outer s H E) [(h'.objs.size, PySem.W.kxs_mw "ValueError.__init__" a)] (L2.start N (.ref a :: ws)) H { s with heap := h'.push (PySem.W.kxs_mw "ValueError.__init__" a), toks := s.toks + (ps.zip (Value.ref a :: ur)).length + 1 } :=
    I2.pins_of fun p hp => by
      rw [List.mem_singleton.mp hp]
      exact ⟨Heap.get?_push_at rfl rfl, I'.hok.fresh (Nat.le_refl _), Nat.ne_of_gt I'.lt, I'.nofs (Nat.le_refl _), fun v z => by cases z⟩
  have hX := he (cxSup CX P w K mg base N qual scope f (.ref cda) cc A outer s H E)
  have hpl2 := hpl (cxSup CX P w K mg base N qual scope f (.ref cda) cc A outer s H E)
  have hrun := hPA.run p3 _ _ _ _ _ I3 hq
  show wpAny _ _ (callWith p3 (Value.ref h'.objs.size) [] (backTo p3 (starEach (e :: es) (cxSup CX P w K mg base N qual scope f (.ref cda) cc A outer s H E).env)) []) _ _ _
  rw [hX] at hrun ⊢
  refine PySem.W.kxs_callWith (i := "ValueError.__init__") (x := a) (by show (false || (backTo p3 (starEach es _)).any (·.1)) = false; rw [hpl2]; rfl) (Calls.evalArgs_plain (wpAny_mono hrun (fun ws' s1 hh => ?_) fun _ _ z => z))
  obtain ⟨vs1, H1, I4, r1, hl1, e1, ht⟩ := hh
  refine ⟨(I4.pin _ (List.mem_append_right _ (List.mem_singleton.mpr rfl))).1, ?_⟩
  refine sup_call T.ox I4 e1 (I4.pin _ (List.mem_append_right _ (List.mem_singleton.mpr rfl))).1 (by rw [List.nil_append, ← Paired.length r1, sizeLine_eq]; omega) (fun s2 J => ?_)
  refine wpAt_of_wpAny ?_
  refine wpAny_mono (hPS.run _ s2 _ H1 _ J ht) (fun fl s' hs => ?_) fun e s' hs => hs
  have fin : ∀ {σ' : L2.St} {H' : Hp} {v : V} {u : Value}, Inv (cxSup CX P w K mg base N qual scope f (.ref cda) cc A outer s H E) [(h'.objs.size, PySem.W.kxs_mw "ValueError.__init__" a)] σ' H' s' → RelV v u → Q v H' → CE outer P w H s Q u s' :=
    fun {σ' H' v u} J rv q => ⟨v, H', J.os, J.bare, J.base, J.hok, rv, q⟩
  cases fl with
  | ret u =>
    obtain ⟨v, σ', H', J, rv, q⟩ := hs
    exact fin J rv q
  | next =>
    obtain ⟨σ', H', J, q⟩ := hs
    exact fin (v := V.non) (u := Value.none) J rfl q
  | brk =>
    obtain ⟨_, _, _, q⟩ := hs
    exact False.elim q
  | cont =>
    obtain ⟨_, _, _, q⟩ := hs
    exact False.elim q
/-- what the program says of its own file, and of the name super -/
structure Prg (P : Program) : Prop where
  file : ((P.main.file : Str) == ("/claim/cut.py" : Str)) = true
  top : (P.main.scope.names.lookup ("super" : Str)).isSome = false
/-- such a def of the text as it stands behind the top -/
structure FunSup (K : PySem.W.Frag) (x qual : Str) (st : Stmt) (f : Addr) (fd : FuncData) (D : Addr) : Prop where
  ex : ∃ (oc : Value) (od : Option Addr) (kV doc pm : Value) (an : Option Addr) (cda : Addr) (ct : Value) (osl : Array (Option Value)) (cc : Addr) (cl ccl : Value) (cld cdd : Option Addr) (csl ccs : Array (Option Value)) (fvs : Array Value) (tf : Tok) (cdD : ClassData),
    fd = PySem.W.fnX x qual (defArgs st) (defBody st) (defScope st) [("__class__", cc)] .none kV doc pm an (.ref cda) ct ∧ K.lookup f = some ⟨oc, od, .func fd, osl⟩ ∧ PySem.W.codeIn K (.ref cda) qual = true ∧ K.lookup cda = some ⟨ccl, cdd, .fields fvs, ccs⟩ ∧
    fvs[2]? = some (.str "/claim/cut.py" tf) ∧ K.lookup cc = some ⟨cl, cld, .cell (some (.ref D)), csl⟩ ∧ PySem.W.clsIn K D = some cdD
theorem FunSup.ok {CX : CXT} {P : Program} {w : World} {K : PySem.W.Frag} {mg : Str → Option Value} {base : Heap} {x qual : Str} {st : Stmt} {f D : Addr} {fd : FuncData} {N ps : List Str} {k : Nat} {sp : Sp} {ar : Arg} {e : Expr} {es : List Expr} {p0 p1 p2 p3 p4 : Pos} {rest : List Stmt}
    (F : FunSup K x qual st f fd D) (hP : Prg P) (S : SupScope N ps (defScope st)) (len : ∀ vs H Q E, sp vs H Q E → vs.length = ps.length)
    (hst : defBody st = .Expr (.Call (.Attribute (.Call (.Name "super" p0) [] [] p1) "__init__" p2) (e :: es) [] p3) p4 :: rest) (hpar : ((defArgs st).posonlyargs ++ (defArgs st).args).head? = some ar) (har : ps[0]? = some ar.arg) (hsuper : mg "super" = none)
    {pl : Addr → Addr → Addr → Sem Bool} (hev : ∀ cc cda L : Addr, eval (.Call (.Attribute (.Call (.Name "super" p0) [] [] p1) "__init__" p2) (e :: es) [] p3) (envSup qual (defScope st) L f (.ref cda) cc) = (do
      let ov ← attributeBase (.Call (.Name "super" p0) [] [] p1) "__init__" (envSup qual (defScope st) L f (.ref cda) cc) (eval (.Call (.Name "super" p0) [] [] p1) (envSup qual (defScope st) L f (.ref cda) cc))
      standAt p2.atName
      let (fx, first) ← holding [ov] (getMethod ov "__init__" (pl cc cda L))
      callWith p3 fx first (backTo p3 (starEach (e :: es) (envSup qual (defScope st) L f (.ref cda) cc))) []))
    (he : ∀ X : Cx, starEach (e :: es) X.env = (false, eval e X.env) :: starEach es X.env) (hpl : ∀ X : Cx, (backTo p3 (starEach es X.env)).any (·.1) = false)
    (hbody : ∀ (cc cda : Addr) (A : Around) (outer : List Env) (s : Shared) (H : Hp) (vs : List V) (Q : VK) (E : XK), Room k (A.deeper (envSup qual (defScope st) s.heap.objs.size f (.ref cda) cc)) → sp vs H Q E →
      ∃ (ta : TA) (t : TS) (a C : Addr) (ws : List V), PA (cxSup CX P w K mg base N qual (defScope st) f (.ref cda) cc A outer s H E) (e :: es) ta ∧ PSs (cxSup CX P w K mg base N qual (defScope st) f (.ref cda) cc A outer s H E) rest t ∧ vs = .ref a :: ws ∧ H a = some (exo a C none) ∧ SupC K C D ∧
        ta (L2.start N vs) H fun us H1 => us.length ≤ 1000 ∧ H1 a = some (exo a C none) ∧ t { nx := fun _ H' => Q .non H', rt := Q } (L2.start N vs) H1) :
    FnOk P w K mg base CX (k + 1) f fd ps sp := by
  obtain ⟨oc, od, kV, doc, pm, an, cda, ct, osl, cc, cl, ccl, cld, cdd, csl, ccs, fvs, tf, cdD, rfl, lk, hcd, hcode, hvs, hcc, hD⟩ := F.ex
  rw [hst] at lk ⊢
  exact fn_sup lk hcd S len hpar har hcode hvs hP.file hcc hD hsuper hP.top (pl cc cda) (hev cc cda) he hpl (fun A outer s H vs Q E => hbody cc cda A outer s H vs Q E)
end
section
/-! ### an own exception that was made with its own __init__, as a value (our own rules) -/
open PySem PySem.Spec PyProof.Rows
/-- its object and its dict -/
structure ExV (H : Hp) (a C dx : Addr) (fs : List (Str × V)) : Prop where
  ob : H a = some (exo a C (some dx))
  di : H dx = some (exd dx fs)
theorem ExV.to {H H' : Hp} {a C dx : Addr} {fs : List (Str × V)} (h : ExV H a C dx fs) (s : Same H H') : ExV H' a C dx fs := ⟨s _ _ h.ob, s _ _ h.di⟩
theorem exv_inst {X : Cx} {pins : List (Addr × Obj)} {σ : L2.St} {H : Hp} {s : Shared} {a C dx : Addr} {fs : List (Str × V)} (I : Inv X pins σ H s) (h : ExV H a C dx fs) :
    ∃ (ox od : Obj) (mA : Str → Option Value), PySem.W.InstAt s.heap a ox C (some od) ∧ (∀ f, RelO (fs.lookup f) (mA f)) ∧ ∀ n, PySem.W.lookIn n od = some (mA n) := by
  obtain ⟨t1, ho⟩ := exo_at I.hok h.ob
  obtain ⟨mA, hns, hr⟩ := exd_at I.hok h.di
  obtain ⟨od, hod, hl⟩ := lookIn_ns hns
  exact ⟨_, od, mA, ⟨ho, rfl, rfl, hod⟩, hr, hl⟩
/-- isinstance(x, c) of such an exception -/
def rIsExo (K : PySem.W.Frag) : List V → Hp → VK → Prop := fun xs H Q => ∃ (a C dx : Addr) (fs : List (Str × V)) (c : V) (cv : Value) (b : Bool), xs = [.ref a, c] ∧ ExV H a C dx fs ∧ ExcC K C ∧ (∀ u, RelV c u → u = cv) ∧ PySem.W.kitOne K (.ref C) cv = some b ∧ Q (.bl b) H
theorem call_isExo {X : Cx} : CallR X (.builtin "isinstance") (rIsExo X.K) := by
  intro pins s σ H xs us Q I r h
  obtain ⟨a, C, dx, fs, c, cv, b, rfl, ev, T, hcv, e, q⟩ := h
  cases r with
  | cons rx rr =>
    cases rr with
    | cons rt rr =>
      cases rr
      cases rx
      have ec := hcv _ rt
      subst ec
      obtain ⟨ox, od, mA, J, _, _⟩ := exv_inst I ev
      have hcl : (PySem.W.clsIn X.K C).isSome = true := by
        have := T.hd
        unfold PySem.W.hasDictIn at this
        cases z : PySem.W.clsIn X.K C with
        | none => rw [z] at this; cases this
        | some cd => rfl
      exact PySem.W.kia_one (PySem.W.kitx_exc hcl T.hg T.hk T.hs T.ha T.hn T.ht T.hm) I.kIn J e (fun z => nomatch z) fun tk => ⟨.bl b, H, I.kept (t' := tk) fun _ _ z => z, rfl, q⟩
/-- e.f of such an exception -/
def tExf (K : PySem.W.Frag) (n : Str) (te : TE) : TE := fun σ H Q => te σ H fun x H1 => ∃ (a C dx : Addr) (fs : List (Str × V)) (v : V), x = .ref a ∧ ExV H1 a C dx fs ∧ XfC K C ∧ PySem.W.findIn K (.ref C) n = some none ∧ fs.lookup n = some v ∧ Q v H1
theorem pe_exf {X : Cx} {e : Expr} {te : TE} {pos : Pos} {n : Str} (he : PE X e te) (hb : attributeBase e n X.env (eval e X.env) = eval e X.env := by rfl) : PE X (.Attribute e n pos) (tExf X.K n te) := by
  refine ⟨fun pins s σ H Q I h => ?_⟩
  refine attr_of hb (thn (he.run pins s σ H _ I h) fun u s1 hh => ?_)
  obtain ⟨x, H1, I1, rx, a, C, dx, fs, v, ex, ev, T, hno, l, q⟩ := hh
  subst ex
  obtain rfl : u = Value.ref a := rx
  obtain ⟨ox, od, mA, J, hr, hl⟩ := exv_inst I1 ev
  obtain ⟨u, hu, ru⟩ := RelO.some_of (v := v) (o := mA n) (by rw [← l]; exact hr n)
  exact HandSPX.exc_get I1.kIn J T.ga T.gg T.exC (PySem.W.findObj_own T.hdC hno rfl (by rw [hl, hu])) (handed_of ru) ⟨v, H1, I1.tok _, ru, q⟩
/-- C(e, ..) as a value, C's own __init__ keeping sp -/
def tMkV (C : Addr) (sp : Sp) (dvs : List V) (ta : TA) : TE := fun σ H Q => ta σ H fun vs H1 => vs.length ≤ 1000 ∧ ∀ a, H1 a = none → sp (.ref a :: (vs ++ dvs)) (upd H1 a (exo a C none)) (fun v H2 => v = .non ∧ Q (.ref a) H2) (fun _ _ _ => False)
theorem pe_mkv {X : Cx} {e : Expr} {es : List Expr} {ta : TA} {p pos : Pos} {CX : CXT} {x : Str} {C fI : Addr} {k : Nat} {fd : FuncData} {ps : List Str} {sp : Sp} {ds : List Value} {dvs : List V} (T : OexC X.K C) (iC : PySem.W.findIn X.K (.ref C) "__init__" = some (some (.ref fI))) (tI : PySem.W.typeIn X.K (.ref fI) = some (.type "function"))
    (F1 : FnOk X.prog X.w X.K X.mg X.base CX k fI fd ps sp) (hr : Room (k + 1) X.A) (hb : Binds X.K fd ps ds) (hd : Vals dvs ds) (hx : Passes CX X (fun _ _ _ => False)) (hg : Gl X x) (hm : X.mg x = some (.ref C)) (ha : PA X (e :: es) ta)
    (hdb : (x == ("__debug__" : Str)) = false := by decide) (he : starEach (e :: es) X.env = (false, eval e X.env) :: starEach es X.env := by rfl) (hpl : (backTo pos (starEach es X.env)).any (·.1) = false := by rfl) :
    PE X (.Call (.Name x p) (e :: es) [] pos) (tMkV C sp dvs ta) := by
  refine ⟨fun pins s σ H Q I h => ?_⟩
  obtain ⟨nm, q, N, bs, bm, sn, sub, ab, col, dd, k0, k1, k2, k3, k5, hC, hbm⟩ := T.cls
  refine wpAny_Call_Name_kw (ld_glob I hg hm ?_ hdb)
  refine PySem.W.callWith_K (h₀ := X.base) I.ok.mod.kin T.kC (thn (ha.run pos pins s σ H _ I h) fun us s1 ⟨vs, H1, I1, r1, hz, q1⟩ => ⟨I1.kIn, ?_⟩) he hpl
  show wpAny _ _ (call (.ref C) us) _ _ _
  obtain ⟨hp, g, dr, tk, os⟩ := s1
  have hsz : hp.objs.size ≤ hp.objs.size + 1 := Nat.le_succ _
  have hn : H1 (hp.objs.size + 1) = none := I1.hok.fresh hsz
  have hq := q1 (hp.objs.size + 1) hn
  have kk : ∀ b o, hp.get? b = some o → ((hp.push (PySem.W.kdv_tup us)).push (PySem.HandSPX.excO C hp.objs.size)).get? b = some o := fun b o e => Heap.get?_push_of_some _ (Heap.get?_push_of_some _ e)
  have hget : ((hp.push (PySem.W.kdv_tup us)).push (PySem.HandSPX.excO C hp.objs.size)).get? (hp.objs.size + 1) = some (PySem.HandSPX.excO C hp.objs.size) := by heap_get
  have I2 : Inv X pins σ (upd H1 (hp.objs.size + 1) (exo (hp.objs.size + 1) C none)) ⟨(hp.push (PySem.W.kdv_tup us)).push (PySem.HandSPX.excO C hp.objs.size), g, dr, tk, os⟩ :=
    I1.laid (t' := tk) (a := hp.objs.size + 1) (o := exo (hp.objs.size + 1) C none) (h' := (hp.push (PySem.W.kdv_tup us)).push (PySem.HandSPX.excO C hp.objs.size)) kk hsz (exo_ok hget)
  have r2 : Vals (V.ref (hp.objs.size + 1) :: (vs ++ dvs)) (Value.ref (hp.objs.size + 1) :: (us ++ ds)) := .cons rfl (r1.append hd)
  have hl : (Value.ref (hp.objs.size + 1) :: us ++ ds).length = ps.length := by
    have e := r2.length
    rw [F1.len _ _ _ _ hq] at e
    exact e.symm
  have hus : us.length ≤ sizeLine := by
    rw [← Paired.length r1, sizeLine_eq]
    omega
  refine wpAny_call (PySem.HandSPX.call_own F.excBase_ValueError (fun Y => PySem.HandSPX.refsVE_contains Y bm hbm) (I1.kIn _ _ hC) (PySem.W.looks_findIn I1.kIn iC) (fun self => PySem.W.bind_fn I1.kIn self tI) hus
    (codeAny_mono (F1.run _ X.stack _ _ ⟨Value.ref (hp.objs.size + 1) :: us, []⟩ (Value.ref (hp.objs.size + 1) :: (us ++ ds)) _ _ (fun _ _ _ => False) (hr.make C us []) (I2.env0.make C us []) (hb _ (Value.ref (hp.objs.size + 1) :: us) I2.kIn hl) r2 hq) fun r s' hq' => ?_))
  cases r with
  | error er => exact hx pins σ _ _ er s' I2 hq'
  | ok fl =>
    cases fl with
    | ret u =>
      obtain ⟨v, H2, J, rv, ev, q2⟩ := I2.after hq'
      subst ev
      exact ⟨rv, V.ref (hp.objs.size + 1), H2, J, rfl, q2⟩
    | next => exact False.elim hq'
    | brk => exact False.elim hq'
    | cont => exact False.elim hq'
end
def topS (i : Nat) : Stmt := PySem.Challenge.pw_sillwatch_k16_outputs_that_change.main.body.getD i (.Pass ⟨0, 0, 0, 0⟩)
abbrev s_output_numbered : Stmt := topS 8
abbrev s_global_rows : Stmt := topS 12
abbrev s_bound_interface : Stmt := topS 13
abbrev s__global_number : Stmt := topS 15
abbrev s__missing_in : Stmt := topS 16
abbrev s__size_row : Stmt := topS 17
abbrev s__tell_size : Stmt := topS 18
abbrev s_is_integer : Stmt := topS 28
abbrev s_is_text : Stmt := topS 29
abbrev s_number_octets : Stmt := topS 30
abbrev s_field_octets : Stmt := topS 31
abbrev s__is_code : Stmt := topS 32
abbrev s__is_of : Stmt := topS 33
abbrev s__are_octets : Stmt := topS 34
abbrev s__is_bound : Stmt := topS 35
abbrev s__text_octets : Stmt := topS 36
abbrev s__padded : Stmt := topS 37
abbrev s_encode_message : Stmt := topS 43
abbrev s_event_octets : Stmt := topS 46
abbrev s__opcode_of : Stmt := topS 47
abbrev s__law_cell : Stmt := topS 53
abbrev s__law_row : Stmt := topS 54
abbrev s__law_output : Stmt := topS 55
abbrev s__law_outputs : Stmt := topS 56
abbrev s__law_size : Stmt := topS 57
abbrev s__law_other : Stmt := topS 58
abbrev s__law_numbers : Stmt := topS 59
abbrev s__law_by : Stmt := topS 60
abbrev s__law_due : Stmt := topS 61
abbrev s__law_begin : Stmt := topS 62
abbrev s_law : Stmt := topS 63
abbrev s_Fault___init__ : Stmt := inClass (topS 5) 0
abbrev s_Output___init__ : Stmt := inClass (topS 7) 0
abbrev s_Registries___init__ : Stmt := inClass (topS 14) 0
abbrev s_Registries_serve : Stmt := inClass (topS 14) 1
abbrev s_Registries_changed : Stmt := inClass (topS 14) 2
abbrev s_Registries_forget : Stmt := inClass (topS 14) 3
abbrev s_Registries__open_registry : Stmt := inClass (topS 14) 5
abbrev s_Registries__bind : Stmt := inClass (topS 14) 6
abbrev s_Reply___init__ : Stmt := inClass (topS 49) 0
abbrev s_Reply_tell : Stmt := inClass (topS 49) 1
abbrev s_Reply_end : Stmt := inClass (topS 49) 2
abbrev s_Request___init__ : Stmt := inClass (topS 51) 0
structure Adr where
  foutput_numbered : Addr
  doutput_numbered : FuncData
  fglobal_rows : Addr
  dglobal_rows : FuncData
  fbound_interface : Addr
  dbound_interface : FuncData
  f_global_number : Addr
  d_global_number : FuncData
  f_missing_in : Addr
  d_missing_in : FuncData
  f_size_row : Addr
  d_size_row : FuncData
  f_tell_size : Addr
  d_tell_size : FuncData
  fis_integer : Addr
  dis_integer : FuncData
  fis_text : Addr
  dis_text : FuncData
  fnumber_octets : Addr
  dnumber_octets : FuncData
  ffield_octets : Addr
  dfield_octets : FuncData
  f_is_code : Addr
  d_is_code : FuncData
  f_is_of : Addr
  d_is_of : FuncData
  f_are_octets : Addr
  d_are_octets : FuncData
  f_is_bound : Addr
  d_is_bound : FuncData
  f_text_octets : Addr
  d_text_octets : FuncData
  f_padded : Addr
  d_padded : FuncData
  fencode_message : Addr
  dencode_message : FuncData
  fevent_octets : Addr
  devent_octets : FuncData
  f_opcode_of : Addr
  d_opcode_of : FuncData
  f_law_cell : Addr
  d_law_cell : FuncData
  f_law_row : Addr
  d_law_row : FuncData
  f_law_output : Addr
  d_law_output : FuncData
  f_law_outputs : Addr
  d_law_outputs : FuncData
  f_law_size : Addr
  d_law_size : FuncData
  f_law_other : Addr
  d_law_other : FuncData
  f_law_numbers : Addr
  d_law_numbers : FuncData
  f_law_by : Addr
  d_law_by : FuncData
  f_law_due : Addr
  d_law_due : FuncData
  f_law_begin : Addr
  d_law_begin : FuncData
  flaw : Addr
  dlaw : FuncData
  fFault___init__ : Addr
  dFault___init__ : FuncData
  fOutput___init__ : Addr
  dOutput___init__ : FuncData
  fRegistries___init__ : Addr
  dRegistries___init__ : FuncData
  fRegistries_serve : Addr
  dRegistries_serve : FuncData
  fRegistries_changed : Addr
  dRegistries_changed : FuncData
  fRegistries_forget : Addr
  dRegistries_forget : FuncData
  fRegistries__open_registry : Addr
  dRegistries__open_registry : FuncData
  fRegistries__bind : Addr
  dRegistries__bind : FuncData
  fReply___init__ : Addr
  dReply___init__ : FuncData
  fReply_tell : Addr
  dReply_tell : FuncData
  fReply_end : Addr
  dReply_end : FuncData
  fRequest___init__ : Addr
  dRequest___init__ : FuncData
  a_GLOBALS : Addr
  a_GLOBALS_0 : Addr
  a_GLOBALS_1 : Addr
  a_GLOBALS_2 : Addr
  a_GLOBALS_3 : Addr
  a_GLOBALS_4 : Addr
  a_GLOBALS_5 : Addr
  t_FIRST_OUTPUT : Tok
  tGREATEST_NUMBER : Tok
  tLEAST_INT : Tok
  tGREATEST_INT : Tok
  tLONGEST_TEXT : Tok
  tMOST_OCTETS : Tok
  t_FIRST_CODE : Tok
  t_LAST_CODE : Tok
  t_PERCENT_CODE : Tok
  tHEADER_SIZE : Tok
  tGREATEST_SIZE : Tok
  tGREATEST_OPCODE : Tok
  tMOST_ARGUMENTS : Tok
  a_EVENTS : Addr
  a_EVENTS_k0 : Addr
  a_EVENTS_k0_0 : Addr
  a_EVENTS_k0_0_1 : Addr
  a_EVENTS_k0_1 : Addr
  a_EVENTS_k0_1_1 : Addr
  a_EVENTS_k1 : Addr
  a_EVENTS_k1_0 : Addr
  a_EVENTS_k1_0_1 : Addr
  a_EVENTS_k2 : Addr
  a_EVENTS_k2_0 : Addr
  a_EVENTS_k2_0_1 : Addr
  a_EVENTS_k2_1 : Addr
  a_EVENTS_k2_1_1 : Addr
  a_EVENTS_k3 : Addr
  a_EVENTS_k3_0 : Addr
  a_EVENTS_k3_0_1 : Addr
  a_EVENTS_k4 : Addr
  a_EVENTS_k4_0 : Addr
  a_EVENTS_k4_0_1 : Addr
  a_EVENTS_k5 : Addr
  a_EVENTS_k5_0 : Addr
  a_EVENTS_k5_0_1 : Addr
  a_EVENTS_k5_1 : Addr
  a_EVENTS_k5_1_1 : Addr
  a_EVENTS_k5_2 : Addr
  a_EVENTS_k5_2_1 : Addr
  a_EVENTS_k5_3 : Addr
  a_EVENTS_k5_3_1 : Addr
  a_EVENTS_k6 : Addr
  a_EVENTS_k6_0 : Addr
  a_EVENTS_k6_0_1 : Addr
  a_EVENTS_k6_1 : Addr
  a_EVENTS_k6_1_1 : Addr
  a_EVENTS_k7 : Addr
  a_EVENTS_k7_0 : Addr
  a_EVENTS_k7_0_1 : Addr
  a_EVENTS_k7_1 : Addr
  a_EVENTS_k7_1_1 : Addr
  a_EVENTS_k7_2 : Addr
  a_EVENTS_k7_2_1 : Addr
  a_EVENTS_k7_3 : Addr
  a_EVENTS_k7_3_1 : Addr
  a_EVENTS_k7_4 : Addr
  a_EVENTS_k7_4_1 : Addr
  a_EVENTS_k8 : Addr
  a_EVENTS_k8_0 : Addr
  a_EVENTS_k8_0_1 : Addr
  a_EVENTS_k8_1 : Addr
  a_EVENTS_k8_1_1 : Addr
  a_EVENTS_k8_2 : Addr
  a_EVENTS_k8_2_1 : Addr
  a_EVENTS_k8_3 : Addr
  a_EVENTS_k8_3_1 : Addr
  a_EVENTS_k8_4 : Addr
  a_EVENTS_k8_4_1 : Addr
  a_EVENTS_k9 : Addr
  a_EVENTS_k9_0 : Addr
  a_EVENTS_k9_0_1 : Addr
  a_EVENTS_k9_1 : Addr
  a_EVENTS_k9_1_1 : Addr
  a_EVENTS_k9_2 : Addr
  a_EVENTS_k9_2_1 : Addr
  a_EVENTS_k9_3 : Addr
  a_EVENTS_k9_3_1 : Addr
  a_EVENTS_k9_4 : Addr
  a_EVENTS_k9_4_1 : Addr
  a_EVENTS_k9_5 : Addr
  a_EVENTS_k9_5_1 : Addr
  a_EVENTS_k10 : Addr
  a_EVENTS_k10_0 : Addr
  a_EVENTS_k10_0_1 : Addr
  a_EVENTS_k10_1 : Addr
  a_EVENTS_k10_1_1 : Addr
  a_EVENTS_k11 : Addr
  a_EVENTS_k11_0 : Addr
  a_EVENTS_k11_0_1 : Addr
  a_EVENTS_k11_1 : Addr
  a_EVENTS_k11_1_1 : Addr
  a_EVENTS_k11_2 : Addr
  a_EVENTS_k11_2_1 : Addr
  a_EVENTS_k12 : Addr
  a_EVENTS_k12_0 : Addr
  a_EVENTS_k12_0_1 : Addr
  a_EVENTS_k12_1 : Addr
  a_EVENTS_k12_1_1 : Addr
  a_EVENTS_k12_2 : Addr
  a_EVENTS_k12_2_1 : Addr
  a_EVENTS_k13 : Addr
  a_EVENTS_k13_0 : Addr
  a_EVENTS_k13_0_1 : Addr
  a_EVENTS_k13_1 : Addr
  a_EVENTS_k13_1_1 : Addr
  COutput : Addr
  CRegistries : Addr
  CReply : Addr
  CRequest : Addr
  CBadMessage : Addr
  CMessageTooLong : Addr
  CFault : Addr
structure Txt0 (P : Program) (K : PySem.W.Frag) (mg : Str → Option Value) (A : Adr) : Prop where
  prg : Prg P
  Foutput_numbered : Fun K "output_numbered" "output_numbered" s_output_numbered A.foutput_numbered A.doutput_numbered
  boutput_numbered : Binds K A.doutput_numbered ["outputs", "number"] []
  goutput_numbered : mg "output_numbered" = some (.ref A.foutput_numbered)
  koutput_numbered : PySem.W.keepIn K (.ref A.foutput_numbered) = true
  Fglobal_rows : Fun K "global_rows" "global_rows" s_global_rows A.fglobal_rows A.dglobal_rows
  bglobal_rows : Binds K A.dglobal_rows ["outputs"] []
  gglobal_rows : mg "global_rows" = some (.ref A.fglobal_rows)
  kglobal_rows : PySem.W.keepIn K (.ref A.fglobal_rows) = true
  Fbound_interface : Fun K "bound_interface" "bound_interface" s_bound_interface A.fbound_interface A.dbound_interface
  bbound_interface : Binds K A.dbound_interface ["number", "name"] []
  gbound_interface : mg "bound_interface" = some (.ref A.fbound_interface)
  kbound_interface : PySem.W.keepIn K (.ref A.fbound_interface) = true
  F_global_number : Fun K "_global_number" "_global_number" s__global_number A.f_global_number A.d_global_number
  b_global_number : Binds K A.d_global_number ["output"] []
  g_global_number : mg "_global_number" = some (.ref A.f_global_number)
  k_global_number : PySem.W.keepIn K (.ref A.f_global_number) = true
  F_missing_in : Fun K "_missing_in" "_missing_in" s__missing_in A.f_missing_in A.d_missing_in
  b_missing_in : Binds K A.d_missing_in ["outputs", "others"] []
  g_missing_in : mg "_missing_in" = some (.ref A.f_missing_in)
  k_missing_in : PySem.W.keepIn K (.ref A.f_missing_in) = true
  F_size_row : Fun K "_size_row" "_size_row" s__size_row A.f_size_row A.d_size_row
  b_size_row : Binds K A.d_size_row ["output"] []
  g_size_row : mg "_size_row" = some (.ref A.f_size_row)
  k_size_row : PySem.W.keepIn K (.ref A.f_size_row) = true
  F_tell_size : Fun K "_tell_size" "_tell_size" s__tell_size A.f_tell_size A.d_tell_size
  b_tell_size : Binds K A.d_tell_size ["number", "output", "reply"] []
  g_tell_size : mg "_tell_size" = some (.ref A.f_tell_size)
  k_tell_size : PySem.W.keepIn K (.ref A.f_tell_size) = true
  Fis_integer : Fun K "is_integer" "is_integer" s_is_integer A.fis_integer A.dis_integer
  bis_integer : Binds K A.dis_integer ["value", "least", "greatest"] []
  gis_integer : mg "is_integer" = some (.ref A.fis_integer)
  kis_integer : PySem.W.keepIn K (.ref A.fis_integer) = true
  Fis_text : Fun K "is_text" "is_text" s_is_text A.fis_text A.dis_text
  bis_text : Binds K A.dis_text ["value"] []
  gis_text : mg "is_text" = some (.ref A.fis_text)
  kis_text : PySem.W.keepIn K (.ref A.fis_text) = true
  Fnumber_octets : Fun K "number_octets" "number_octets" s_number_octets A.fnumber_octets A.dnumber_octets
  bnumber_octets : Binds K A.dnumber_octets ["number", "count"] []
  gnumber_octets : mg "number_octets" = some (.ref A.fnumber_octets)
  knumber_octets : PySem.W.keepIn K (.ref A.fnumber_octets) = true
  Ffield_octets : Fun K "field_octets" "field_octets" s_field_octets A.ffield_octets A.dfield_octets
  bfield_octets : Binds K A.dfield_octets ["kind", "value"] []
  gfield_octets : mg "field_octets" = some (.ref A.ffield_octets)
  kfield_octets : PySem.W.keepIn K (.ref A.ffield_octets) = true
  F_is_code : Fun K "_is_code" "_is_code" s__is_code A.f_is_code A.d_is_code
  b_is_code : Binds K A.d_is_code ["code"] []
  g_is_code : mg "_is_code" = some (.ref A.f_is_code)
  k_is_code : PySem.W.keepIn K (.ref A.f_is_code) = true
  F_is_of : Fun K "_is_of" "_is_of" s__is_of A.f_is_of A.d_is_of
  b_is_of : Binds K A.d_is_of ["kind", "value"] []
  g_is_of : mg "_is_of" = some (.ref A.f_is_of)
  k_is_of : PySem.W.keepIn K (.ref A.f_is_of) = true
  F_are_octets : Fun K "_are_octets" "_are_octets" s__are_octets A.f_are_octets A.d_are_octets
  b_are_octets : Binds K A.d_are_octets ["value"] []
  g_are_octets : mg "_are_octets" = some (.ref A.f_are_octets)
  k_are_octets : PySem.W.keepIn K (.ref A.f_are_octets) = true
  F_is_bound : Fun K "_is_bound" "_is_bound" s__is_bound A.f_is_bound A.d_is_bound
  b_is_bound : Binds K A.d_is_bound ["value"] []
  g_is_bound : mg "_is_bound" = some (.ref A.f_is_bound)
  k_is_bound : PySem.W.keepIn K (.ref A.f_is_bound) = true
  F_text_octets : Fun K "_text_octets" "_text_octets" s__text_octets A.f_text_octets A.d_text_octets
  b_text_octets : Binds K A.d_text_octets ["text"] []
  g_text_octets : mg "_text_octets" = some (.ref A.f_text_octets)
  k_text_octets : PySem.W.keepIn K (.ref A.f_text_octets) = true
  F_padded : Fun K "_padded" "_padded" s__padded A.f_padded A.d_padded
  b_padded : Binds K A.d_padded ["octets"] []
  g_padded : mg "_padded" = some (.ref A.f_padded)
  k_padded : PySem.W.keepIn K (.ref A.f_padded) = true
  Fencode_message : Fun K "encode_message" "encode_message" s_encode_message A.fencode_message A.dencode_message
  bencode_message : Binds K A.dencode_message ["number", "opcode", "arguments"] []
  gencode_message : mg "encode_message" = some (.ref A.fencode_message)
  kencode_message : PySem.W.keepIn K (.ref A.fencode_message) = true
  Fevent_octets : Fun K "event_octets" "event_octets" s_event_octets A.fevent_octets A.devent_octets
  bevent_octets : Binds K A.devent_octets ["number", "interface", "name", "values"] []
  gevent_octets : mg "event_octets" = some (.ref A.fevent_octets)
  kevent_octets : PySem.W.keepIn K (.ref A.fevent_octets) = true
  F_opcode_of : Fun K "_opcode_of" "_opcode_of" s__opcode_of A.f_opcode_of A.d_opcode_of
  b_opcode_of : Binds K A.d_opcode_of ["rows", "name"] []
  g_opcode_of : mg "_opcode_of" = some (.ref A.f_opcode_of)
  k_opcode_of : PySem.W.keepIn K (.ref A.f_opcode_of) = true
  F_law_cell : Fun K "_law_cell" "_law_cell" s__law_cell A.f_law_cell A.d_law_cell
  b_law_cell : Binds K A.d_law_cell ["script", "k"] []
  g_law_cell : mg "_law_cell" = some (.ref A.f_law_cell)
  k_law_cell : PySem.W.keepIn K (.ref A.f_law_cell) = true
  F_law_row : Fun K "_law_row" "_law_row" s__law_row A.f_law_row A.d_law_row
  b_law_row : Binds K A.d_law_row ["script", "k"] []
  g_law_row : mg "_law_row" = some (.ref A.f_law_row)
  k_law_row : PySem.W.keepIn K (.ref A.f_law_row) = true
  F_law_output : Fun K "_law_output" "_law_output" s__law_output A.f_law_output A.d_law_output
  b_law_output : Binds K A.d_law_output ["row", "number", "x"] []
  g_law_output : mg "_law_output" = some (.ref A.f_law_output)
  k_law_output : PySem.W.keepIn K (.ref A.f_law_output) = true
  F_law_outputs : Fun K "_law_outputs" "_law_outputs" s__law_outputs A.f_law_outputs A.d_law_outputs
  b_law_outputs : Binds K A.d_law_outputs ["row", "count"] []
  g_law_outputs : mg "_law_outputs" = some (.ref A.f_law_outputs)
  k_law_outputs : PySem.W.keepIn K (.ref A.f_law_outputs) = true
  F_law_size : Fun K "_law_size" "_law_size" s__law_size A.f_law_size A.d_law_size
  b_law_size : Binds K A.d_law_size ["output"] []
  g_law_size : mg "_law_size" = some (.ref A.f_law_size)
  k_law_size : PySem.W.keepIn K (.ref A.f_law_size) = true
  F_law_other : Fun K "_law_other" "_law_other" s__law_other A.f_law_other A.d_law_other
  b_law_other : Binds K A.d_law_other ["outputs", "row"] []
  g_law_other : mg "_law_other" = some (.ref A.f_law_other)
  k_law_other : PySem.W.keepIn K (.ref A.f_law_other) = true
  F_law_numbers : Fun K "_law_numbers" "_law_numbers" s__law_numbers A.f_law_numbers A.d_law_numbers
  b_law_numbers : Binds K A.d_law_numbers ["outputs"] []
  g_law_numbers : mg "_law_numbers" = some (.ref A.f_law_numbers)
  k_law_numbers : PySem.W.keepIn K (.ref A.f_law_numbers) = true
  F_law_by : Fun K "_law_by" "_law_by" s__law_by A.f_law_by A.d_law_by
  b_law_by : Binds K A.d_law_by ["outputs", "number"] []
  g_law_by : mg "_law_by" = some (.ref A.f_law_by)
  k_law_by : PySem.W.keepIn K (.ref A.f_law_by) = true
  F_law_due : Fun K "_law_due" "_law_due" s__law_due A.f_law_due A.d_law_due
  b_law_due : Binds K A.d_law_due ["before", "after", "registries", "shown"] []
  g_law_due : mg "_law_due" = some (.ref A.f_law_due)
  k_law_due : PySem.W.keepIn K (.ref A.f_law_due) = true
  F_law_begin : Fun K "_law_begin" "_law_begin" s__law_begin A.f_law_begin A.d_law_begin
  b_law_begin : Binds K A.d_law_begin ["script", "outputs", "program", "registries", "shown"] []
  g_law_begin : mg "_law_begin" = some (.ref A.f_law_begin)
  k_law_begin : PySem.W.keepIn K (.ref A.f_law_begin) = true
  Flaw : Fun K "law" "law" s_law A.flaw A.dlaw
  blaw : Binds K A.dlaw ["script"] []
  glaw : mg "law" = some (.ref A.flaw)
  klaw : PySem.W.keepIn K (.ref A.flaw) = true
  FFault___init__ : FunSup K "__init__" "Fault.__init__" s_Fault___init__ A.fFault___init__ A.dFault___init__ A.CFault
  bFault___init__ : Binds K A.dFault___init__ ["self", "number", "code", "words"] []
  MFault : PySem.W.findIn K (.ref A.CFault) "__init__" = some (some (.ref A.fFault___init__))
  TFault : PySem.W.typeIn K (.ref A.fFault___init__) = some (.type "function")
  FOutput___init__ : Fun K "__init__" "Output.__init__" s_Output___init__ A.fOutput___init__ A.dOutput___init__
  bOutput___init__ : Binds K A.dOutput___init__ ["self", "number", "x", "y", "width", "height", "scale", "turn"] []
  MOutput : Mk K A.COutput A.fOutput___init__
  FRegistries___init__ : Fun K "__init__" "Registries.__init__" s_Registries___init__ A.fRegistries___init__ A.dRegistries___init__
  bRegistries___init__ : Binds K A.dRegistries___init__ ["self"] []
  MRegistries : Mk K A.CRegistries A.fRegistries___init__
  FRegistries_serve : Fun K "serve" "Registries.serve" s_Registries_serve A.fRegistries_serve A.dRegistries_serve
  bRegistries_serve : Binds K A.dRegistries_serve ["self", "request", "outputs", "time", "reply"] []
  mRegistries_serve : Meth K A.CRegistries "serve" A.fRegistries_serve
  FRegistries_changed : Fun K "changed" "Registries.changed" s_Registries_changed A.fRegistries_changed A.dRegistries_changed
  bRegistries_changed : Binds K A.dRegistries_changed ["self", "before", "after", "reply"] []
  mRegistries_changed : Meth K A.CRegistries "changed" A.fRegistries_changed
  FRegistries_forget : Fun K "forget" "Registries.forget" s_Registries_forget A.fRegistries_forget A.dRegistries_forget
  bRegistries_forget : Binds K A.dRegistries_forget ["self", "number"] []
  mRegistries_forget : Meth K A.CRegistries "forget" A.fRegistries_forget
  FRegistries__open_registry : Fun K "_open_registry" "Registries._open_registry" s_Registries__open_registry A.fRegistries__open_registry A.dRegistries__open_registry
  bRegistries__open_registry : Binds K A.dRegistries__open_registry ["self", "number", "outputs", "reply"] []
  mRegistries__open_registry : Meth K A.CRegistries "_open_registry" A.fRegistries__open_registry
  FRegistries__bind : Fun K "_bind" "Registries._bind" s_Registries__bind A.fRegistries__bind A.dRegistries__bind
  bRegistries__bind : Binds K A.dRegistries__bind ["self", "request", "outputs", "reply"] []
  mRegistries__bind : Meth K A.CRegistries "_bind" A.fRegistries__bind
  FReply___init__ : Fun K "__init__" "Reply.__init__" s_Reply___init__ A.fReply___init__ A.dReply___init__
  bReply___init__ : Binds K A.dReply___init__ ["self"] []
  MReply : Mk K A.CReply A.fReply___init__
  FReply_tell : Fun K "tell" "Reply.tell" s_Reply_tell A.fReply_tell A.dReply_tell
  bReply_tell : Binds K A.dReply_tell ["self", "number", "interface", "name", "values"] []
  mReply_tell : Meth K A.CReply "tell" A.fReply_tell
  FReply_end : Fun K "end" "Reply.end" s_Reply_end A.fReply_end A.dReply_end
  bReply_end : Binds K A.dReply_end ["self", "number"] []
  mReply_end : Meth K A.CReply "end" A.fReply_end
  FRequest___init__ : Fun K "__init__" "Request.__init__" s_Request___init__ A.fRequest___init__ A.dRequest___init__
  bRequest___init__ : Binds K A.dRequest___init__ ["self", "number", "interface", "name", "arguments", "ends"] []
  MRequest : Mk K A.CRequest A.fRequest___init__
  all : mg "all" = none
  bool : mg "bool" = none
  int : mg "int" = none
  isinstance : mg "isinstance" = none
  len : mg "len" = none
  list : mg "list" = none
  min : mg "min" = none
  ord : mg "ord" = none
  range : mg "range" = none
  str : mg "str" = none
  super : mg "super" = none
  tuple : mg "tuple" = none
  zip : mg "zip" = none
  g_GLOBALS : mg "_GLOBALS" = some (.ref A.a_GLOBALS)
  w_GLOBALS : ∀ H : Hp, SqT K H A.a_GLOBALS [.ref A.a_GLOBALS_0, .ref A.a_GLOBALS_1, .ref A.a_GLOBALS_2, .ref A.a_GLOBALS_3, .ref A.a_GLOBALS_4, .ref A.a_GLOBALS_5]
  w_GLOBALS_0 : ∀ H : Hp, SqT K H A.a_GLOBALS_0 [.int (1), .str "memory"]
  w_GLOBALS_1 : ∀ H : Hp, SqT K H A.a_GLOBALS_1 [.int (2), .str "compositor"]
  w_GLOBALS_2 : ∀ H : Hp, SqT K H A.a_GLOBALS_2 [.int (3), .str "joiner"]
  w_GLOBALS_3 : ∀ H : Hp, SqT K H A.a_GLOBALS_3 [.int (4), .str "windows"]
  w_GLOBALS_4 : ∀ H : Hp, SqT K H A.a_GLOBALS_4 [.int (5), .str "seat"]
  w_GLOBALS_5 : ∀ H : Hp, SqT K H A.a_GLOBALS_5 [.int (6), .str "transfer"]
  g_FIRST_OUTPUT : mg "_FIRST_OUTPUT" = some (.int (16) A.t_FIRST_OUTPUT)
  gGREATEST_NUMBER : mg "GREATEST_NUMBER" = some (.int (4294967295) A.tGREATEST_NUMBER)
  gLEAST_INT : mg "LEAST_INT" = some (.int (-2147483648) A.tLEAST_INT)
  gGREATEST_INT : mg "GREATEST_INT" = some (.int (2147483647) A.tGREATEST_INT)
  gLONGEST_TEXT : mg "LONGEST_TEXT" = some (.int (1000) A.tLONGEST_TEXT)
  gMOST_OCTETS : mg "MOST_OCTETS" = some (.int (16384) A.tMOST_OCTETS)
  g_FIRST_CODE : mg "_FIRST_CODE" = some (.int (32) A.t_FIRST_CODE)
  g_LAST_CODE : mg "_LAST_CODE" = some (.int (126) A.t_LAST_CODE)
  g_PERCENT_CODE : mg "_PERCENT_CODE" = some (.int (37) A.t_PERCENT_CODE)
  gHEADER_SIZE : mg "HEADER_SIZE" = some (.int (8) A.tHEADER_SIZE)
  gGREATEST_SIZE : mg "GREATEST_SIZE" = some (.int (20480) A.tGREATEST_SIZE)
  gGREATEST_OPCODE : mg "GREATEST_OPCODE" = some (.int (65535) A.tGREATEST_OPCODE)
  gMOST_ARGUMENTS : mg "MOST_ARGUMENTS" = some (.int (20) A.tMOST_ARGUMENTS)
  g_EVENTS : mg "_EVENTS" = some (.ref A.a_EVENTS)
  w_EVENTS_k0 : ∀ H : Hp, SqT K H A.a_EVENTS_k0 [.ref A.a_EVENTS_k0_0, .ref A.a_EVENTS_k0_1]
  w_EVENTS_k0_0 : ∀ H : Hp, SqT K H A.a_EVENTS_k0_0 [.str "error", .ref A.a_EVENTS_k0_0_1]
  w_EVENTS_k0_0_1 : ∀ H : Hp, SqT K H A.a_EVENTS_k0_0_1 [.str "uint", .str "uint", .str "text"]
  w_EVENTS_k0_1 : ∀ H : Hp, SqT K H A.a_EVENTS_k0_1 [.str "removed", .ref A.a_EVENTS_k0_1_1]
  w_EVENTS_k0_1_1 : ∀ H : Hp, SqT K H A.a_EVENTS_k0_1_1 [.str "uint"]
  w_EVENTS_k1 : ∀ H : Hp, SqT K H A.a_EVENTS_k1 [.ref A.a_EVENTS_k1_0]
  w_EVENTS_k1_0 : ∀ H : Hp, SqT K H A.a_EVENTS_k1_0 [.str "done", .ref A.a_EVENTS_k1_0_1]
  w_EVENTS_k1_0_1 : ∀ H : Hp, SqT K H A.a_EVENTS_k1_0_1 [.str "uint"]
  w_EVENTS_k2 : ∀ H : Hp, SqT K H A.a_EVENTS_k2 [.ref A.a_EVENTS_k2_0, .ref A.a_EVENTS_k2_1]
  w_EVENTS_k2_0 : ∀ H : Hp, SqT K H A.a_EVENTS_k2_0 [.str "there", .ref A.a_EVENTS_k2_0_1]
  w_EVENTS_k2_0_1 : ∀ H : Hp, SqT K H A.a_EVENTS_k2_0_1 [.str "uint", .str "text"]
  w_EVENTS_k2_1 : ∀ H : Hp, SqT K H A.a_EVENTS_k2_1 [.str "gone", .ref A.a_EVENTS_k2_1_1]
  w_EVENTS_k2_1_1 : ∀ H : Hp, SqT K H A.a_EVENTS_k2_1_1 [.str "uint"]
  w_EVENTS_k3 : ∀ H : Hp, SqT K H A.a_EVENTS_k3 [.ref A.a_EVENTS_k3_0]
  w_EVENTS_k3_0 : ∀ H : Hp, SqT K H A.a_EVENTS_k3_0 [.str "release", .ref A.a_EVENTS_k3_0_1]
  w_EVENTS_k3_0_1 : ∀ H : Hp, SqT K H A.a_EVENTS_k3_0_1 []
  w_EVENTS_k4 : ∀ H : Hp, SqT K H A.a_EVENTS_k4 [.ref A.a_EVENTS_k4_0]
  w_EVENTS_k4_0 : ∀ H : Hp, SqT K H A.a_EVENTS_k4_0 [.str "size", .ref A.a_EVENTS_k4_0_1]
  w_EVENTS_k4_0_1 : ∀ H : Hp, SqT K H A.a_EVENTS_k4_0_1 [.str "uint", .str "uint", .str "uint", .str "uint"]
  w_EVENTS_k5 : ∀ H : Hp, SqT K H A.a_EVENTS_k5 [.ref A.a_EVENTS_k5_0, .ref A.a_EVENTS_k5_1, .ref A.a_EVENTS_k5_2, .ref A.a_EVENTS_k5_3]
  w_EVENTS_k5_0 : ∀ H : Hp, SqT K H A.a_EVENTS_k5_0 [.str "configure", .ref A.a_EVENTS_k5_0_1]
  w_EVENTS_k5_0_1 : ∀ H : Hp, SqT K H A.a_EVENTS_k5_0_1 [.str "uint", .str "uint", .str "uint", .str "uint"]
  w_EVENTS_k5_1 : ∀ H : Hp, SqT K H A.a_EVENTS_k5_1 [.str "close", .ref A.a_EVENTS_k5_1_1]
  w_EVENTS_k5_1_1 : ∀ H : Hp, SqT K H A.a_EVENTS_k5_1_1 []
  w_EVENTS_k5_2 : ∀ H : Hp, SqT K H A.a_EVENTS_k5_2 [.str "output", .ref A.a_EVENTS_k5_2_1]
  w_EVENTS_k5_2_1 : ∀ H : Hp, SqT K H A.a_EVENTS_k5_2_1 [.str "uint"]
  w_EVENTS_k5_3 : ∀ H : Hp, SqT K H A.a_EVENTS_k5_3 [.str "left", .ref A.a_EVENTS_k5_3_1]
  w_EVENTS_k5_3_1 : ∀ H : Hp, SqT K H A.a_EVENTS_k5_3_1 [.str "uint"]
  w_EVENTS_k6 : ∀ H : Hp, SqT K H A.a_EVENTS_k6 [.ref A.a_EVENTS_k6_0, .ref A.a_EVENTS_k6_1]
  w_EVENTS_k6_0 : ∀ H : Hp, SqT K H A.a_EVENTS_k6_0 [.str "placed", .ref A.a_EVENTS_k6_0_1]
  w_EVENTS_k6_0_1 : ∀ H : Hp, SqT K H A.a_EVENTS_k6_0_1 [.str "int", .str "int", .str "uint", .str "uint"]
  w_EVENTS_k6_1 : ∀ H : Hp, SqT K H A.a_EVENTS_k6_1 [.str "done", .ref A.a_EVENTS_k6_1_1]
  w_EVENTS_k6_1_1 : ∀ H : Hp, SqT K H A.a_EVENTS_k6_1_1 []
  w_EVENTS_k7 : ∀ H : Hp, SqT K H A.a_EVENTS_k7 [.ref A.a_EVENTS_k7_0, .ref A.a_EVENTS_k7_1, .ref A.a_EVENTS_k7_2, .ref A.a_EVENTS_k7_3, .ref A.a_EVENTS_k7_4]
  w_EVENTS_k7_0 : ∀ H : Hp, SqT K H A.a_EVENTS_k7_0 [.str "enter", .ref A.a_EVENTS_k7_0_1]
  w_EVENTS_k7_0_1 : ∀ H : Hp, SqT K H A.a_EVENTS_k7_0_1 [.str "object", .str "int", .str "int"]
  w_EVENTS_k7_1 : ∀ H : Hp, SqT K H A.a_EVENTS_k7_1 [.str "leave", .ref A.a_EVENTS_k7_1_1]
  w_EVENTS_k7_1_1 : ∀ H : Hp, SqT K H A.a_EVENTS_k7_1_1 [.str "object"]
  w_EVENTS_k7_2 : ∀ H : Hp, SqT K H A.a_EVENTS_k7_2 [.str "motion", .ref A.a_EVENTS_k7_2_1]
  w_EVENTS_k7_2_1 : ∀ H : Hp, SqT K H A.a_EVENTS_k7_2_1 [.str "int", .str "int", .str "uint"]
  w_EVENTS_k7_3 : ∀ H : Hp, SqT K H A.a_EVENTS_k7_3 [.str "button", .ref A.a_EVENTS_k7_3_1]
  w_EVENTS_k7_3_1 : ∀ H : Hp, SqT K H A.a_EVENTS_k7_3_1 [.str "uint", .str "uint", .str "uint", .str "uint"]
  w_EVENTS_k7_4 : ∀ H : Hp, SqT K H A.a_EVENTS_k7_4 [.str "axis", .ref A.a_EVENTS_k7_4_1]
  w_EVENTS_k7_4_1 : ∀ H : Hp, SqT K H A.a_EVENTS_k7_4_1 [.str "int", .str "int", .str "uint"]
  w_EVENTS_k8 : ∀ H : Hp, SqT K H A.a_EVENTS_k8 [.ref A.a_EVENTS_k8_0, .ref A.a_EVENTS_k8_1, .ref A.a_EVENTS_k8_2, .ref A.a_EVENTS_k8_3, .ref A.a_EVENTS_k8_4]
  w_EVENTS_k8_0 : ∀ H : Hp, SqT K H A.a_EVENTS_k8_0 [.str "keymap", .ref A.a_EVENTS_k8_0_1]
  w_EVENTS_k8_0_1 : ∀ H : Hp, SqT K H A.a_EVENTS_k8_0_1 [.str "text"]
  w_EVENTS_k8_1 : ∀ H : Hp, SqT K H A.a_EVENTS_k8_1 [.str "enter", .ref A.a_EVENTS_k8_1_1]
  w_EVENTS_k8_1_1 : ∀ H : Hp, SqT K H A.a_EVENTS_k8_1_1 [.str "object"]
  w_EVENTS_k8_2 : ∀ H : Hp, SqT K H A.a_EVENTS_k8_2 [.str "leave", .ref A.a_EVENTS_k8_2_1]
  w_EVENTS_k8_2_1 : ∀ H : Hp, SqT K H A.a_EVENTS_k8_2_1 [.str "object"]
  w_EVENTS_k8_3 : ∀ H : Hp, SqT K H A.a_EVENTS_k8_3 [.str "key", .ref A.a_EVENTS_k8_3_1]
  w_EVENTS_k8_3_1 : ∀ H : Hp, SqT K H A.a_EVENTS_k8_3_1 [.str "uint", .str "uint", .str "uint", .str "uint"]
  w_EVENTS_k8_4 : ∀ H : Hp, SqT K H A.a_EVENTS_k8_4 [.str "symbol", .ref A.a_EVENTS_k8_4_1]
  w_EVENTS_k8_4_1 : ∀ H : Hp, SqT K H A.a_EVENTS_k8_4_1 [.str "text", .str "text", .str "uint"]
  w_EVENTS_k9 : ∀ H : Hp, SqT K H A.a_EVENTS_k9 [.ref A.a_EVENTS_k9_0, .ref A.a_EVENTS_k9_1, .ref A.a_EVENTS_k9_2, .ref A.a_EVENTS_k9_3, .ref A.a_EVENTS_k9_4, .ref A.a_EVENTS_k9_5]
  w_EVENTS_k9_0 : ∀ H : Hp, SqT K H A.a_EVENTS_k9_0 [.str "offer", .ref A.a_EVENTS_k9_0_1]
  w_EVENTS_k9_0_1 : ∀ H : Hp, SqT K H A.a_EVENTS_k9_0_1 [.str "new", .str "uint"]
  w_EVENTS_k9_1 : ∀ H : Hp, SqT K H A.a_EVENTS_k9_1 [.str "hover", .ref A.a_EVENTS_k9_1_1]
  w_EVENTS_k9_1_1 : ∀ H : Hp, SqT K H A.a_EVENTS_k9_1_1 [.str "object", .str "int", .str "int"]
  w_EVENTS_k9_2 : ∀ H : Hp, SqT K H A.a_EVENTS_k9_2 [.str "hover_kind", .ref A.a_EVENTS_k9_2_1]
  w_EVENTS_k9_2_1 : ∀ H : Hp, SqT K H A.a_EVENTS_k9_2_1 [.str "text"]
  w_EVENTS_k9_3 : ∀ H : Hp, SqT K H A.a_EVENTS_k9_3 [.str "moved", .ref A.a_EVENTS_k9_3_1]
  w_EVENTS_k9_3_1 : ∀ H : Hp, SqT K H A.a_EVENTS_k9_3_1 [.str "uint", .str "int", .str "int"]
  w_EVENTS_k9_4 : ∀ H : Hp, SqT K H A.a_EVENTS_k9_4 [.str "away", .ref A.a_EVENTS_k9_4_1]
  w_EVENTS_k9_4_1 : ∀ H : Hp, SqT K H A.a_EVENTS_k9_4_1 []
  w_EVENTS_k9_5 : ∀ H : Hp, SqT K H A.a_EVENTS_k9_5 [.str "ended", .ref A.a_EVENTS_k9_5_1]
  w_EVENTS_k9_5_1 : ∀ H : Hp, SqT K H A.a_EVENTS_k9_5_1 []
  w_EVENTS_k10 : ∀ H : Hp, SqT K H A.a_EVENTS_k10 [.ref A.a_EVENTS_k10_0, .ref A.a_EVENTS_k10_1]
  w_EVENTS_k10_0 : ∀ H : Hp, SqT K H A.a_EVENTS_k10_0 [.str "kind", .ref A.a_EVENTS_k10_0_1]
  w_EVENTS_k10_0_1 : ∀ H : Hp, SqT K H A.a_EVENTS_k10_0_1 [.str "text", .str "uint"]
  w_EVENTS_k10_1 : ∀ H : Hp, SqT K H A.a_EVENTS_k10_1 [.str "part", .ref A.a_EVENTS_k10_1_1]
  w_EVENTS_k10_1_1 : ∀ H : Hp, SqT K H A.a_EVENTS_k10_1_1 [.str "text", .str "uint", .str "octets"]
  w_EVENTS_k11 : ∀ H : Hp, SqT K H A.a_EVENTS_k11 [.ref A.a_EVENTS_k11_0, .ref A.a_EVENTS_k11_1, .ref A.a_EVENTS_k11_2]
  w_EVENTS_k11_0 : ∀ H : Hp, SqT K H A.a_EVENTS_k11_0 [.str "allowed", .ref A.a_EVENTS_k11_0_1]
  w_EVENTS_k11_0_1 : ∀ H : Hp, SqT K H A.a_EVENTS_k11_0_1 [.str "uint", .str "uint"]
  w_EVENTS_k11_1 : ∀ H : Hp, SqT K H A.a_EVENTS_k11_1 [.str "refused", .ref A.a_EVENTS_k11_1_1]
  w_EVENTS_k11_1_1 : ∀ H : Hp, SqT K H A.a_EVENTS_k11_1_1 []
  w_EVENTS_k11_2 : ∀ H : Hp, SqT K H A.a_EVENTS_k11_2 [.str "rows", .ref A.a_EVENTS_k11_2_1]
  w_EVENTS_k11_2_1 : ∀ H : Hp, SqT K H A.a_EVENTS_k11_2_1 [.str "uint", .str "octets"]
  w_EVENTS_k12 : ∀ H : Hp, SqT K H A.a_EVENTS_k12 [.ref A.a_EVENTS_k12_0, .ref A.a_EVENTS_k12_1, .ref A.a_EVENTS_k12_2]
  w_EVENTS_k12_0 : ∀ H : Hp, SqT K H A.a_EVENTS_k12_0 [.str "changed", .ref A.a_EVENTS_k12_0_1]
  w_EVENTS_k12_0_1 : ∀ H : Hp, SqT K H A.a_EVENTS_k12_0_1 [.str "uint"]
  w_EVENTS_k12_1 : ∀ H : Hp, SqT K H A.a_EVENTS_k12_1 [.str "gone", .ref A.a_EVENTS_k12_1_1]
  w_EVENTS_k12_1_1 : ∀ H : Hp, SqT K H A.a_EVENTS_k12_1_1 []
  w_EVENTS_k12_2 : ∀ H : Hp, SqT K H A.a_EVENTS_k12_2 [.str "part", .ref A.a_EVENTS_k12_2_1]
  w_EVENTS_k12_2_1 : ∀ H : Hp, SqT K H A.a_EVENTS_k12_2_1 [.str "uint", .str "octets"]
  w_EVENTS_k13 : ∀ H : Hp, SqT K H A.a_EVENTS_k13 [.ref A.a_EVENTS_k13_0, .ref A.a_EVENTS_k13_1]
  w_EVENTS_k13_0 : ∀ H : Hp, SqT K H A.a_EVENTS_k13_0 [.str "there", .ref A.a_EVENTS_k13_0_1]
  w_EVENTS_k13_0_1 : ∀ H : Hp, SqT K H A.a_EVENTS_k13_0_1 []
  w_EVENTS_k13_1 : ∀ H : Hp, SqT K H A.a_EVENTS_k13_1 [.str "gone", .ref A.a_EVENTS_k13_1_1]
  w_EVENTS_k13_1_1 : ∀ H : Hp, SqT K H A.a_EVENTS_k13_1_1 []
  clOutput : Cls K A.COutput
  gOutput : mg "Output" = some (.ref A.COutput)
  nOutput_number : NoAttr K A.COutput "number"
  nOutput_x : NoAttr K A.COutput "x"
  nOutput_y : NoAttr K A.COutput "y"
  nOutput_width : NoAttr K A.COutput "width"
  nOutput_height : NoAttr K A.COutput "height"
  nOutput_scale : NoAttr K A.COutput "scale"
  nOutput_turn : NoAttr K A.COutput "turn"
  clRegistries : Cls K A.CRegistries
  gRegistries : mg "Registries" = some (.ref A.CRegistries)
  nRegistries__registries : NoAttr K A.CRegistries "_registries"
  nRegistries__owners : NoAttr K A.CRegistries "_owners"
  clReply : Cls K A.CReply
  gReply : mg "Reply" = some (.ref A.CReply)
  nReply_told : NoAttr K A.CReply "told"
  nReply_ended : NoAttr K A.CReply "ended"
  nReply_wishes : NoAttr K A.CReply "wishes"
  nReply_applied : NoAttr K A.CReply "applied"
  clRequest : Cls K A.CRequest
  gRequest : mg "Request" = some (.ref A.CRequest)
  nRequest_number : NoAttr K A.CRequest "number"
  nRequest_interface : NoAttr K A.CRequest "interface"
  nRequest_name : NoAttr K A.CRequest "name"
  nRequest_arguments : NoAttr K A.CRequest "arguments"
  nRequest_ends : NoAttr K A.CRequest "ends"
  gBadMessage : mg "BadMessage" = some (.ref A.CBadMessage)
  xBadMessage : PySem.W.excIn K A.CBadMessage [.type "ValueError", .type "Exception", .type "BaseException", .type "object"] "ValueError.__new__" = true
  kBadMessage : PySem.W.keepIn K (.ref A.CBadMessage) = true
  bxBadMessage : PySem.W.subIn K (.ref A.CBadMessage) (.type "BaseException") = some true
  txBadMessage : PySem.W.typeIn K (.ref A.CBadMessage) = some (.type "type")
  exBadMessage : PySem.W.exmOne K (.ref A.CBadMessage) (.ref A.CBadMessage) = some true
  gMessageTooLong : mg "MessageTooLong" = some (.ref A.CMessageTooLong)
  xMessageTooLong : PySem.W.excIn K A.CMessageTooLong [.type "ValueError", .type "Exception", .type "BaseException", .type "object"] "ValueError.__new__" = true
  kMessageTooLong : PySem.W.keepIn K (.ref A.CMessageTooLong) = true
  bxMessageTooLong : PySem.W.subIn K (.ref A.CMessageTooLong) (.type "BaseException") = some true
  txMessageTooLong : PySem.W.typeIn K (.ref A.CMessageTooLong) = some (.type "type")
  exMessageTooLong : PySem.W.exmOne K (.ref A.CMessageTooLong) (.ref A.CMessageTooLong) = some true
  gFault : mg "Fault" = some (.ref A.CFault)
  oFault : OexC K A.CFault
  vFault : SupC K A.CFault A.CFault
  xfFault : XfC K A.CFault
  iXFault : ExcC K A.CFault
  kFault : PySem.W.keepIn K (.ref A.CFault) = true
  nFault_number : PySem.W.findIn K (.ref A.CFault) "number" = some none
  nFault_code : PySem.W.findIn K (.ref A.CFault) "code" = some none
  nFault_words : PySem.W.findIn K (.ref A.CFault) "words" = some none
  bxFault : PySem.W.subIn K (.ref A.CFault) (.type "BaseException") = some true
  txFault : PySem.W.typeIn K (.ref A.CFault) = some (.type "type")
  exFault : PySem.W.exmOne K (.ref A.CFault) (.ref A.CFault) = some true
structure Dic (w : World) (K : PySem.W.Frag) (A : Adr) : Prop where
  d_EVENTS_k0 : KDct K w A.a_EVENTS "display" (.ref A.a_EVENTS_k0)
  d_EVENTS_k1 : KDct K w A.a_EVENTS "callback" (.ref A.a_EVENTS_k1)
  d_EVENTS_k2 : KDct K w A.a_EVENTS "registry" (.ref A.a_EVENTS_k2)
  d_EVENTS_k3 : KDct K w A.a_EVENTS "buffer" (.ref A.a_EVENTS_k3)
  d_EVENTS_k4 : KDct K w A.a_EVENTS "output" (.ref A.a_EVENTS_k4)
  d_EVENTS_k5 : KDct K w A.a_EVENTS "window" (.ref A.a_EVENTS_k5)
  d_EVENTS_k6 : KDct K w A.a_EVENTS "popup" (.ref A.a_EVENTS_k6)
  d_EVENTS_k7 : KDct K w A.a_EVENTS "pointer" (.ref A.a_EVENTS_k7)
  d_EVENTS_k8 : KDct K w A.a_EVENTS "keyboard" (.ref A.a_EVENTS_k8)
  d_EVENTS_k9 : KDct K w A.a_EVENTS "transfer" (.ref A.a_EVENTS_k9)
  d_EVENTS_k10 : KDct K w A.a_EVENTS "offer" (.ref A.a_EVENTS_k10)
  d_EVENTS_k11 : KDct K w A.a_EVENTS "capture" (.ref A.a_EVENTS_k11)
  d_EVENTS_k12 : KDct K w A.a_EVENTS "fetch" (.ref A.a_EVENTS_k12)
  d_EVENTS_k13 : KDct K w A.a_EVENTS "watch" (.ref A.a_EVENTS_k13)
section
variable {P : Program} {w : World} {K : PySem.W.Frag} {mg : Str → Option Value} {base : Heap} {A : Adr}
/-! ### common: tests, errors, small words -/
theorem exm_self {K : PySem.W.Frag} {S : Addr} (h1 : PySem.W.subIn K (.ref S) (.type "BaseException") = some true) (h2 : PySem.W.isClsIn K S = true) (h3 : PySem.W.typeIn K (.ref S) = some (.type "type")) (h4 : PySem.W.subIn K (.ref S) (.ref S) = some true) :
    PySem.W.exmOne K (.ref S) (.ref S) = some true := by
  have g1 : (PySem.W.subIn K (.ref S) (.type "BaseException") == some true) = true := by rw [h1]; rfl
  have g0 : (PySem.W.clsIn K S).isSome = true := h2
  have g2 : ((PySem.W.clsIn K S).isSome && PySem.W.typeIn K (.ref S) == some (.type "type")) = true := by rw [g0, h3]; rfl
  show (if (PySem.W.subIn K (.ref S) (.type "BaseException") == some true) = true then (if ((PySem.W.clsIn K S).isSome && PySem.W.typeIn K (.ref S) == some (.type "type")) = true then PySem.W.subIn K (.ref S) (.ref S) else none) else none) = some true
  rw [if_pos g1, if_pos g2]
  exact h4
theorem exm_cross {K : PySem.W.Frag} {S R : Addr} {b : Bool} (h1 : PySem.W.subIn K (.ref S) (.type "BaseException") = some true) (h2 : PySem.W.isClsIn K S = true) (h3 : PySem.W.typeIn K (.ref S) = some (.type "type")) (h4 : PySem.W.subIn K (.ref R) (.ref S) = some b) :
    PySem.W.exmOne K (.ref R) (.ref S) = some b := by
  have g1 : (PySem.W.subIn K (.ref S) (.type "BaseException") == some true) = true := by rw [h1]; rfl
  have g0 : (PySem.W.clsIn K S).isSome = true := h2
  have g2 : ((PySem.W.clsIn K S).isSome && PySem.W.typeIn K (.ref S) == some (.type "type")) = true := by rw [g0, h3]; rfl
  show (if (PySem.W.subIn K (.ref S) (.type "BaseException") == some true) = true then (if ((PySem.W.clsIn K S).isSome && PySem.W.typeIn K (.ref S) == some (.type "type")) = true then PySem.W.subIn K (.ref R) (.ref S) else none) else none) = some b
  rw [if_pos g1, if_pos g2]
  exact h4
/-- the law's own promise -/
def sp_law (K : PySem.W.Frag) : Sp := fun vs H Q _ => ∃ (a : Addr) (ns : List Int), vs = [.ref a] ∧ SqL K H a (ns.map V.int) ∧ ns.length ≤ 63 ∧ ∀ H', Q (.bl true) H'
theorem iteP {p A B : Prop} [Decidable p] (h1 : p → A) (h2 : ¬ p → B) : if decide p = true then A else B := by
  by_cases h : p
  · rw [decide_eq_true h]; exact iteT (h1 h)
  · rw [decide_eq_false h]; exact iteF (h2 h)
theorem iteN {p A B : Prop} [Decidable p] (h1 : ¬ p → A) (h2 : p → B) : if (!decide p) = true then A else B := by
  by_cases h : p
  · rw [decide_eq_true h]; exact iteF (h2 h)
  · rw [decide_eq_false h]; exact iteT (h1 h)
theorem iteEq {i j : Int} {A B : Prop} (h1 : i = j → A) (h2 : i ≠ j → B) : if decide (V.int i = V.int j) = true then A else B :=
  iteP (fun h => h1 (V.int.inj h)) (fun h => h2 fun e => h (congrArg V.int e))
theorem iteNe {i j : Int} {A B : Prop} (h1 : i ≠ j → A) (h2 : i = j → B) : if (!decide (V.int i = V.int j)) = true then A else B :=
  iteN (fun h => h1 fun e => h (congrArg V.int e)) (fun h => h2 (V.int.inj h))
theorem if_t {b : Bool} {A B : Prop} (e : b = true) (h : A) : if b = true then A else B := by rw [if_pos e]; exact h
theorem if_f {b : Bool} {A B : Prop} (e : b = false) (h : B) : if b = true then A else B := by rw [e]; exact iteF h
theorem if_b {b : Bool} {A B : Prop} (h1 : b = true → A) (h2 : b = false → B) : if b = true then A else B := by
  cases b with
  | true => exact iteT (h1 rfl)
  | false => exact iteF (h2 rfl)
theorem same_upd {H : Hp} {p : Addr} {o : HO} (h : H p = none) : Same H (upd H p o) := fun b x e => by
  rw [upd_ne (ne_of_none e h)]
  exact e
theorem len_line {n : Nat} (h : n ≤ 100000) : n ≤ sizeLine := Nat.le_trans h (by decide)
theorem lt_line {n : Nat} (h : n < 100000) : n < sizeLine := Nat.lt_of_lt_of_le h (by decide)
local macro_rules | `(tactic| walk_at "rd") => `(tactic| repeat (first
  | refine ⟨_, rfl, ?_⟩
  | refine ⟨_, _, rfl, rfl, ?_⟩
  | refine ⟨rfl, ?_⟩
  | refine Or.inl ⟨_, rfl, ?_⟩
  | refine ⟨(by show (0 : Int) < _; decide), ?_⟩
  | refine ⟨(⟨by decide, by decide⟩ : CDiv _ _), ?_⟩
  | refine ⟨(Or.inl ⟨by decide, by decide⟩ : CMul _ _), ?_⟩
  | refine ⟨(Or.inr ⟨by decide, by decide⟩ : CMul _ _), ?_⟩))
/-! ### data that are compared -/
def Sh (n : Nat) (d : PyData) : Prop := d.canLay0 = true ∧ d.depth ≤ n
theorem Sh.mono {n m : Nat} {d : PyData} (h : Sh n d) (l : n ≤ m) : Sh m d := ⟨h.1, Nat.le_trans h.2 l⟩
theorem sh_all : ∀ {n : Nat} {ds : List PyData}, (∀ d ∈ ds, Sh n d) → PyData.canLayAll0 ds = true ∧ PyData.depthAll ds ≤ n
  | n, [], _ => ⟨by simp [PyData.canLayAll0], by simp [PyData.depthAll]⟩
  | n, d :: ds, h => by
    have h1 := h d List.mem_cons_self
    have h2 := sh_all fun e he => h e (List.mem_cons_of_mem _ he)
    refine ⟨?_, ?_⟩
    · simp only [PyData.canLayAll0, Bool.and_eq_true]; exact ⟨h1.1, h2.1⟩
    · simp only [PyData.depthAll]; exact Nat.max_le.mpr ⟨h1.2, h2.2⟩
theorem sh_list {n : Nat} {ds : List PyData} (h : ∀ d ∈ ds, Sh n d) : Sh (n + 1) (.list ds) := by
  have q := sh_all h
  exact ⟨by simp only [PyData.canLay0]; exact q.1, by simp only [PyData.depth]; exact Nat.succ_le_succ q.2⟩
theorem sh_tuple {n : Nat} {ds : List PyData} (h : ∀ d ∈ ds, Sh n d) : Sh (n + 1) (.tuple ds) := by
  have q := sh_all h
  exact ⟨by simp only [PyData.canLay0]; exact q.1, by simp only [PyData.depth]; exact Nat.succ_le_succ q.2⟩
theorem sh_int (i : Int) : Sh 0 (.int i) := ⟨by simp [PyData.canLay0], by simp [PyData.depth]⟩
theorem sh_bool (i : Bool) : Sh 0 (.bool i) := ⟨by simp [PyData.canLay0], by simp [PyData.depth]⟩
theorem sh_none : Sh 0 .none := ⟨by simp [PyData.canLay0], by simp [PyData.depth]⟩
theorem sh_str {s : Str} (h : PyData.strOk s = true) : Sh 0 (.str s) := ⟨by simp only [PyData.canLay0]; exact h, by simp [PyData.depth]⟩
theorem Sh.shaped {n : Nat} {d : PyData} (h : Sh n d) (l : n ≤ 64 := by decide) : SeqAt.shaped d = true := by
  show (d.canLay0 && decide (d.depth ≤ 64)) = true
  rw [h.1, decide_eq_true (Nat.le_trans h.2 l)]
  rfl
theorem Sh.self {n : Nat} {d : PyData} (h : Sh n d) : PyData.eqv d d = true := SeqAt.eqv_refl d h.1
def pInts (xs : List Int) : PyData := .list (xs.map PyData.int)
theorem sh_ints (xs : List Int) : Sh 1 (pInts xs) := sh_list fun d hd => by
  obtain ⟨i, _, rfl⟩ := List.mem_map.mp hd
  exact sh_int i
theorem dpall_ints {K : PySem.W.Frag} {H : Hp} : ∀ xs : List Int, DpAll K H (xs.map V.int) (xs.map PyData.int)
  | [] => .nil
  | x :: r => .cons (.int x) (dpall_ints r)
theorem dp_ints {K : PySem.W.Frag} {H : Hp} {p : Addr} {xs : List Int} (h : SqL K H p (xs.map V.int)) : Dp K H (.ref p) (pInts xs) := .lst h (dpall_ints xs)
/-! ### views: what is new, what stands -/
structure Ext (V H V' H' : Hp) : Prop where
  vv : Same V V'
  vh : Same V' H'
  hh : Same H H'
  nw : ∀ a, V' a ≠ none → V a ≠ none ∨ H a = none
theorem Ext.refl {V H : Hp} (h : Same V H) : Ext V H V H := ⟨Same.refl V, h, Same.refl H, fun _ h => Or.inl h⟩
theorem Ext.trans {V H V1 H1 V2 H2 : Hp} (a : Ext V H V1 H1) (b : Ext V1 H1 V2 H2) : Ext V H V2 H2 :=
  ⟨a.vv.trans b.vv, b.vh, a.hh.trans b.hh, fun x h => by
    rcases b.nw x h with q | q
    · exact a.nw x q
    · exact Or.inr (a.hh.free q)⟩
theorem none_of_same {V H : Hp} {p : Addr} (s : Same V H) (h : H p = none) : V p = none := s.free h
theorem Ext.new {V H : Hp} {p : Addr} {o : HO} (s : Same V H) (h : H p = none) : Ext V H (upd V p o) (upd H p o) :=
  ⟨same_upd (s.free h), fun b u e => by
    by_cases hb : b = p
    · subst hb; rw [upd_same] at e ⊢; exact e
    · rw [upd_ne hb] at e ⊢; exact s b u e, same_upd h, fun a e => by
    by_cases ha : a = p
    · subst ha; exact Or.inr h
    · rw [upd_ne ha] at e; exact Or.inl e⟩
/-- a new object that the view does not take in -/
theorem Ext.skip {V H : Hp} {p : Addr} {o : HO} (s : Same V H) (h : H p = none) : Ext V H V (upd H p o) :=
  ⟨Same.refl V, s.trans (same_upd h), same_upd h, fun _ e => Or.inl e⟩
theorem Ext.keepOut {V H V' H' : Hp} (x : Ext V H V' H') {D : Addr} (h : V D = none) (hd : H D ≠ none) : V' D = none := by
  cases e : V' D with
  | none => rfl
  | some o =>
    rcases x.nw D (by rw [e]; exact fun z => by cases z) with q | q
    · exact absurd h q
    · exact absurd q hd
/-- an object outside of the view changes -/
theorem Ext.poke {V H V' H' : Hp} (x : Ext V H V' H') {D : Addr} {o : HO} (hd : H D = none) (h : V' D = none) : Ext V H V' (upd H' D o) :=
  ⟨x.vv, fun b u e => by
    have hb : b ≠ D := fun z => by rw [z, h] at e; cases e
    rw [upd_ne hb]; exact x.vh b u e, fun b u e => by
    have hb : b ≠ D := ne_of_none e hd
    rw [upd_ne hb]; exact x.hh b u e, x.nw⟩
/-- the object at D, done, is taken in -/
theorem Ext.take {V H V' H' : Hp} (x : Ext V H V' H') {D : Addr} {o : HO} (hd : H D = none) (h : V' D = none) (e : H' D = some o) : Ext V H (upd V' D o) H' :=
  ⟨x.vv.trans (same_upd h), fun b u q => by
    by_cases hb : b = D
    · subst hb; rw [upd_same] at q; rw [e]; exact q
    · rw [upd_ne hb] at q; exact x.vh b u q, x.hh, fun a q => by
    by_cases ha : a = D
    · subst ha; exact Or.inr hd
    · rw [upd_ne ha] at q; exact x.nw a q⟩
theorem _root_.L2.Same.sqt {K : PySem.W.Frag} {H H' : Hp} {a : Addr} {xs : List V} (e : Same H H') (h : SqT K H a xs) : SqT K H' a xs := by
  rcases h with (h | ⟨o, h⟩) | h
  · exact .inl (.inl (e _ _ h))
  · exact .inl (.inr ⟨o, e _ _ h⟩)
  · exact .inr h
mutual
theorem dp_same {K : PySem.W.Frag} {H H' : Hp} (s : Same H H') : ∀ (d : PyData) (v : V), Dp K H v d → Dp K H' v d
  | .none, _, h => by cases h; exact .non
  | .bool b, _, h => by cases h; exact .bl b
  | .int i, _, h => by cases h; exact .int i
  | .str x, _, h => by cases h; exact .str x
  | .list ds, _, h => by
    cases h with
    | lst q r => exact .lst (s.seq q) (dpall_same s ds _ r)
  | .tuple ds, _, h => by
    cases h with
    | tup q r => exact .tup (s.sqt q) (dpall_same s ds _ r)
  | .dict _, _, h => by cases h
theorem dpall_same {K : PySem.W.Frag} {H H' : Hp} (s : Same H H') : ∀ (ds : List PyData) (vs : List V), DpAll K H vs ds → DpAll K H' vs ds
  | [], _, h => by cases h; exact .nil
  | d :: ds, _, h => by
    cases h with
    | cons q r => exact .cons (dp_same s d _ q) (dpall_same s ds _ r)
end
theorem _root_.L2.Dp.to {K : PySem.W.Frag} {H H' : Hp} {v : V} {d : PyData} (h : Dp K H v d) (s : Same H H') : Dp K H' v d := dp_same s d v h
theorem _root_.L2.DpAll.to {K : PySem.W.Frag} {H H' : Hp} {v : List V} {d : List PyData} (h : DpAll K H v d) (s : Same H H') : DpAll K H' v d := dpall_same s d v h
theorem dpall_len {K : PySem.W.Frag} {H : Hp} : ∀ {vs : List V} {ds : List PyData}, DpAll K H vs ds → vs.length = ds.length
  | _, [], h => by cases h; rfl
  | _, d :: ds, h => by
    cases h with
    | cons q r => exact congrArg (· + 1) (dpall_len r)
theorem dpall_get {K : PySem.W.Frag} {H : Hp} : ∀ {vs : List V} {ds : List PyData} {i : Nat} {v : V}, DpAll K H vs ds → vs[i]? = some v → ∃ d, ds[i]? = some d ∧ Dp K H v d
  | _, [], i, v, h, e => by cases h; cases e
  | _, d :: ds, i, v, h, e => by
    cases h with
    | cons q r =>
      match i, e with
      | 0, e => cases e; exact ⟨d, rfl, q⟩
      | i + 1, e => exact dpall_get (i := i) r e
theorem dpall_get' {K : PySem.W.Frag} {H : Hp} : ∀ {vs : List V} {ds : List PyData} {i : Nat} {d : PyData}, DpAll K H vs ds → ds[i]? = some d → ∃ v, vs[i]? = some v ∧ Dp K H v d
  | _, [], i, d, h, e => by cases e
  | _, d :: ds, i, d', h, e => by
    cases h with
    | cons q r =>
      match i, e with
      | 0, e => cases e; exact ⟨_, rfl, q⟩
      | i + 1, e => exact dpall_get' (i := i) r e
theorem dpall_app {K : PySem.W.Frag} {H : Hp} : ∀ {vs ws : List V} {ds es : List PyData}, DpAll K H vs ds → DpAll K H ws es → DpAll K H (vs ++ ws) (ds ++ es)
  | _, _, [], _, h, g => by cases h; exact g
  | _, _, d :: ds, _, h, g => by
    cases h with
    | cons q r => exact .cons q (dpall_app r g)
theorem dp_list {K : PySem.W.Frag} {H : Hp} {v : V} {ds : List PyData} (h : Dp K H v (.list ds)) : ∃ a xs, v = .ref a ∧ SqL K H a xs ∧ DpAll K H xs ds := by
  cases h with
  | lst q r => exact ⟨_, _, rfl, q, r⟩
theorem dp_tuple {K : PySem.W.Frag} {H : Hp} {v : V} {ds : List PyData} (h : Dp K H v (.tuple ds)) : ∃ a xs, v = .ref a ∧ SqT K H a xs ∧ DpAll K H xs ds := by
  cases h with
  | tup q r => exact ⟨_, _, rfl, q, r⟩
theorem dp_int {K : PySem.W.Frag} {H : Hp} {v : V} {i : Int} (h : Dp K H v (.int i)) : v = .int i := by cases h; rfl
theorem dp_str {K : PySem.W.Frag} {H : Hp} {v : V} {i : Str} (h : Dp K H v (.str i)) : v = .str i := by cases h; rfl
theorem dp_bool {K : PySem.W.Frag} {H : Hp} {v : V} {i : Bool} (h : Dp K H v (.bool i)) : v = .bl i := by cases h; rfl
/-! ### comprehensions over any walk -/
def fm {α : Type} (f : Nat → Option α) (n : Nat) : List α := (List.range n).filterMap f
theorem fm_succ {α : Type} (f : Nat → Option α) (n : Nat) : fm f (n + 1) = fm f n ++ (f n).toList := by
  unfold fm
  rw [List.range_succ, List.filterMap_append]
  congr 1
theorem fm_len {α : Type} (f : Nat → Option α) (n : Nat) : (fm f n).length ≤ n := by
  have h := List.length_filterMap_le f (List.range n)
  rw [List.length_range] at h
  exact h
structure LcInv (K : PySem.W.Frag) (V0 H0 : Hp) (D : Addr) (acc : List PyData) (H : Hp) : Prop where
  ex : ∃ V xs, Ext V0 H0 V H ∧ V D = none ∧ H D = some (.lst xs) ∧ DpAll K V xs acc
theorem LcInv.start {K : PySem.W.Frag} {V0 H0 : Hp} {D : Addr} (s : Same V0 H0) (hD : H0 D = none) : LcInv K V0 H0 D [] (upd H0 D (.lst [])) :=
  ⟨V0, [], Ext.skip s hD, s.free hD, upd_same, .nil⟩
theorem LcInv.done {K : PySem.W.Frag} {V0 H0 H : Hp} {D : Addr} {acc : List PyData} (hD : H0 D = none) (i : LcInv K V0 H0 D acc H) : ∃ U xs, Ext V0 H0 U H ∧ U D = some (.lst xs) ∧ DpAll K U xs acc ∧ Dp K U (.ref D) (.list acc) := by
  obtain ⟨V, xs, x, hv, hd, dp⟩ := i.ex
  exact ⟨_, xs, x.take hD hv hd, upd_same, dp.to (same_upd hv), .lst (SqL.of upd_same) (dp.to (same_upd hv))⟩
/-- one more item -/
theorem LcInv.push {K : PySem.W.Frag} {V0 H0 U H U' H' : Hp} {D : Addr} {acc : List PyData} {xs : List V} {y : V} {d : PyData} (hD : H0 D = none) (x : Ext V0 H0 U H) (hv : U D = none) (hd : H D = some (.lst xs)) (dp : DpAll K U xs acc)
    (x2 : Ext U H U' H') (e : Dp K U' y d) (hl : acc.length < 100000) :
    ∃ acc', H' D = some (.lst acc') ∧ acc'.length < sizeLine ∧ LcInv K V0 H0 D (acc ++ [d]) (upd H' D (.lst (acc' ++ [y]))) := by
  have hv' : U' D = none := x2.keepOut hv (by rw [hd]; exact fun z => by cases z)
  refine ⟨xs, x2.hh _ _ hd, lt_line (by rw [dpall_len dp]; exact hl), U', xs ++ [y], (x.trans x2).poke hD hv', hv', upd_same, dpall_app (dp.to x2.vv) (.cons e .nil)⟩
/-- a comprehension's reading over a walk that leaves the heap as it is: at turn i the item x, then f i: the data of what is put in, or none -/
theorem lc_dp0 {J : It} {n : Nat} {G : Hp → Prop} {Y : Nat → Hp → V → Hp → Prop} (wk : Walk J n G Y) {K : PySem.W.Frag} {V0 H0 : Hp} {D : Addr} {g : TG} {tt : TT} {te : TE} {vs : List Nat} {σ : St} {Qd : Hp → Prop} (f : Nat → Option PyData) (σ0 : St) (hσ : wipe σ vs = σ0) (s0 : Same V0 H0) (hD : H0 D = none) (hn : n < 100000)
    (hG : ∀ H, Same H0 H → G H) (hY : ∀ i H x H', Y i H x H' → H' = H)
    (hs : ∀ i x V H, i < n → Ext V0 H0 V H → Y i H x H → ∀ (Qy : VK) (Qn : Hp → Prop), (∀ d y V' H', f i = some d → Ext V H V' H' → Dp K V' y d → Qy y H') → (f i = none → ∀ V' H', Ext V H V' H' → Qn H') →
      g x σ0 H fun σ2 H2 => wipe σ2 vs = σ0 ∧ tt σ2 H2 fun b H3 => if b = true then te σ2 H3 Qy else Qn H3)
    (hd : ∀ (U H : Hp) (xs : List V), Ext V0 H0 U H → U D = none → H D = some (.lst xs) → DpAll K U xs (fm f n) → Qd H) :
    ∃ W : Nat → Nat → Hp → Prop, (∃ m, W 0 m (upd H0 D (.lst []))) ∧ ∀ i m H, W i m H →
      (J.stop i H ∧ Qd H) ∨ (J.go i H ∧ ∃ Nx : Hp → Prop, (∀ H', Nx H' → ∃ m', m' < m ∧ W (i + 1) m' H') ∧ ∀ x H', J.yld i H x H' → g x (wipe σ vs) H' fun σ2 H2 => wipe σ2 vs = wipe σ vs ∧ tt σ2 H2 fun b H3 =>
        if b = true then te σ2 H3 fun y H4 => ∃ acc, H4 D = some (.lst acc) ∧ acc.length < sizeLine ∧ Nx (upd H4 D (.lst (acc ++ [y]))) else Nx H3) := by
  subst hσ
  refine lc_it wk (fun i H => LcInv K V0 H0 D (fm f i) H) (LcInv.start s0 hD) (fun i H _ p => ?_) (fun i x H H' hi p y => ?_) (fun H p => ?_)
  · obtain ⟨V, xs, x, _⟩ := p.ex
    exact hG H x.hh
  · obtain ⟨V, xs, x0, hv, hdd, dp⟩ := p.ex
    obtain rfl := hY i H x H' y
    refine hs i x V H' hi x0 y _ _ (fun d y' V' H4 e x2 dy => ?_) (fun e V' H4 x2 => ?_)
    · have hl : (fm f i).length < 100000 := Nat.lt_of_le_of_lt (fm_len f i) (Nat.lt_trans hi hn)
      obtain ⟨acc', a1, a2, a3⟩ := LcInv.push hD x0 hv hdd dp x2 dy hl
      refine ⟨acc', a1, a2, ?_⟩
      rw [fm_succ, e]
      exact a3
    · have hv' : V' D = none := x2.keepOut hv (by rw [hdd]; exact fun z => by cases z)
      rw [fm_succ, e]
      show LcInv K V0 H0 D (fm f i ++ []) H4
      rw [List.append_nil]
      exact ⟨V', xs, x0.trans x2, hv', x2.hh _ _ hdd, dp.to x2.vv⟩
  · obtain ⟨U, xs, x, hv, hdd, dp⟩ := p.ex
    exact hd U H xs x hv hdd dp
/-- a comprehension's reading over a walk that leaves the heap as it is: at turn i the item x, then f i: the data of what is put in, or none -/
theorem lc_dp {J : It} {n : Nat} {G : Hp → Prop} {Y : Nat → Hp → V → Hp → Prop} (wk : Walk J n G Y) {K : PySem.W.Frag} {V0 H0 : Hp} {D : Addr} {g : TG} {tt : TT} {te : TE} {vs : List Nat} {σ : St} {Qd : Hp → Prop} (f : Nat → Option PyData) (σ0 : St) (hσ : wipe σ vs = σ0) (s0 : Same V0 H0) (hD : H0 D = none) (hn : n < 100000)
    (hG : ∀ H, Same H0 H → G H) (hY : ∀ i H x H', Y i H x H' → H' = H)
    (hs : ∀ i x V H, i < n → Ext V0 H0 V H → Y i H x H → ∀ (Qy : VK) (Qn : Hp → Prop), (∀ d y V' H', f i = some d → Ext V H V' H' → Dp K V' y d → Qy y H') → (f i = none → ∀ V' H', Ext V H V' H' → Qn H') →
      g x σ0 H fun σ2 H2 => wipe σ2 vs = σ0 ∧ tt σ2 H2 fun b H3 => if b = true then te σ2 H3 Qy else Qn H3)
    (hd : ∀ (U H : Hp) (xs : List V), Ext V0 H0 U H → U D = some (.lst xs) → DpAll K U xs (fm f n) → Dp K U (.ref D) (.list (fm f n)) → Qd H) :
    ∃ W : Nat → Nat → Hp → Prop, (∃ m, W 0 m (upd H0 D (.lst []))) ∧ ∀ i m H, W i m H →
      (J.stop i H ∧ Qd H) ∨ (J.go i H ∧ ∃ Nx : Hp → Prop, (∀ H', Nx H' → ∃ m', m' < m ∧ W (i + 1) m' H') ∧ ∀ x H', J.yld i H x H' → g x (wipe σ vs) H' fun σ2 H2 => wipe σ2 vs = wipe σ vs ∧ tt σ2 H2 fun b H3 =>
        if b = true then te σ2 H3 fun y H4 => ∃ acc, H4 D = some (.lst acc) ∧ acc.length < sizeLine ∧ Nx (upd H4 D (.lst (acc ++ [y]))) else Nx H3) := by
  refine lc_dp0 wk f σ0 hσ s0 hD hn hG hY hs fun U H xs x hv hdd dp => ?_
  exact hd _ H xs (x.take hD hv hdd) upd_same (dp.to (same_upd hv)) (.lst (SqL.of upd_same) (dp.to (same_upd hv)))
theorem fm_map {α β : Type} (f : α → β) : ∀ (xs : List α), fm (fun i => (xs[i]?).map f) xs.length = xs.map f := by
  intro xs
  have h : ∀ n, n ≤ xs.length → fm (fun i => (xs[i]?).map f) n = (xs.take n).map f := by
    intro n
    induction n with
    | zero => intro _; rfl
    | succ n ih =>
      intro hn
      rw [fm_succ, ih (by omega), List.getElem?_eq_getElem (by omega), List.take_succ_eq_append_getElem (by omega), List.map_append]
      rfl
  rw [h _ (Nat.le_refl _), List.take_length]

theorem lc2_outer {J : It} {n : Nat} {G : Hp → Prop} {Y : Nat → Hp → V → Hp → Prop} (wk : Walk J n G Y) {K : PySem.W.Frag} {V0 H0 : Hp} {D : Addr} {g : TG} {vs : List Nat} {σ : St} {body : St → Hp → (Hp → Prop) → Prop} {Qd : Hp → Prop} (F : Nat → List PyData) (σ0 : St) (hσ : wipe σ vs = σ0) (s0 : Same V0 H0) (hD : H0 D = none) (hF : F 0 = [])
    (hG : ∀ H, Same H0 H → G H) (hY : ∀ i H x H', Y i H x H' → H' = H)
    (hs : ∀ i x H, i < n → LcInv K V0 H0 D (F i) H → Y i H x H → ∀ Nx : Hp → Prop, (∀ H', LcInv K V0 H0 D (F (i + 1)) H' → Nx H') → g x σ0 H fun σ2 H2 => wipe σ2 vs = σ0 ∧ body σ2 H2 Nx)
    (hd : ∀ (U H : Hp) (xs : List V), Ext V0 H0 U H → U D = some (.lst xs) → DpAll K U xs (F n) → Dp K U (.ref D) (.list (F n)) → Qd H) :
    ∃ W : Nat → Nat → Hp → Prop, (∃ m, W 0 m (upd H0 D (.lst []))) ∧ ∀ i m H, W i m H →
      (J.stop i H ∧ Qd H) ∨ (J.go i H ∧ ∃ Nx : Hp → Prop, (∀ H', Nx H' → ∃ m', m' < m ∧ W (i + 1) m' H') ∧ ∀ x H', J.yld i H x H' → g x (wipe σ vs) H' fun σ2 H2 => wipe σ2 vs = wipe σ vs ∧ body σ2 H2 Nx) := by
  subst hσ
  refine ⟨fun i m H => m = n - i ∧ i ≤ n ∧ LcInv K V0 H0 D (F i) H, ⟨n, by simp, Nat.zero_le _, by rw [hF]; exact LcInv.start s0 hD⟩, ?_⟩
  rintro i m H ⟨rfl, hi, p⟩
  have sH : Same H0 H := by obtain ⟨_, _, x, _⟩ := p.ex; exact x.hh
  by_cases hlt : i < n
  · refine .inr ⟨wk.goes i H hlt (hG H sH), fun H' => LcInv K V0 H0 D (F (i + 1)) H', fun H' p' => ⟨n - (i + 1), by omega, rfl, hlt, p'⟩, fun x H' y => ?_⟩
    have y' := wk.yields i H x H' hlt (hG H sH) y
    obtain rfl := hY i H x H' y'
    exact hs i x H' hlt p y' _ fun _ h => h
  · have e : i = n := by omega
    subst e
    obtain ⟨U, xs, x, e1, e2, e3⟩ := p.done hD
    exact .inl ⟨wk.stops H (hG H sH), hd U H xs x e1 e2 e3⟩
theorem lc2_inner {J : It} {n : Nat} {G : Hp → Prop} {Y : Nat → Hp → V → Hp → Prop} (wk : Walk J n G Y) {K : PySem.W.Frag} {V0 H0 H4 : Hp} {D : Addr} {acc0 : List PyData} {g : TG} {tt : TT} {te : TE} {vs : List Nat} {σ : St} {Nx : Hp → Prop} (f : Nat → Option PyData) (σ0 : St) (hσ : wipe σ vs = σ0) (hD : H0 D = none)
    (inv : LcInv K V0 H0 D acc0 H4) (hn : acc0.length + n < 100000) (hG : ∀ H, Same H0 H → G H) (hY : ∀ i H x H', Y i H x H' → H' = H)
    (hs : ∀ i x V H, i < n → Ext V0 H0 V H → Y i H x H → ∀ (Qy : VK) (Qn : Hp → Prop), (∀ d y V' H', f i = some d → Ext V H V' H' → Dp K V' y d → Qy y H') → (f i = none → ∀ V' H', Ext V H V' H' → Qn H') →
      g x σ0 H fun σ2 H2 => wipe σ2 vs = σ0 ∧ tt σ2 H2 fun b H3 => if b = true then te σ2 H3 Qy else Qn H3)
    (hd : ∀ H, LcInv K V0 H0 D (acc0 ++ fm f n) H → Nx H) :
    ∃ W : Nat → Nat → Hp → Prop, (∃ m, W 0 m H4) ∧ ∀ i m H, W i m H →
      (J.stop i H ∧ Nx H) ∨ (J.go i H ∧ ∃ Nx1 : Hp → Prop, (∀ H', Nx1 H' → ∃ m', m' < m ∧ W (i + 1) m' H') ∧ ∀ x H', J.yld i H x H' → g x (wipe σ vs) H' fun σ2 H2 => wipe σ2 vs = wipe σ vs ∧ tt σ2 H2 fun b H3 =>
        if b = true then te σ2 H3 fun y H4 => ∃ acc, H4 D = some (.lst acc) ∧ acc.length < sizeLine ∧ Nx1 (upd H4 D (.lst (acc ++ [y]))) else Nx1 H3) := by
  subst hσ
  refine ⟨fun i m H => m = n - i ∧ i ≤ n ∧ LcInv K V0 H0 D (acc0 ++ fm f i) H, ⟨n, by simp, Nat.zero_le _, by rw [show fm f 0 = [] from rfl, List.append_nil]; exact inv⟩, ?_⟩
  rintro i m H ⟨rfl, hi, p⟩
  have sH : Same H0 H := by obtain ⟨_, _, x, _⟩ := p.ex; exact x.hh
  by_cases hlt : i < n
  · refine .inr ⟨wk.goes i H hlt (hG H sH), fun H' => LcInv K V0 H0 D (acc0 ++ fm f (i + 1)) H', fun H' p' => ⟨n - (i + 1), by omega, rfl, hlt, p'⟩, fun x H' y => ?_⟩
    have y' := wk.yields i H x H' hlt (hG H sH) y
    obtain rfl := hY i H x H' y'
    obtain ⟨V, xs, x0, hv, hdd, dp⟩ := p.ex
    refine hs i x V H' hlt x0 y' _ _ (fun d y' V' H4 e x2 dy => ?_) (fun e V' H4 x2 => ?_)
    · have hl : (acc0 ++ fm f i).length < 100000 := by have := fm_len f i; rw [List.length_append]; omega
      obtain ⟨acc', a1, a2, a3⟩ := LcInv.push hD x0 hv hdd dp x2 dy hl
      refine ⟨acc', a1, a2, ?_⟩
      rw [fm_succ, e, ← List.append_assoc]
      exact a3
    · have hv' : V' D = none := x2.keepOut hv (by rw [hdd]; exact fun z => by cases z)
      rw [fm_succ, e]
      show LcInv K V0 H0 D (acc0 ++ (fm f i ++ [])) H4
      rw [List.append_nil]
      exact ⟨V', xs, x0.trans x2, hv', x2.hh _ _ hdd, dp.to x2.vv⟩
  · have e : i = n := by omega
    subst e
    exact .inl ⟨wk.stops H (hG H sH), hd H p⟩
theorem fm_some {α : Type} (f : Nat → α) (n : Nat) : fm (fun i => some (f i)) n = (List.range n).map f := by
  induction n with
  | zero => rfl
  | succ n ih => rw [fm_succ, ih, List.range_succ, List.map_append]; rfl
theorem fl_take' {α : Type} {β : Type} (f : α → List β) : ∀ (xs : List α) (i : Nat) (x : α), xs[i]? = some x → (xs.take (i + 1)).flatMap f = (xs.take i).flatMap f ++ f x := by
  intro xs i x h
  obtain ⟨hi, e⟩ := List.getElem?_eq_some_iff.mp h
  rw [List.take_succ_eq_append_getElem hi, List.flatMap_append, e]
  show _ ++ (f x ++ []) = _
  rw [List.append_nil]
theorem fl_le' {α : Type} {β : Type} (f : α → List β) (xs : List α) (i : Nat) : ((xs.take i).flatMap f).length ≤ (xs.flatMap f).length := by
  have : xs.flatMap f = (xs.take i).flatMap f ++ (xs.drop i).flatMap f := by rw [← List.flatMap_append, List.take_append_drop]
  rw [this, List.length_append]; omega
/-! ### lists of ints, texts -/
theorem tyL {K : PySem.W.Frag} {H : Hp} {a : Addr} {xs : List V} (h : SqL K H a xs) : TyX K H (.ref a) (.type "list") := by
  rcases h with (h | ⟨o, h⟩) | ⟨o, its, n, h, c, _⟩
  · exact .base (.lst h)
  · exact .base (.frz h)
  · exact .kList h c
theorem tyT {K : PySem.W.Frag} {H : Hp} {a : Addr} {xs : List V} (h : SqT K H a xs) : TyX K H (.ref a) (.type "tuple") := by
  rcases h with (h | ⟨o, h⟩) | ⟨o, its, n, h, c, _⟩
  · exact .base (.tup h)
  · exact .fTuple h
  · exact .kTuple h c
theorem dp_intsV {K : PySem.W.Frag} {H : Hp} : ∀ {xs : List V} {is : List Int}, DpAll K H xs (is.map PyData.int) → xs = is.map V.int
  | _, [], r => by cases r; rfl
  | _, i :: is, r => by
    cases r with
    | cons r1 r2 => cases r1; rw [dp_intsV r2]; rfl
theorem dp_intsL {K : PySem.W.Frag} {H : Hp} {a : Addr} {is : List Int} (h : Dp K H (.ref a) (.list (is.map PyData.int))) : SqL K H a (is.map V.int) := by
  obtain ⟨a', xs, e, q, r⟩ := dp_list h
  cases e
  rw [← dp_intsV r]; exact q
theorem dp_strsV {K : PySem.W.Frag} {H : Hp} : ∀ {xs : List V} {is : List Str}, DpAll K H xs (is.map PyData.str) → xs = is.map V.str
  | _, [], r => by cases r; rfl
  | _, i :: is, r => by
    cases r with
    | cons r1 r2 => cases r1; rw [dp_strsV r2]; rfl
theorem dp_boolsV {K : PySem.W.Frag} {H : Hp} : ∀ {xs : List V} {is : List Bool}, DpAll K H xs (is.map PyData.bool) → xs = is.map V.bl
  | _, [], r => by cases r; rfl
  | _, i :: is, r => by
    cases r with
    | cons r1 r2 => cases r1; rw [dp_boolsV r2]; rfl
theorem dp_boolsL {K : PySem.W.Frag} {H : Hp} {a : Addr} {is : List Bool} (h : Dp K H (.ref a) (.list (is.map PyData.bool))) : SqL K H a (is.map V.bl) := by
  obtain ⟨a', xs, e, q, r⟩ := dp_list h
  cases e
  rw [← dp_boolsV r]; exact q
theorem size_eq (z : Str) : z.cps.size = z.cps.toList.length := by simp
theorem cps_at (z : Str) (i : Nat) : z.cps[i]? = z.cps.toList[i]? := by simp
theorem fm_list {α β : Type} (f : α → β) (xs : List α) (n : Nat) (h : n = xs.length) (g : Nat → Option β) (hg : ∀ i x, xs[i]? = some x → g i = some (f x)) : fm g n = xs.map f := by
  subst h
  rw [← fm_map f xs]
  unfold fm
  have : ∀ l : List Nat, (∀ i ∈ l, i < xs.length) → l.filterMap g = l.filterMap fun i => (xs[i]?).map f := by
    intro l
    induction l with
    | nil => intro _; rfl
    | cons i l ih =>
      intro hl
      have hi' := hl i List.mem_cons_self
      rw [List.filterMap_cons, List.filterMap_cons, hg i _ (List.getElem?_eq_getElem hi'), List.getElem?_eq_getElem hi', ih fun j hj => hl j (List.mem_cons_of_mem _ hj)]
      rfl
  exact this _ fun i hi => List.mem_range.mp hi
theorem rep_flat {α : Type} (v : α) : ∀ n : Nat, (List.replicate n [v]).flatten = List.replicate n v
  | 0 => rfl
  | n + 1 => by rw [List.replicate_succ, List.replicate_succ, List.flatten_cons, rep_flat v n]; rfl
/-- a list's object that is tracked, at p, new -/
structure NewL (H H' : Hp) (p : Addr) (xs : List V) : Prop where
  new : H p = none
  same : Same H H'
  at_ : H' p = some (.lst xs)
theorem NewL.ext {U H H' : Hp} {p : Addr} {xs : List V} (n : NewL H H' p xs) (s : Same U H) : Ext U H (upd U p (.lst xs)) H' :=
  ⟨same_upd (s.free n.new), fun b u e => by
    by_cases hb : b = p
    · subst hb; rw [upd_same] at e; rw [n.at_]; exact e
    · rw [upd_ne hb] at e; exact n.same _ _ (s b u e), n.same, fun a e => by
    by_cases ha : a = p
    · subst ha; exact Or.inr n.new
    · rw [upd_ne ha] at e; exact Or.inl e⟩
theorem str_app (x y : Str) : (x ++ y).cps.toList = x.cps.toList ++ y.cps.toList := Array.toList_append
theorem str_len_app (x y : Str) : (x ++ y).length = x.length + y.length := by
  show (x ++ y).cps.size = x.cps.size + y.cps.size
  rw [size_eq, str_app, List.length_append, ← size_eq, ← size_eq]
/-! ### _law_cell, _law_row -/
def lawCell (ns : List Int) (k : Nat) : Int :=
  let c := if 0 < ns.length then ns.getD (k % ns.length) 0 else 0
  if c < 0 then 1 - 2 * c else c
theorem lawCell_nn (ns : List Int) (k : Nat) : 0 ≤ lawCell ns k := by
  unfold lawCell
  simp only
  split <;> omega
def lawOne (c : Int) (k : Nat) : Int := (c * 48271 + (k : Int) * 69621 + 12345) % 2147483647
def lawTwo (o : Int) (k : Nat) : Int := (o * o + 16807 * (k : Int) + 7) % 2147483629
def lawRow (ns : List Int) (k : Nat) : Int :=
  if k < ns.length ∧ 1000000000 ≤ lawCell ns k then lawCell ns k
  else (lawTwo (lawOne (lawCell ns k) k) k * lawTwo (lawOne (lawCell ns k) k) k + lawOne (lawCell ns k) k) % 4294967291 + 4294967296 * (lawOne (lawCell ns k) k + 1)
theorem lawOne_b (c : Int) (k : Nat) : 0 ≤ lawOne c k ∧ lawOne c k < 2147483647 := by unfold lawOne; omega
theorem lawTwo_b (c : Int) (k : Nat) : 0 ≤ lawTwo c k ∧ lawTwo c k < 2147483629 := by
  unfold lawTwo
  generalize c * c + 16807 * (k : Int) + 7 = x
  omega
theorem lawRow_nn (ns : List Int) (k : Nat) : 0 ≤ lawRow ns k := by
  unfold lawRow
  have h1 := lawOne_b (lawCell ns k) k
  split
  · exact lawCell_nn ns k
  · generalize lawTwo (lawOne (lawCell ns k) k) k * lawTwo (lawOne (lawCell ns k) k) k + lawOne (lawCell ns k) k = x
    omega
def sp__law_cell (K : PySem.W.Frag) : Sp := fun vs H Q _ => ∃ (a : Addr) (ns : List Int) (k : Nat), vs = [.ref a, .int (k : Int)] ∧ SqL K H a (ns.map V.int) ∧ Q (.int (lawCell ns k)) H
theorem sc__law_cell : FnScope ["script", "k", "cell"] ["script", "k"] (defScope s__law_cell) := ⟨rfl, rfl, rfl, by decide +kernel, rfl, by decide +kernel, by decide +kernel⟩
theorem ok__law_cell (T : Txt0 P K mg A) : FnOk P w K mg base CX0 1 A.f_law_cell A.d_law_cell ["script", "k"] (sp__law_cell K) := by
  refine T.F_law_cell.ok sc__law_cell (fun vs H Q E h => ?_) (fun cdv Ar outer s H vs Q E hr h => ?_)
  · obtain ⟨a, ns, k, rfl, _⟩ := h
    rfl
  · obtain ⟨a, ns, k, rfl, hS, q⟩ := h
    refine ⟨_, (pss_cons (ps_set (i := 2) sc__law_cell.nd rfl (Or.inl rfl) pe_int)
      (pss_cons (ps_if (pt_cmpR op_gt (pe_callB call_len_seq (by rfl) T.len PySem.boot_len (pa_cons (pv 0) pa_nil)) pe_int (nomark _))
      (pss_one (ps_set (i := 2) sc__law_cell.nd rfl (Or.inl rfl) (pe_ix ix_list (pv 0) (pe_op op_mod (pe_callTy call_int1 (by rfl) T.int (by decide +kernel) (pa_cons (pv 1) pa_nil)) (pe_callB call_len_seq (by rfl) T.len PySem.boot_len (pa_cons (pv 0) pa_nil))) (fun _ _ => rfl))))
      pss_nil)
      (pss_cons (ps_if (pt_cmpR op_lt (pv 2) pe_int (nomark _))
      (pss_one (ps_set (i := 2) sc__law_cell.nd rfl (Or.inl rfl) (pe_op op_sub pe_int (pe_op op_mul pe_int (pv 2)))))
      pss_nil)
      (pss_one (ps_ret (pv 2)))))), ?_⟩
    have two : ∀ (c : Int), (if c < 0 then 1 - 2 * c else c) = lawCell ns k → tSeq (tIfS (tTest (tOp (rI0 fun i j => .bl (decide (i < j))) (tVar 2) (tC (.int 0)))) (tAsg (tOp (rI0 fun i j => .int (i - j)) (tC (.int 1)) (tOp (rI CMul fun i j => .int (i * j)) (tC (.int 2)) (tVar 2))) (gName 2)) tNext) (tRet (tVar 2))
        { nx := fun _ H' => Q .non H', rt := Q } [some (.ref a), some (.int (k : Int)), some (.int c)] H := by
      intro c hc
      walk_at "rd"
      refine iteP (fun h => ?_) (fun h => ?_)
      · rw [if_pos h] at hc
        walk_at "rd"
        rw [← hc] at q; exact q
      · rw [if_neg h] at hc
        walk_at "rd"
        rw [← hc] at q; exact q
    refine ⟨.ref a, rfl, a, _, rfl, .inl hS, _, _, rfl, rfl, _, rfl, iteP (fun h => ?_) (fun h => ?_)⟩
    · have h0 : 0 < ns.length := by rw [List.length_map] at h; omega
      refine ⟨_, rfl, _, rfl, Or.inl ⟨_, rfl, ?_⟩⟩
      refine ⟨_, rfl, a, _, rfl, .inl hS, _, _, rfl, rfl, by show (0 : Int) < _; omega, a, _, _, .int (ns.getD (k % ns.length) 0), rfl, rfl, hS, ?_, ?_⟩
      · refine at_of (j := k % ns.length) ?_ ?_
        · rw [List.length_map]; exact (Int.natCast_emod _ _).symm
        · rw [List.getElem?_map, List.getElem?_eq_getElem (Nat.mod_lt _ h0), List.getD_eq_getElem?_getD, List.getElem?_eq_getElem (Nat.mod_lt _ h0)]; rfl
      · refine two _ ?_
        unfold lawCell; rw [if_pos h0]
    · have h0 : ¬ 0 < ns.length := by rw [List.length_map] at h; omega
      refine two _ ?_
      unfold lawCell; rw [if_neg h0]
def sp__law_row (K : PySem.W.Frag) : Sp := fun vs H Q _ => ∃ (a : Addr) (ns : List Int) (k : Nat), vs = [.ref a, .int (k : Int)] ∧ SqL K H a (ns.map V.int) ∧ Q (.int (lawRow ns k)) H
theorem sc__law_row : FnScope ["script", "k", "cell", "one", "two"] ["script", "k"] (defScope s__law_row) := ⟨rfl, rfl, rfl, by decide +kernel, rfl, by decide +kernel, by decide +kernel⟩
theorem ok__law_row (T : Txt0 P K mg A) : FnOk P w K mg base CX0 2 A.f_law_row A.d_law_row ["script", "k"] (sp__law_row K) := by
  refine T.F_law_row.ok sc__law_row (fun vs H Q E h => ?_) (fun cdv Ar outer s H vs Q E hr h => ?_)
  · obtain ⟨a, ns, k, rfl, _⟩ := h
    rfl
  · obtain ⟨a, ns, k, rfl, hS, q⟩ := h
    refine ⟨_, (pss_cons (ps_set (i := 2) sc__law_row.nd rfl (Or.inl rfl) (pe_call (ok__law_cell T) (hr.mono (by decide)) rfl T.g_law_cell T.k_law_cell T.b_law_cell .nil pass0 (pa_cons (pv 0) (pa_cons (pv 1) pa_nil))))
      (pss_cons (ps_if (PW.pt (pw_and (pt_cmpR op_lt (pv 1) (pe_callB call_len_seq (by rfl) T.len PySem.boot_len (pa_cons (pv 0) pa_nil)) (nomark _)) (pw_and1 (pt_cmpR op_ge (pv 2) pe_int (nomark _)))))
      (pss_one (ps_ret (pv 2)))
      pss_nil)
      (pss_cons (ps_set (i := 3) sc__law_row.nd rfl (Or.inl rfl) (pe_op op_mod (pe_callTy call_int1 (by rfl) T.int (by decide +kernel) (pa_cons (pe_op op_add (pe_op op_add (pe_op op_mul (pv 2) pe_int) (pe_op op_mul (pv 1) pe_int)) pe_int) pa_nil)) pe_int))
      (pss_cons (ps_set (i := 4) sc__law_row.nd rfl (Or.inl rfl) (pe_op op_mod (pe_callTy call_int1 (by rfl) T.int (by decide +kernel) (pa_cons (pe_op op_add (pe_op op_add (pe_op op_mul (pv 3) (pv 3)) (pe_op op_mul pe_int (pv 1))) pe_int) pa_nil)) pe_int))
      (pss_one (ps_ret (pe_op op_add (pe_op op_mod (pe_callTy call_int1 (by rfl) T.int (by decide +kernel) (pa_cons (pe_op op_add (pe_op op_mul (pv 4) (pv 4)) (pv 3)) pa_nil)) pe_int) (pe_op op_mul pe_int (pe_op op_add (pv 3) pe_int))))))))), ?_⟩
    have b1 := lawOne_b (lawCell ns k) k
    have b2 := lawTwo_b (lawOne (lawCell ns k) k) k
    have m1 : CMul (lawOne (lawCell ns k) k) (lawOne (lawCell ns k) k) := Or.inl ⟨by omega, by omega⟩
    have m2 : CMul (lawTwo (lawOne (lawCell ns k) k) k) (lawTwo (lawOne (lawCell ns k) k) k) := Or.inl ⟨by omega, by omega⟩
    refine ⟨_, rfl, _, rfl, a, ns, k, rfl, hS, ?_⟩
    refine ⟨_, rfl, _, rfl, a, _, rfl, .inl hS, _, _, rfl, rfl, _, rfl, ?_⟩
    refine iteP (fun h => ?_) (fun h => ?_)
    · refine ⟨_, rfl, _, _, rfl, rfl, _, rfl, iteP (fun h2 => ?_) (fun h2 => ?_)⟩
      · have e : lawRow ns k = lawCell ns k := by unfold lawRow; rw [if_pos ⟨by rw [List.length_map] at h; omega, h2⟩]
        rw [e] at q
        exact ⟨_, rfl, q⟩
      · unfold lawRow at q
        rw [if_neg fun z => h2 z.2] at q
        walk_at "rd"
        refine ⟨m1, ?_⟩
        walk_at "rd"
        refine ⟨m2, ?_⟩
        walk_at "rd"
        exact q
    · unfold lawRow at q
      rw [if_neg fun z => h (by rw [List.length_map]; omega)] at q
      walk_at "rd"
      refine ⟨m1, ?_⟩
      walk_at "rd"
      refine ⟨m2, ?_⟩
      walk_at "rd"
      exact q
/-! ### a word that goes on by itself -/
theorem iteVP {p A B : Prop} [Decidable p] (h1 : p → A) (h2 : ¬ p → B) : if p then A else B := by
  by_cases h : p
  · rw [if_pos h]; exact h1 h
  · rw [if_neg h]; exact h2 h
/-- a new tuple is handed back -/
def RetT (H : Hp) (Q : VK) (xs : List V) : Prop := ∀ p H', Same H H' → H' p = some (.tup xs) → Q (.ref p) H'
theorem RetT.go {H : Hp} {Q : VK} {xs : List V} (h : ∀ p H', Same H H' → H' p = some (.tup xs) → Q (.ref p) H') : RetT H Q xs := h
theorem ne_self {d e : PyData} {A B : Prop} (hs : SeqAt.shaped d = true) (h : d = e) (hB : B) : if (!PyData.eqv d e) = true then A else B := by
  subst h
  have h2 : (d.canLay0 && decide (d.depth ≤ 64)) = true := hs
  have : PyData.eqv d d = true := SeqAt.eqv_refl d (by rw [Bool.and_eq_true] at h2; exact h2.1)
  rw [this]
  exact iteF hB
theorem eq_self {d e : PyData} {A B : Prop} (hs : SeqAt.shaped d = true) (h : d = e) (hA : A) : if PyData.eqv d e = true then A else B := by
  subst h
  have h2 : (d.canLay0 && decide (d.depth ≤ 64)) = true := hs
  have : PyData.eqv d d = true := SeqAt.eqv_refl d (by rw [Bool.and_eq_true] at h2; exact h2.1)
  rw [this]
  exact iteT hA
theorem t_ne {K : PySem.W.Frag} {x y : V} {H : Hp} {Q : VK} {d e : PyData} (h1 : Dp K H x d) (h2 : Dp K H y e) (s1 : SeqAt.shaped d = true) (s2 : SeqAt.shaped e = true) (q : Q (.bl (!PyData.eqv d e)) H) : rNeD K x y H Q := ⟨d, e, h1, h2, s1, s2, q⟩
theorem t_eq {K : PySem.W.Frag} {x y : V} {H : Hp} {Q : VK} {d e : PyData} (h1 : Dp K H x d) (h2 : Dp K H y e) (s1 : SeqAt.shaped d = true) (s2 : SeqAt.shaped e = true) (q : Q (.bl (PyData.eqv d e)) H) : rEqD K x y H Q := ⟨d, e, h1, h2, s1, s2, q⟩
/-! words that go on by themselves -/
local macro_rules | `(tactic| walk_at "sq") => `(tactic| first
  | exact SqT.of upd_same
  | exact SqL.of upd_same
  | assumption
  | exact SqT.of (by assumption)
  | exact SqL.of (by assumption)
  | (apply Same.sqt (same_upd (by assumption)); walk_at "sq")
  | (apply Same.seq (same_upd (by assumption)); walk_at "sq")
  | (apply Same.sqt (by assumption); walk_at "sq")
  | (apply Same.seq (by assumption); walk_at "sq"))
local macro_rules | `(tactic| walk_at "sm") => `(tactic| first
  | exact Same.refl _
  | assumption
  | (apply Same.trans _ (same_upd (by assumption)); walk_at "sm")
  | (apply Same.trans _ (by assumption); walk_at "sm"))
local macro_rules | `(tactic| walk_at "at") => `(tactic| first
  | exact atI_nat (j := 0) rfl
  | exact atI_nat (j := 1) rfl
  | exact atI_nat (j := 2) rfl
  | exact atI_nat (j := 3) rfl
  | exact atI_nat (j := 4) rfl
  | exact atI_nat (j := 5) rfl)
local macro_rules | `(tactic| walk_at "go1") => `(tactic| first
  | refine ⟨_, rfl, ?_⟩
  | refine ⟨_, _, rfl, rfl, ?_⟩
  | refine ⟨rfl, ?_⟩
  | refine Or.inl ⟨_, rfl, ?_⟩
  | refine ⟨(by show (0 : Int) < _; decide), ?_⟩
  | refine ⟨(⟨by decide, by decide⟩ : CDiv _ _), ?_⟩
  | refine ⟨(Or.inl ⟨by decide, by decide⟩ : CMul _ _), ?_⟩
  | refine ⟨(Or.inr ⟨by decide, by decide⟩ : CMul _ _), ?_⟩
  | refine ⟨_, _, rfl, ?_⟩
  | refine ⟨_, _, _, rfl, ?_⟩
  | refine ⟨_, _, _, _, rfl, ?_⟩
  | (refine And.intro (a := (0 : Int) ≤ _) ?_ ?_; focus omega)
  | (refine And.intro (a := _ ≤ sizeLine) ?_ (fun p hp => ?_); (focus (exact len_line (Nat.le_of_ble_eq_true rfl))))
  | refine RetT.go (fun p H' s e => ?_)
  | refine if_t rfl ?_
  | refine if_f rfl ?_
  | refine ⟨_, _, rfl, (by walk_at "sq"), rfl, ?_⟩
  | refine ⟨_, _, rfl, Or.inl (by walk_at "sq"), ?_⟩
  | refine ⟨_, _, rfl, Or.inr (by walk_at "sq"), ?_⟩
  | refine ⟨_, _, _, _, rfl, rfl, (by walk_at "sq"), (by walk_at "at"), ?_⟩
  | refine ⟨_, _, rfl, (by walk_at "sq"), (by show ¬(HT.sIx 4 0 (some 2) = 0 ∧ HT.sIx 4 4 none = 4); decide), fun p hp => ?_⟩
  | refine ⟨_, _, _, _, rfl, rfl, (by walk_at "sq"), (by walk_at "sq"), (by intro h; cases h), len_line (Nat.le_of_ble_eq_true rfl), (fun h => by cases h), fun _ p hp => ?_⟩)
local macro_rules | `(tactic| walk_at "go") => `(tactic| repeat walk_at "go1")
local macro_rules | `(tactic| walk_at "dps") => `(tactic| first
  | exact DpAll.nil
  | (apply DpAll.cons; (focus (walk_at "dp")); (focus (walk_at "dps"))))
local macro_rules | `(tactic| walk_at "dp") => `(tactic| first
  | exact Dp.int _
  | exact Dp.bl _
  | exact Dp.str _
  | exact Dp.non
  | (apply Dp.tup; (focus (walk_at "sq")); (focus (walk_at "dps")))
  | (apply Dp.lst; (focus (walk_at "sq")); (focus (walk_at "dps"))))
local macro_rules | `(tactic| walk_at "sh") => `(tactic| (show (PyData.canLay0 _ && decide (PyData.depth _ ≤ 64)) = true; simp [PyData.canLay0, PyData.canLayAll0, PyData.depth, PyData.depthAll]))
/-- a deep comparison: what is left is the if -/
local macro_rules | `(tactic| walk_at "ne") => `(tactic| (apply t_ne; (focus (walk_at "dp")); (focus (walk_at "dp")); (focus (walk_at "sh")); (focus (walk_at "sh")); refine ⟨_, rfl, ?_⟩))
local macro_rules | `(tactic| walk_at "neS") => `(tactic| (walk_at "ne"; refine ne_self ?_ ?_ ?_; (focus (walk_at "sh"))))
/-! ### more words -/
local macro_rules | `(tactic| walk_at "go2") => `(tactic| first
  | walk_at "go1"
  | refine ⟨(⟨by omega, by omega⟩ : CDiv _ _), ?_⟩
  | refine ⟨(Or.inl ⟨by omega, by omega⟩ : CMul _ _), ?_⟩
  | refine ⟨(Or.inr ⟨by omega, by omega⟩ : CMul _ _), ?_⟩
  | refine ⟨(by show (0 : Int) < _; omega), ?_⟩)
local macro_rules | `(tactic| walk_at "gx") => `(tactic| repeat walk_at "go2")
/-! ### is_integer, number_octets -/
def sp_is_integer (K : PySem.W.Frag) : Sp := fun vs H Q _ => ∃ (i lo hi : Int), vs = [.int i, .int lo, .int hi] ∧ Q (.bl (decide (lo ≤ i ∧ i ≤ hi))) H
theorem sc_is_integer : FnScope ["value", "least", "greatest"] ["value", "least", "greatest"] (defScope s_is_integer) := ⟨rfl, rfl, rfl, by decide +kernel, rfl, by decide +kernel, by decide +kernel⟩
theorem ok_is_integer (T : Txt0 P K mg A) : FnOk P w K mg base CX0 1 A.fis_integer A.dis_integer ["value", "least", "greatest"] (sp_is_integer K) := by
  refine T.Fis_integer.ok sc_is_integer (fun vs H Q E h => ?_) (fun cdv Ar outer s H vs Q E hr h => ?_)
  · obtain ⟨i, lo, hi, rfl, _⟩ := h
    rfl
  · obtain ⟨i, lo, hi, rfl, q⟩ := h
    refine ⟨_, (pss_one (ps_ret (pe_and (pe_callB call_isi (by rfl) T.isinstance (by decide +kernel) (pa_cons (pv 0) (pa_cons (pe_bltn (v := .ty "int") (by rfl) T.int (by decide +kernel) rfl) pa_nil))) (pe_and (pe_not (pe_callB call_isi (by rfl) T.isinstance (by decide +kernel) (pa_cons (pv 0) (pa_cons (pe_bltn (v := .ty "bool") (by rfl) T.bool (by decide +kernel) rfl) pa_nil)))) (pe_one (pe_chain op_le op_le (pv 1) (pv 0) (pv 2))))))), ?_⟩
    refine ⟨_, rfl, .int i, .ty "int", .type "int", .type "int", true, rfl, .ty _, .base (.int _), kit_ty (by decide +kernel), _, rfl, iteT ?_⟩
    refine ⟨_, rfl, .int i, .ty "bool", .type "int", .type "bool", false, rfl, .ty _, .base (.int _), kit_ty (by decide +kernel), _, rfl, _, rfl, iteT ?_⟩
    refine ⟨_, rfl, _, rfl, _, _, rfl, rfl, _, rfl, iteP (fun h => ?_) (fun h => ?_)⟩
    · refine ⟨_, rfl, _, _, rfl, rfl, ?_⟩
      have e : decide (lo ≤ i ∧ i ≤ hi) = decide (i ≤ hi) := by
        by_cases c : i ≤ hi
        · rw [decide_eq_true c, decide_eq_true ⟨h, c⟩]
        · rw [decide_eq_false c, decide_eq_false fun z => c z.2]
      rw [e] at q
      exact q
    · rw [decide_eq_false fun z => h z.1] at q
      exact q
def octs (n : Int) (c : Nat) : List Int := (List.range c).map fun k => n / 2 ^ (8 * k) % 256
theorem octs_len (n : Int) (c : Nat) : (octs n c).length = c := by unfold octs; rw [List.length_map, List.length_range]
theorem octs_succ (n : Int) (c : Nat) : octs n (c + 1) = octs n c ++ [n / 2 ^ (8 * c) % 256] := by
  unfold octs; rw [List.range_succ, List.map_append]; rfl
theorem and255 {x : Int} (h : 0 ≤ x) : Builtin.bitAnd x 255 = x % 256 := Bits.bitAnd_mask 8 h
/-- number_octets(n, c), n not negative, c small: a new list -/
def sp_number_octets (K : PySem.W.Frag) : Sp := fun vs H Q _ => ∃ (n : Int) (c : Nat), vs = [.int n, .int (c : Int)] ∧ 0 ≤ n ∧ c ≤ 1000 ∧
  ∀ p H', H p = none → Same H H' → H' p = some (.lst ((octs n c).map V.int)) → Q (.ref p) H'
theorem sc_number_octets : FnScope ["number", "count", "place"] ["number", "count"] (defScope s_number_octets) := ⟨rfl, rfl, rfl, by decide +kernel, rfl, by decide +kernel, by decide +kernel⟩
theorem ok_number_octets (T : Txt0 P K mg A) : FnOk P w K mg base CX0 1 A.fnumber_octets A.dnumber_octets ["number", "count"] (sp_number_octets K) := by
  refine T.Fnumber_octets.ok sc_number_octets (fun vs H Q E h => ?_) (fun cdv Ar outer s H vs Q E hr h => ?_)
  · obtain ⟨n, c, rfl, _⟩ := h
    rfl
  · obtain ⟨n, c, rfl, hn, hc, q⟩ := h
    refine ⟨_, (pss_one (ps_ret (pe_lc (own := [("place", 2)]) (g := gName 2) (tt := tYes) rfl sc_number_octets.nd (pi_range1 (by rfl) T.range (pa_cons (pv 1) pa_nil)) (blkOk_by (own := [("place", 2)]) (N := ["number", "count", "place"]) (sc := defScope s_number_octets) (by decide +kernel)) (fun _ _ _ _ _ => (pg_name (i := 2) sc_number_octets.nd rfl (Or.inl rfl))) (fun _ _ _ _ _ => pts_nil) (fun _ _ _ _ _ => (pe_op op_and (pe_op op_shr (pv 0) (pe_op op_mul pe_int (pv 2))) pe_int))))), ?_⟩
    refine ⟨_, rfl, (c : Int), rfl, by omega, by omega, fun D hD => ?_⟩
    refine lc_range (lo := 0) (n := ((c : Int)).toNat) (fun i H' => Same H H' ∧ H' D = some (.lst ((octs n i).map V.int))) ⟨same_upd hD, upd_same⟩ ?_ ?_
    · rintro i H1 hi ⟨hs, he⟩
      refine ⟨rfl, _, rfl, _, rfl, _, _, rfl, rfl, Or.inl ⟨by decide, by decide⟩, _, _, rfl, rfl, by show (0 : Int) ≤ _; omega, _, _, rfl, rfl, _, he, ?_, ?_, ?_⟩
      · rw [List.length_map, octs_len]; exact lt_line (by omega)
      · intro b o e
        rw [upd_ne (fun z => by rw [z, hD] at e; cases e)]
        exact hs b o e
      · rw [upd_same, octs_succ, List.map_append]
        have e1 : (8 * (0 + (i : Int))).toNat = 8 * i := by omega
        have e2 : Builtin.bitAnd (n / 2 ^ (8 * (0 + (i : Int))).toNat) 255 = n / 2 ^ (8 * i) % 256 := by
          rw [e1, and255 (Int.ediv_nonneg hn (Int.le_of_lt (Int.pow_pos (by decide))))]
        dsimp only
        rw [e2]
        rfl
    · rintro H1 ⟨hs, he⟩
      rw [show ((c : Int)).toNat = c by omega] at he
      exact q D H1 hD hs he
/-! ### is_text, _padded, _text_octets -/
def codeOk (c : Int) : Bool := decide (32 ≤ c ∧ c ≤ 126 ∧ c ≠ 37)
def isText (s : Str) : Bool := decide ((s.length : Int) ≤ 1000) && s.cps.toList.all (fun c : Nat => codeOk (c : Int))
def codesOf (s : Str) : List Int := s.cps.toList.map fun c : Nat => (c : Int)
def padN (n : Nat) : Nat := (-(n : Int) % 4).toNat
def pad (xs : List Int) : List Int := xs ++ List.replicate (padN xs.length) 0
theorem padN_lt (n : Nat) : padN n < 4 := by unfold padN; omega
theorem pad_len (xs : List Int) : (pad xs).length = xs.length + padN xs.length := by unfold pad; rw [List.length_append, List.length_replicate]
def textOcts (s : Str) : List Int := pad (octs (s.length + 1 : Int) 4 ++ codesOf s ++ [0])
theorem codesOf_len (z : Str) : (codesOf z).length = z.length := by unfold codesOf; rw [List.length_map]; exact (size_eq z).symm
theorem textOcts_len (z : Str) : (textOcts z).length ≤ z.length + 8 := by
  unfold textOcts
  rw [pad_len, List.length_append, List.length_append, octs_len, codesOf_len]
  have := padN_lt (4 + z.length + [(0 : Int)].length)
  show 4 + z.length + 1 + padN (4 + z.length + 1) ≤ _
  have h : padN (4 + z.length + 1) < 4 := padN_lt _
  omega
def sp__is_code (K : PySem.W.Frag) : Sp := fun vs H Q _ => ∃ (c : Int), vs = [.int c] ∧ Q (.bl (codeOk c)) H
theorem sc__is_code : FnScope ["code"] ["code"] (defScope s__is_code) := ⟨rfl, rfl, rfl, by decide +kernel, rfl, by decide +kernel, by decide +kernel⟩
theorem ok__is_code (T : Txt0 P K mg A) : FnOk P w K mg base CX0 1 A.f_is_code A.d_is_code ["code"] (sp__is_code K) := by
  refine T.F_is_code.ok sc__is_code (fun vs H Q E h => ?_) (fun cdv Ar outer s H vs Q E hr h => ?_)
  · obtain ⟨c, rfl, _⟩ := h
    rfl
  · obtain ⟨c, rfl, q⟩ := h
    refine ⟨_, (pss_one (ps_ret (pe_and (pe_chain op_le op_le (pe_glob (v := .int (32)) rfl T.g_FIRST_CODE ⟨_, rfl⟩) (pv 0) (pe_glob (v := .int (126)) rfl T.g_LAST_CODE ⟨_, rfl⟩)) (pe_one (pe_cmpR op_ne (pv 0) (pe_glob (v := .int (37)) rfl T.g_PERCENT_CODE ⟨_, rfl⟩) (nomark _)))))), ?_⟩
    unfold codeOk at q
    refine ⟨_, rfl, _, _, rfl, rfl, _, rfl, iteP (fun h1 => ?_) (fun h1 => ?_)⟩
    · refine ⟨_, _, rfl, rfl, ?_⟩
      by_cases h2 : c ≤ 126
      · refine ⟨_, rfl, if_t (decide_eq_true h2) ⟨_, rfl, rfl, ?_⟩⟩
        by_cases h3 : c = 37
        · rw [decide_eq_false fun z => z.2.2 h3] at q
          rw [decide_eq_true (by rw [h3])]; exact q
        · rw [decide_eq_true ⟨h1, h2, h3⟩] at q
          rw [decide_eq_false fun z => h3 (V.int.inj z)]; exact q
      · refine ⟨_, rfl, if_f (decide_eq_false h2) ?_⟩
        rw [decide_eq_false fun z => h2 z.2.1] at q
        exact q
    · refine ⟨_, rfl, if_f rfl ?_⟩
      rw [decide_eq_false fun z => h1 z.1] at q; exact q
def sp_is_text (K : PySem.W.Frag) : Sp := fun vs H Q _ => ∃ (s : Str), vs = [.str s] ∧ s.length < 100000 ∧ ∀ H', Same H H' → Q (.bl (isText s)) H'
theorem sc_is_text : FnScope ["value", "character"] ["value"] (defScope s_is_text) := ⟨rfl, rfl, rfl, by decide +kernel, rfl, by decide +kernel, by decide +kernel⟩
theorem ok_is_text (T : Txt0 P K mg A) : FnOk P w K mg base CX0 2 A.fis_text A.dis_text ["value"] (sp_is_text K) := by
  refine T.Fis_text.ok sc_is_text (fun vs H Q E h => ?_) (fun cdv Ar outer s H vs Q E hr h => ?_)
  · obtain ⟨c, rfl, _⟩ := h
    rfl
  · obtain ⟨z, rfl, hl, q⟩ := h
    refine ⟨_, (pss_one (ps_ret (pe_and (pe_cmpR op_le (pe_callB call_len_str (by rfl) T.len PySem.boot_len (pa_cons (pv 0) pa_nil)) (pe_glob (v := .int (1000)) rfl T.gLONGEST_TEXT ⟨_, rfl⟩) (nomark _)) (pe_one (pe_callB (cr_all rfl) (by rfl) T.all (by decide +kernel) (pa_cons (pe_lc (own := [("character", 1)]) (g := (gName 1)) (tt := tYes) rfl sc_is_text.nd (pi_str (pv 0)) (blkOk_by (own := [("character", 1)]) (N := ["value", "character"]) (sc := defScope s_is_text) (by decide +kernel)) (fun _ _ _ _ _ => (pg_name (i := 1) sc_is_text.nd rfl (Or.inl rfl))) (fun _ _ _ _ _ => pts_nil) (fun _ _ _ _ _ => by exact (pe_call (ok__is_code T) (hr.mono (by decide)) rfl T.g_is_code T.k_is_code T.b_is_code .nil pass0 (pa_cons (pe_callB call_ord (by rfl) T.ord (by decide +kernel) (pa_cons (pv 1) pa_nil)) pa_nil)))) pa_nil)))))), ?_⟩
    refine ⟨_, rfl, z, rfl, len_line (Nat.le_of_lt hl), _, _, rfl, rfl, _, rfl, iteP (fun h1 => ?_) (fun h1 => ?_)⟩
    · refine ⟨_, rfl, z, rfl, fun D hD => ?_⟩
      refine lc_dp (walk_str (z := z)) (K := K) (V0 := H) (H0 := H) (fun i => (z.cps[i]?).map fun c : Nat => PyData.bool (codeOk (c : Int))) [some (.str z), none] rfl (Same.refl _) hD (by show z.length < 100000; exact hl) (fun _ _ => trivial) (fun i x H H' y => y.1) ?_ ?_
      · rintro i x U H1 hi xx ⟨_, c, hc, rfl⟩ Qy Qn hy _
        refine ⟨rfl, _, rfl, _, rfl, rfl, _, rfl, ?_⟩
        exact hy _ _ _ _ (by rw [hc]; rfl) (Ext.refl xx.vh) (.bl _)
      · rintro U H1 _ xx _ _ dl
        rw [size_eq, show fm (fun i => (z.cps[i]?).map fun c : Nat => PyData.bool (codeOk (c : Int))) z.cps.toList.length = (z.cps.toList.map fun c : Nat => codeOk (c : Int)).map PyData.bool from by
          rw [List.map_map]; exact fm_list _ _ _ rfl _ fun i x hx => by rw [cps_at, hx]; rfl] at dl
        refine ⟨D, _, rfl, xx.vh.seq (dp_boolsL dl), ?_⟩
        have := q _ xx.hh
        unfold isText at this
        rw [decide_eq_true h1, Bool.true_and] at this
        rw [List.all_map]; exact this
    · have := q H (Same.refl H)
      unfold isText at this
      rw [decide_eq_false h1] at this
      exact this
/-- _padded(a list): a new list -/
def sp__padded (K : PySem.W.Frag) : Sp := fun vs H Q _ => ∃ (a : Addr) (xs : List Int), vs = [.ref a] ∧ H a = some (.lst (xs.map V.int)) ∧ xs.length < 90000 ∧ ∀ p H', NewL H H' p ((pad xs).map V.int) → Q (.ref p) H'
theorem sc__padded : FnScope ["octets"] ["octets"] (defScope s__padded) := ⟨rfl, rfl, rfl, by decide +kernel, rfl, by decide +kernel, by decide +kernel⟩
theorem ok__padded (T : Txt0 P K mg A) : FnOk P w K mg base CX0 1 A.f_padded A.d_padded ["octets"] (sp__padded K) := by
  refine T.F_padded.ok sc__padded (fun vs H Q E h => ?_) (fun cdv Ar outer s H vs Q E hr h => ?_)
  · obtain ⟨a, xs, rfl, _⟩ := h
    rfl
  · obtain ⟨a, xs, rfl, ha, hl, q⟩ := h
    refine ⟨_, (pss_one (ps_ret (pe_op op_cat (pv 0) (pe_op op_rep (pe_lst (pa_cons pe_int pa_nil)) (pe_op op_mod (pe_un un_neg (pe_callB call_len_seq (by rfl) T.len PySem.boot_len (pa_cons (pv 0) pa_nil))) pe_int))))), ?_⟩
    refine ⟨_, rfl, by decide, fun p1 n1 => ?_⟩
    have ha1 : (upd H p1 (.lst [.int 0])) a = some (.lst (xs.map V.int)) := by rw [upd_ne (ne_of_none ha n1)]; exact ha
    have e1 : -((xs.map V.int).length : Int) % 4 = (padN xs.length : Int) := by rw [List.length_map]; unfold padN; omega
    have pl := padN_lt xs.length
    refine ⟨_, rfl, a, _, rfl, .inl (SqL.of ha1), _, rfl, _, _, rfl, rfl, by show (0 : Int) < 4; decide, p1, _, _, rfl, rfl, upd_same, ?_, ?_, ?_, fun p2 n2 => ?_⟩
    · omega
    · omega
    · exact len_line (by show 1 * _ ≤ _; omega)
    refine ⟨a, p2, _, _, rfl, rfl, by rw [upd_ne (ne_of_none ha1 n2)]; exact ha1, upd_same, ?_, fun p3 n3 => ?_⟩
    · rw [e1]
      exact len_line (by rw [rep_flat, List.length_map, List.length_replicate]; omega)
    refine q p3 _ ⟨?_, ?_, ?_⟩
    · exact (same_upd n1).free ((same_upd n2).free n3)
    · exact ((same_upd n1).trans (same_upd n2)).trans (same_upd n3)
    · rw [upd_same, e1]
      unfold pad
      rw [List.map_append, show ((padN xs.length : Nat) : Int).toNat = padN xs.length by omega]
      rw [rep_flat, List.map_replicate]
def sp__text_octets (K : PySem.W.Frag) : Sp := fun vs H Q _ => ∃ (s : Str), vs = [.str s] ∧ s.length < 80000 ∧ ∀ p H', NewL H H' p ((textOcts s).map V.int) → Q (.ref p) H'
theorem sc__text_octets : FnScope ["text", "codes", "character"] ["text"] (defScope s__text_octets) := ⟨rfl, rfl, rfl, by decide +kernel, rfl, by decide +kernel, by decide +kernel⟩
theorem ok__text_octets (T : Txt0 P K mg A) : FnOk P w K mg base CX0 2 A.f_text_octets A.d_text_octets ["text"] (sp__text_octets K) := by
  refine T.F_text_octets.ok sc__text_octets (fun vs H Q E h => ?_) (fun cdv Ar outer s H vs Q E hr h => ?_)
  · obtain ⟨z, rfl, _⟩ := h
    rfl
  · obtain ⟨z, rfl, hl, q⟩ := h
    refine ⟨_, (pss_cons (ps_setLc (i := 1) (own := [("character", 2)]) (g := (gName 2)) (tt := tYes) rfl sc__text_octets.nd rfl rfl (sw_true rfl rfl rfl (by decide +kernel)) (pi_str (pv 0)) (blkOk_by (own := [("character", 2)]) (N := ["text", "codes", "character"]) (sc := defScope s__text_octets) (by decide +kernel)) (fun _ _ _ _ _ => (pg_name (i := 2) sc__text_octets.nd rfl (Or.inl rfl))) (fun _ _ _ _ _ => pts_nil) (fun _ _ _ _ _ => by exact (pe_callB call_ord (by rfl) T.ord (by decide +kernel) (pa_cons (pv 2) pa_nil))))
      (pss_one (ps_ret (pe_call (ok__padded T) (hr.mono (by decide)) rfl T.g_padded T.k_padded T.b_padded .nil pass0 (pa_cons (pe_op op_cat (pe_op op_cat (pe_call (ok_number_octets T) (hr.mono (by decide)) rfl T.gnumber_octets T.knumber_octets T.bnumber_octets .nil pass0 (pa_cons (pe_op op_add (pe_callB call_len_seq (by rfl) T.len PySem.boot_len (pa_cons (pv 1) pa_nil)) pe_int) (pa_cons pe_int pa_nil))) (pv 1)) (pe_lst (pa_cons pe_int pa_nil))) pa_nil))))), ?_⟩
    refine ⟨_, rfl, z, rfl, fun D hD => ?_⟩
    refine lc_dp (walk_str (z := z)) (K := K) (V0 := H) (H0 := H) (fun i => (z.cps[i]?).map fun c : Nat => PyData.int (c : Int)) [some (.str z), none, none] rfl (Same.refl _) hD (by show z.length < 100000; omega) (fun _ _ => trivial) (fun i x H H' y => y.1) ?_ ?_
    · rintro i x U H1 hi xx ⟨_, c, hc, rfl⟩ Qy Qn hy _
      refine ⟨rfl, _, rfl, _, rfl, rfl, ?_⟩
      exact hy _ _ _ _ (by rw [hc]; rfl) (Ext.refl xx.vh) (.int _)
    · rintro U H1 xs xx hDU dl _
      rw [size_eq, show fm (fun i => (z.cps[i]?).map fun c : Nat => PyData.int (c : Int)) z.cps.toList.length = (codesOf z).map PyData.int from by
          unfold codesOf; rw [List.map_map]; exact fm_list _ _ _ rfl _ fun i x hx => by rw [cps_at, hx]; rfl] at dl
      have hlc : (codesOf z).length = z.length := by unfold codesOf; rw [List.length_map]; exact (size_eq z).symm
      have exs := dp_intsV dl
      subst exs
      have h1D := xx.vh _ _ hDU
      have ev : ∀ (l : Int), l = z.length → (z.length : Int) + 1 = l + 1 := fun l e => by omega
      refine ⟨_, rfl, D, _, rfl, .inl (SqL.of h1D), _, _, rfl, rfl, _, 4, rfl, ?_, by decide, fun p H2 hp hs he => ?_⟩
      · omega
      have h2D := hs _ _ h1D
      rw [List.length_map, hlc] at he
      refine ⟨_, rfl, p, D, _, _, rfl, rfl, he, h2D, ?_, fun p3 n3 => ?_⟩
      · rw [List.length_map, List.length_map, octs_len, hlc]; exact len_line (by omega)
      refine ⟨by decide, fun p4 n4 => ?_⟩
      refine ⟨p3, p4, _, _, rfl, rfl, by rw [upd_ne (ne_of_none upd_same n4)]; exact upd_same, upd_same, ?_, fun p5 n5 => ?_⟩
      · rw [List.length_append, List.length_map, List.length_map, octs_len, hlc]; exact len_line (by show 4 + z.length + 1 ≤ _; omega)
      refine ⟨p5, octs (z.length + 1 : Int) 4 ++ codesOf z ++ [0], rfl, ?_, ?_, fun p6 H6 n6 => q p6 H6 ?_⟩
      · rw [upd_same, List.map_append, List.map_append]; rfl
      · rw [List.length_append, List.length_append, octs_len, hlc]; show 4 + z.length + 1 < 90000; omega
      · exact ⟨xx.hh.free (hs.free ((same_upd n3).free ((same_upd n4).free ((same_upd n5).free n6.new)))), xx.hh.trans (hs.trans ((same_upd n3).trans ((same_upd n4).trans ((same_upd n5).trans n6.same)))), n6.at_⟩
/-! ### the kinds -/
inductive NumKind : Str → Int → Int → Prop
  | uint : NumKind "uint" 0 4294967295
  | maybe : NumKind "maybe" 0 4294967295
  | int : NumKind "int" (-2147483648) 2147483647
  | object : NumKind "object" 1 4294967295
  | new : NumKind "new" 1 4294967295
inductive AV
  | num (i : Int)
  | txt (s : Str)
  | oct (xs : List Int)
  | bnd (s : Str) (n : Int)
def ArgAt (K : PySem.W.Frag) (H : Hp) (v : V) : AV → Prop
  | .num i => v = .int i
  | .txt s => v = .str s ∧ s.length < 80000
  | .oct xs => ∃ a, v = .ref a ∧ H a = some (.lst (xs.map V.int)) ∧ xs.length < 80000
  | .bnd s n => ∃ a, v = .ref a ∧ SqT K H a [.str s, .int n] ∧ s.length < 80000
theorem ArgAt.to {K : PySem.W.Frag} {H H' : Hp} {v : V} {x : AV} (h : ArgAt K H v x) (s : Same H H') : ArgAt K H' v x := by
  cases x with
  | num i => exact h
  | txt z => exact h
  | oct xs => obtain ⟨a, e, q, l⟩ := h; exact ⟨a, e, s _ _ q, l⟩
  | bnd z n => obtain ⟨a, e, q, l⟩ := h; exact ⟨a, e, s.sqt q, l⟩
def octsOk (xs : List Int) : Bool := decide (xs.length ≤ 16384) && xs.all fun x => decide (0 ≤ x ∧ x ≤ 255)
inductive ArgSpec : Str → AV → Bool → List Int → Prop
  | num {k : Str} {lo hi i : Int} (h : NumKind k lo hi) : ArgSpec k (.num i) (decide (lo ≤ i ∧ i ≤ hi)) (octs (i % 4294967296) 4)
  | txt {s : Str} : ArgSpec "text" (.txt s) (isText s) (textOcts s)
  | oct {xs : List Int} : ArgSpec "octets" (.oct xs) (octsOk xs) (pad (octs xs.length 4 ++ xs))
  | bnd {s : Str} {n : Int} : ArgSpec "bound" (.bnd s n) (isText s && decide (1 ≤ n ∧ n ≤ 4294967295)) (textOcts s ++ octs n 4)
def sp__are_octets (K : PySem.W.Frag) : Sp := fun vs H Q _ => ∃ (a : Addr) (xs : List Int), vs = [.ref a] ∧ H a = some (.lst (xs.map V.int)) ∧ xs.length < 80000 ∧ ∀ H', Same H H' → Q (.bl (octsOk xs)) H'
theorem sc__are_octets : FnScope ["value", "octet"] ["value"] (defScope s__are_octets) := ⟨rfl, rfl, rfl, by decide +kernel, rfl, by decide +kernel, by decide +kernel⟩
theorem ok__are_octets (T : Txt0 P K mg A) : FnOk P w K mg base CX0 2 A.f_are_octets A.d_are_octets ["value"] (sp__are_octets K) := by
  refine T.F_are_octets.ok sc__are_octets (fun vs H Q E h => ?_) (fun cdv Ar outer s H vs Q E hr h => ?_)
  · obtain ⟨a, xs, rfl, _⟩ := h
    rfl
  · obtain ⟨a, xs, rfl, ha, hl, q⟩ := h
    refine ⟨_, (pss_cons (ps_if (PW.pt (pw_or (pt_not (pt_val (pe_callB call_isi (by rfl) T.isinstance (by decide +kernel) (pa_cons (pv 0) (pa_cons (pe_bltn (v := .ty "list") (by rfl) T.list (by decide +kernel) rfl) pa_nil))))) (pw_or1 (pt_cmpR op_gt (pe_callB call_len_seq (by rfl) T.len PySem.boot_len (pa_cons (pv 0) pa_nil)) (pe_glob (v := .int (16384)) rfl T.gMOST_OCTETS ⟨_, rfl⟩) (nomark _)))))
      (pss_one (ps_ret pe_bl))
      pss_nil)
      (pss_one (ps_ret (pe_callB (cr_all rfl) (by rfl) T.all (by decide +kernel) (pa_cons (pe_lc (own := [("octet", 1)]) (g := (gName 1)) (tt := tYes) rfl sc__are_octets.nd (pi_list (pv 0)) (blkOk_by (own := [("octet", 1)]) (N := ["value", "octet"]) (sc := defScope s__are_octets) (by decide +kernel)) (fun _ _ _ _ _ => (pg_name (i := 1) sc__are_octets.nd rfl (Or.inl rfl))) (fun _ _ _ _ _ => pts_nil) (fun _ _ _ _ _ => by exact (pe_call (ok_is_integer T) (hr.mono (by decide)) rfl T.gis_integer T.kis_integer T.bis_integer .nil pass0 (pa_cons (pv 1) (pa_cons pe_int (pa_cons pe_int pa_nil)))))) pa_nil))))), ?_⟩
    refine ⟨_, rfl, .ref a, .ty "list", .type "list", .type "list", true, rfl, .ty _, tyL (K := K) (SqL.of ha), kit_ty (by decide +kernel), _, rfl, if_f rfl ?_⟩
    refine ⟨_, rfl, a, _, rfl, .inl (SqL.of ha), _, _, rfl, rfl, _, rfl, iteP (fun h => ?_) (fun h => ?_)⟩
    · have := q H (Same.refl H)
      unfold octsOk at this
      rw [List.length_map] at h
      rw [decide_eq_false (show ¬ xs.length ≤ 16384 by omega)] at this
      exact this
    · rw [List.length_map] at h
      refine ⟨_, rfl, a, rfl, ⟨_, SqL.of ha⟩, fun D hD => ?_⟩
      refine lc_dp (walk_list (K := K) (a := a) (xs := xs.map V.int)) (K := K) (V0 := H) (H0 := H) (fun i => (xs[i]?).map fun x => PyData.bool (decide (0 ≤ x ∧ x ≤ 255))) [some (.ref a), none] rfl (Same.refl _) hD (by rw [List.length_map]; omega) (fun H' s => s.seq (SqL.of ha)) (fun i x H H' y => y.1) ?_ ?_
      · rintro i x U H1 hi xx ⟨_, hx⟩ Qy Qn hy _
        rw [List.getElem?_map] at hx
        obtain ⟨z, hz, rfl⟩ := Option.map_eq_some_iff.mp hx
        exact ⟨rfl, _, rfl, z, 0, 255, rfl, hy _ _ _ _ (by rw [hz]; rfl) (Ext.refl xx.vh) (.bl _)⟩
      · rintro U H1 _ xx _ _ dl
        rw [List.length_map, show fm (fun i => (xs[i]?).map fun x => PyData.bool (decide (0 ≤ x ∧ x ≤ 255))) xs.length = (xs.map fun x => decide (0 ≤ x ∧ x ≤ 255)).map PyData.bool from by
          rw [List.map_map]; exact fm_list _ _ _ rfl _ fun i x hx => by rw [hx]; rfl] at dl
        refine ⟨D, _, rfl, xx.vh.seq (dp_boolsL dl), ?_⟩
        have := q _ xx.hh
        unfold octsOk at this
        rw [decide_eq_true (show xs.length ≤ 16384 by omega), Bool.true_and] at this
        rw [List.all_map]; exact this
theorem sc__is_of : FnScope ["kind", "value"] ["kind", "value"] (defScope s__is_of) := ⟨rfl, rfl, rfl, by decide +kernel, rfl, by decide +kernel, by decide +kernel⟩
/-- the kinds but bound -/
def sp_is_of0 (K : PySem.W.Frag) : Sp := fun vs H Q _ => ∃ (kind : Str) (v : V) (x : AV) (ok : Bool) (os : List Int), vs = [.str kind, v] ∧ ArgSpec kind x ok os ∧ kind ≠ "bound" ∧ ArgAt K H v x ∧ ∀ H', Same H H' → Q (.bl ok) H'
theorem ok_is_of0 (T : Txt0 P K mg A) : FnOk P w K mg base CX0 3 A.f_is_of A.d_is_of ["kind", "value"] (sp_is_of0 K) := by
  refine T.F_is_of.ok sc__is_of (fun vs H Q E h => ?_) (fun cdv Ar outer s H vs Q E hr h => ?_)
  · obtain ⟨kind, v, x, ok, os, rfl, _⟩ := h
    rfl
  · obtain ⟨kind, v, x, ok, os, rfl, hk, nb, ha, q⟩ := h
    refine ⟨_, (pss_cons (ps_if (PW.pt (pw_or (pt_cmpR op_eq (pv 0) pe_str (nomark _)) (pw_or1 (pt_cmpR op_eq (pv 0) pe_str (nomark _)))))
      (pss_one (ps_ret (pe_call (ok_is_integer T) (hr.mono (by decide)) rfl T.gis_integer T.kis_integer T.bis_integer .nil pass0 (pa_cons (pv 1) (pa_cons pe_int (pa_cons (pe_glob (v := .int (4294967295)) rfl T.gGREATEST_NUMBER ⟨_, rfl⟩) pa_nil))))))
      pss_nil)
      (pss_cons (ps_if (pt_cmpR op_eq (pv 0) pe_str (nomark _))
      (pss_one (ps_ret (pe_call (ok_is_integer T) (hr.mono (by decide)) rfl T.gis_integer T.kis_integer T.bis_integer .nil pass0 (pa_cons (pv 1) (pa_cons (pe_glob (v := .int (-2147483648)) rfl T.gLEAST_INT ⟨_, rfl⟩) (pa_cons (pe_glob (v := .int (2147483647)) rfl T.gGREATEST_INT ⟨_, rfl⟩) pa_nil))))))
      pss_nil)
      (pss_cons (ps_if (PW.pt (pw_or (pt_cmpR op_eq (pv 0) pe_str (nomark _)) (pw_or1 (pt_cmpR op_eq (pv 0) pe_str (nomark _)))))
      (pss_one (ps_ret (pe_call (ok_is_integer T) (hr.mono (by decide)) rfl T.gis_integer T.kis_integer T.bis_integer .nil pass0 (pa_cons (pv 1) (pa_cons pe_int (pa_cons (pe_glob (v := .int (4294967295)) rfl T.gGREATEST_NUMBER ⟨_, rfl⟩) pa_nil))))))
      pss_nil)
      (pss_cons (ps_if (pt_cmpR op_eq (pv 0) pe_str (nomark _))
      (pss_one (ps_ret (pe_and (pe_callB call_isi (by rfl) T.isinstance (by decide +kernel) (pa_cons (pv 1) (pa_cons (pe_bltn (v := .ty "str") (by rfl) T.str (by decide +kernel) rfl) pa_nil))) (pe_one (pe_call (ok_is_text T) (hr.mono (by decide)) rfl T.gis_text T.kis_text T.bis_text .nil pass0 (pa_cons (pv 1) pa_nil))))))
      pss_nil)
      (pss_cons (ps_if (pt_cmpR op_eq (pv 0) pe_str (nomark _))
      (pss_one (ps_ret (pe_call (ok__are_octets T) (hr.mono (by decide)) rfl T.g_are_octets T.k_are_octets T.b_are_octets .nil pass0 (pa_cons (pv 1) pa_nil))))
      pss_nil)
      (pss_one ps_never)))))), ?_⟩
    have q0 := q H (Same.refl H)
    cases hk with
    | num h =>
      rename_i lo hi i
      obtain rfl : v = .int i := ha
      cases h with
      | uint => exact ⟨_, rfl, rfl, _, rfl, if_t (by decide +kernel) (if_t rfl ⟨_, rfl, _, _, _, rfl, q0⟩)⟩
      | maybe => exact ⟨_, rfl, rfl, _, rfl, if_f (by decide +kernel) ⟨_, rfl, rfl, _, rfl, if_t (by decide +kernel) ⟨_, rfl, _, _, _, rfl, q0⟩⟩⟩
      | int =>
        refine ⟨_, rfl, rfl, _, rfl, if_f (by decide +kernel) ⟨_, rfl, rfl, _, rfl, if_f (by decide +kernel) ?_⟩⟩
        exact ⟨_, rfl, rfl, _, rfl, if_t (by decide +kernel) ⟨_, rfl, _, _, _, rfl, q0⟩⟩
      | object =>
        refine ⟨_, rfl, rfl, _, rfl, if_f (by decide +kernel) ⟨_, rfl, rfl, _, rfl, if_f (by decide +kernel) ?_⟩⟩
        refine ⟨_, rfl, rfl, _, rfl, if_f (by decide +kernel) ⟨_, rfl, rfl, _, rfl, if_t (by decide +kernel) (if_t rfl ⟨_, rfl, _, _, _, rfl, q0⟩)⟩⟩
      | new =>
        refine ⟨_, rfl, rfl, _, rfl, if_f (by decide +kernel) ⟨_, rfl, rfl, _, rfl, if_f (by decide +kernel) ?_⟩⟩
        refine ⟨_, rfl, rfl, _, rfl, if_f (by decide +kernel) ⟨_, rfl, rfl, _, rfl, if_f (by decide +kernel) ⟨_, rfl, rfl, _, rfl, if_t (by decide +kernel) ⟨_, rfl, _, _, _, rfl, q0⟩⟩⟩⟩
    | txt =>
      rename_i s
      obtain ⟨rfl, hl⟩ := ha
      refine ⟨_, rfl, rfl, _, rfl, if_f (by decide +kernel) ⟨_, rfl, rfl, _, rfl, if_f (by decide +kernel) ?_⟩⟩
      refine ⟨_, rfl, rfl, _, rfl, if_f (by decide +kernel) ⟨_, rfl, rfl, _, rfl, if_f (by decide +kernel) ⟨_, rfl, rfl, _, rfl, if_f (by decide +kernel) ?_⟩⟩⟩
      refine ⟨_, rfl, rfl, _, rfl, if_t (by decide +kernel) ?_⟩
      exact ⟨_, rfl, .str s, .ty "str", .type "str", .type "str", true, rfl, .ty _, .base (.str _), kit_ty (by decide +kernel), _, rfl, if_t rfl ⟨_, rfl, s, rfl, by omega, q⟩⟩
    | oct =>
      rename_i xs
      obtain ⟨a, rfl, ha, hl⟩ := ha
      refine ⟨_, rfl, rfl, _, rfl, if_f (by decide +kernel) ⟨_, rfl, rfl, _, rfl, if_f (by decide +kernel) ?_⟩⟩
      refine ⟨_, rfl, rfl, _, rfl, if_f (by decide +kernel) ⟨_, rfl, rfl, _, rfl, if_f (by decide +kernel) ⟨_, rfl, rfl, _, rfl, if_f (by decide +kernel) ?_⟩⟩⟩
      refine ⟨_, rfl, rfl, _, rfl, if_f (by decide +kernel) ?_⟩
      exact ⟨_, rfl, rfl, _, rfl, if_t (by decide +kernel) ⟨_, rfl, a, xs, rfl, ha, hl, q⟩⟩
    | bnd => exact absurd rfl nb
def sp__is_bound (K : PySem.W.Frag) : Sp := fun vs H Q _ => ∃ (a : Addr) (s : Str) (n : Int), vs = [.ref a] ∧ SqT K H a [.str s, .int n] ∧ s.length < 80000 ∧ ∀ H', Same H H' → Q (.bl (isText s && decide (1 ≤ n ∧ n ≤ 4294967295))) H'
theorem sc__is_bound : FnScope ["value"] ["value"] (defScope s__is_bound) := ⟨rfl, rfl, rfl, by decide +kernel, rfl, by decide +kernel, by decide +kernel⟩
theorem ok__is_bound (T : Txt0 P K mg A) : FnOk P w K mg base CX0 4 A.f_is_bound A.d_is_bound ["value"] (sp__is_bound K) := by
  refine T.F_is_bound.ok sc__is_bound (fun vs H Q E h => ?_) (fun cdv Ar outer s H vs Q E hr h => ?_)
  · obtain ⟨a, s, n, rfl, _⟩ := h
    rfl
  · obtain ⟨a, z, n, rfl, ha, hl, q⟩ := h
    have ok__is_of : ∀ {A' : Adr} (T : Txt0 P K mg A'), FnOk P w K mg base CX0 3 A'.f_is_of A'.d_is_of ["kind", "value"] (sp_is_of0 K) := fun T => ok_is_of0 T
    refine ⟨_, (pss_cons (ps_if (PW.pt (pw_or (pt_not (pt_val (pe_callB call_isi (by rfl) T.isinstance (by decide +kernel) (pa_cons (pv 0) (pa_cons (pe_bltn (v := .ty "tuple") (by rfl) T.tuple (by decide +kernel) rfl) pa_nil))))) (pw_or1 (pt_cmpR op_ne (pe_callB call_len_seq (by rfl) T.len PySem.boot_len (pa_cons (pv 0) pa_nil)) pe_int (nomark _)))))
      (pss_one (ps_ret pe_bl))
      pss_nil)
      (pss_one (ps_ret (pe_and (pe_call (ok__is_of T) (hr.mono (by decide)) rfl T.g_is_of T.k_is_of T.b_is_of .nil pass0 (pa_cons pe_str (pa_cons (pe_ix (r := rIxT K) ix_tup (pv 0) pe_int (fun _ _ => rfl)) pa_nil))) (pe_one (pe_call (ok__is_of T) (hr.mono (by decide)) rfl T.g_is_of T.k_is_of T.b_is_of .nil pass0 (pa_cons pe_str (pa_cons (pe_ix (r := rIxT K) ix_tup (pv 0) pe_int (fun _ _ => rfl)) pa_nil)))))))), ?_⟩
    refine ⟨_, rfl, .ref a, .ty "tuple", .type "tuple", .type "tuple", true, rfl, .ty _, tyT ha, kit_ty (by decide +kernel), _, rfl, if_f rfl ?_⟩
    refine ⟨_, rfl, a, _, rfl, .inr ha, rfl, _, rfl, if_f rfl ?_⟩
    refine ⟨_, rfl, a, _, 0, .str z, rfl, rfl, ha, atI_nat (j := 0) rfl, "text", .str z, .txt z, isText z, _, rfl, .txt, by decide +kernel, ⟨rfl, hl⟩, fun H' s => ⟨_, rfl, if_b (fun c => ?_) (fun c => ?_)⟩⟩
    · refine ⟨_, rfl, a, _, 1, .int n, rfl, rfl, s.sqt ha, atI_nat (j := 1) rfl, "new", .int n, .num n, _, _, rfl, .num .new, by decide +kernel, rfl, fun H2 s2 => ?_⟩
      have := q H2 (s.trans s2)
      rw [c, Bool.true_and] at this
      exact this
    · have := q H' s
      rw [c, Bool.false_and] at this
      exact this
def sp__is_of (K : PySem.W.Frag) : Sp := fun vs H Q _ => ∃ (kind : Str) (v : V) (x : AV) (ok : Bool) (os : List Int), vs = [.str kind, v] ∧ ArgSpec kind x ok os ∧ ArgAt K H v x ∧ ∀ H', Same H H' → Q (.bl ok) H'
theorem ok__is_of (T : Txt0 P K mg A) : FnOk P w K mg base CX0 5 A.f_is_of A.d_is_of ["kind", "value"] (sp__is_of K) := by
  refine T.F_is_of.ok sc__is_of (fun vs H Q E h => ?_) (fun cdv Ar outer s H vs Q E hr h => ?_)
  · obtain ⟨kind, v, x, ok, os, rfl, _⟩ := h
    rfl
  · obtain ⟨kind, v, x, ok, os, rfl, hk, ha, q⟩ := h
    refine ⟨_, (pss_cons (ps_if (PW.pt (pw_or (pt_cmpR op_eq (pv 0) pe_str (nomark _)) (pw_or1 (pt_cmpR op_eq (pv 0) pe_str (nomark _)))))
      (pss_one (ps_ret (pe_call (ok_is_integer T) (hr.mono (by decide)) rfl T.gis_integer T.kis_integer T.bis_integer .nil pass0 (pa_cons (pv 1) (pa_cons pe_int (pa_cons (pe_glob (v := .int (4294967295)) rfl T.gGREATEST_NUMBER ⟨_, rfl⟩) pa_nil))))))
      pss_nil)
      (pss_cons (ps_if (pt_cmpR op_eq (pv 0) pe_str (nomark _))
      (pss_one (ps_ret (pe_call (ok_is_integer T) (hr.mono (by decide)) rfl T.gis_integer T.kis_integer T.bis_integer .nil pass0 (pa_cons (pv 1) (pa_cons (pe_glob (v := .int (-2147483648)) rfl T.gLEAST_INT ⟨_, rfl⟩) (pa_cons (pe_glob (v := .int (2147483647)) rfl T.gGREATEST_INT ⟨_, rfl⟩) pa_nil))))))
      pss_nil)
      (pss_cons (ps_if (PW.pt (pw_or (pt_cmpR op_eq (pv 0) pe_str (nomark _)) (pw_or1 (pt_cmpR op_eq (pv 0) pe_str (nomark _)))))
      (pss_one (ps_ret (pe_call (ok_is_integer T) (hr.mono (by decide)) rfl T.gis_integer T.kis_integer T.bis_integer .nil pass0 (pa_cons (pv 1) (pa_cons pe_int (pa_cons (pe_glob (v := .int (4294967295)) rfl T.gGREATEST_NUMBER ⟨_, rfl⟩) pa_nil))))))
      pss_nil)
      (pss_cons (ps_if (pt_cmpR op_eq (pv 0) pe_str (nomark _))
      (pss_one (ps_ret (pe_and (pe_callB call_isi (by rfl) T.isinstance (by decide +kernel) (pa_cons (pv 1) (pa_cons (pe_bltn (v := .ty "str") (by rfl) T.str (by decide +kernel) rfl) pa_nil))) (pe_one (pe_call (ok_is_text T) (hr.mono (by decide)) rfl T.gis_text T.kis_text T.bis_text .nil pass0 (pa_cons (pv 1) pa_nil))))))
      pss_nil)
      (pss_cons (ps_if (pt_cmpR op_eq (pv 0) pe_str (nomark _))
      (pss_one (ps_ret (pe_call (ok__are_octets T) (hr.mono (by decide)) rfl T.g_are_octets T.k_are_octets T.b_are_octets .nil pass0 (pa_cons (pv 1) pa_nil))))
      pss_nil)
      (pss_one (ps_ret (pe_and (pe_cmpR op_eq (pv 0) pe_str (nomark _)) (pe_one (pe_call (ok__is_bound T) (hr.mono (by decide)) rfl T.g_is_bound T.k_is_bound T.b_is_bound .nil pass0 (pa_cons (pv 1) pa_nil))))))))))), ?_⟩
    have q0 := q H (Same.refl H)
    cases hk with
    | num h =>
      rename_i lo hi i
      obtain rfl : v = .int i := ha
      cases h with
      | uint => exact ⟨_, rfl, rfl, _, rfl, if_t (by decide +kernel) (if_t rfl ⟨_, rfl, _, _, _, rfl, q0⟩)⟩
      | maybe => exact ⟨_, rfl, rfl, _, rfl, if_f (by decide +kernel) ⟨_, rfl, rfl, _, rfl, if_t (by decide +kernel) ⟨_, rfl, _, _, _, rfl, q0⟩⟩⟩
      | int =>
        refine ⟨_, rfl, rfl, _, rfl, if_f (by decide +kernel) ⟨_, rfl, rfl, _, rfl, if_f (by decide +kernel) ?_⟩⟩
        exact ⟨_, rfl, rfl, _, rfl, if_t (by decide +kernel) ⟨_, rfl, _, _, _, rfl, q0⟩⟩
      | object =>
        refine ⟨_, rfl, rfl, _, rfl, if_f (by decide +kernel) ⟨_, rfl, rfl, _, rfl, if_f (by decide +kernel) ?_⟩⟩
        refine ⟨_, rfl, rfl, _, rfl, if_f (by decide +kernel) ⟨_, rfl, rfl, _, rfl, if_t (by decide +kernel) (if_t rfl ⟨_, rfl, _, _, _, rfl, q0⟩)⟩⟩
      | new =>
        refine ⟨_, rfl, rfl, _, rfl, if_f (by decide +kernel) ⟨_, rfl, rfl, _, rfl, if_f (by decide +kernel) ?_⟩⟩
        refine ⟨_, rfl, rfl, _, rfl, if_f (by decide +kernel) ⟨_, rfl, rfl, _, rfl, if_f (by decide +kernel) ⟨_, rfl, rfl, _, rfl, if_t (by decide +kernel) ⟨_, rfl, _, _, _, rfl, q0⟩⟩⟩⟩
    | txt =>
      rename_i s
      obtain ⟨rfl, hl⟩ := ha
      refine ⟨_, rfl, rfl, _, rfl, if_f (by decide +kernel) ⟨_, rfl, rfl, _, rfl, if_f (by decide +kernel) ?_⟩⟩
      refine ⟨_, rfl, rfl, _, rfl, if_f (by decide +kernel) ⟨_, rfl, rfl, _, rfl, if_f (by decide +kernel) ⟨_, rfl, rfl, _, rfl, if_f (by decide +kernel) ?_⟩⟩⟩
      refine ⟨_, rfl, rfl, _, rfl, if_t (by decide +kernel) ?_⟩
      exact ⟨_, rfl, .str s, .ty "str", .type "str", .type "str", true, rfl, .ty _, .base (.str _), kit_ty (by decide +kernel), _, rfl, if_t rfl ⟨_, rfl, s, rfl, by omega, q⟩⟩
    | oct =>
      rename_i xs
      obtain ⟨a, rfl, ha, hl⟩ := ha
      refine ⟨_, rfl, rfl, _, rfl, if_f (by decide +kernel) ⟨_, rfl, rfl, _, rfl, if_f (by decide +kernel) ?_⟩⟩
      refine ⟨_, rfl, rfl, _, rfl, if_f (by decide +kernel) ⟨_, rfl, rfl, _, rfl, if_f (by decide +kernel) ⟨_, rfl, rfl, _, rfl, if_f (by decide +kernel) ?_⟩⟩⟩
      refine ⟨_, rfl, rfl, _, rfl, if_f (by decide +kernel) ?_⟩
      exact ⟨_, rfl, rfl, _, rfl, if_t (by decide +kernel) ⟨_, rfl, a, xs, rfl, ha, hl, q⟩⟩
    | bnd =>
      rename_i z n
      obtain ⟨a, rfl, ha, hl⟩ := ha
      refine ⟨_, rfl, rfl, _, rfl, if_f (by decide +kernel) ⟨_, rfl, rfl, _, rfl, if_f (by decide +kernel) ?_⟩⟩
      refine ⟨_, rfl, rfl, _, rfl, if_f (by decide +kernel) ⟨_, rfl, rfl, _, rfl, if_f (by decide +kernel) ⟨_, rfl, rfl, _, rfl, if_f (by decide +kernel) ?_⟩⟩⟩
      refine ⟨_, rfl, rfl, _, rfl, if_f (by decide +kernel) ?_⟩
      refine ⟨_, rfl, rfl, _, rfl, if_f (by decide +kernel) ?_⟩
      exact ⟨_, rfl, rfl, _, rfl, if_t (by decide +kernel) ⟨_, rfl, a, z, n, rfl, ha, hl, q⟩⟩
/-- field_octets: a new list, or BadMessage -/
def sp_field_octets (K : PySem.W.Frag) (C : Addr) : Sp := fun vs H Q E => ∃ (kind : Str) (v : V) (x : AV) (ok : Bool) (os : List Int), vs = [.str kind, v] ∧ ArgSpec kind x ok os ∧ ArgAt K H v x ∧
  (ok = true → ∀ p H', NewL H H' p (os.map V.int) → Q (.ref p) H') ∧ (ok = false → ∀ H', Same H H' → E (.ref C) none H')
theorem sc_field_octets : FnScope ["kind", "value", "text", "number"] ["kind", "value"] (defScope s_field_octets) := ⟨rfl, rfl, rfl, by decide +kernel, rfl, by decide +kernel, by decide +kernel⟩
theorem ok_field_octets (T : Txt0 P K mg A) : FnOk P w K mg base (L2.CX P w) 6 A.ffield_octets A.dfield_octets ["kind", "value"] (sp_field_octets K A.CBadMessage) := by
  refine T.Ffield_octets.okX sc_field_octets (fun vs H Q E h => ?_) (fun cdv Ar outer s H vs Q E hr h => ?_)
  · obtain ⟨kind, v, x, ok, os, rfl, _⟩ := h
    rfl
  · obtain ⟨kind, v, x, ok, os, rfl, hk, ha, q, e⟩ := h
    refine ⟨_, (pss_cons (ps_if (pt_not (pt_val (pe_call (ok__is_of T) (hr.mono (by decide)) rfl T.g_is_of T.k_is_of T.b_is_of .nil pass0 (pa_cons (pv 0) (pa_cons (pv 1) pa_nil)))))
      (pss_one (ps_raise rfl (takes_of rfl rfl rfl rfl) (pmk_own PySem.F.excBase_ValueError T.xBadMessage T.gBadMessage T.kBadMessage (raises_own T.bxBadMessage T.txBadMessage) rfl)))
      pss_nil)
      (pss_cons (ps_if (pt_cmpR op_eq (pv 0) pe_str (nomark _))
      (pss_one (ps_ret (pe_call (ok__text_octets T) (hr.mono (by decide)) rfl T.g_text_octets T.k_text_octets T.b_text_octets .nil pass0 (pa_cons (pv 1) pa_nil))))
      pss_nil)
      (pss_cons (ps_if (pt_cmpR op_eq (pv 0) pe_str (nomark _))
      (pss_one (ps_ret (pe_call (ok__padded T) (hr.mono (by decide)) rfl T.g_padded T.k_padded T.b_padded .nil pass0 (pa_cons (pe_op op_cat (pe_call (ok_number_octets T) (hr.mono (by decide)) rfl T.gnumber_octets T.knumber_octets T.bnumber_octets .nil pass0 (pa_cons (pe_callB call_len_seq (by rfl) T.len PySem.boot_len (pa_cons (pv 1) pa_nil)) (pa_cons pe_int pa_nil))) (pv 1)) pa_nil))))
      pss_nil)
      (pss_cons (ps_if (pt_cmpR op_eq (pv 0) pe_str (nomark _))
      (pss_cons (ps_asg (pv 1) (pg_tup rfl (pgs_cons (pg_name (i := 2) sc_field_octets.nd rfl (Or.inl rfl)) (pgs_cons (pg_name (i := 3) sc_field_octets.nd rfl (Or.inl rfl)) pgs_nil))))
      (pss_one (ps_ret (pe_op op_cat (pe_call (ok__text_octets T) (hr.mono (by decide)) rfl T.g_text_octets T.k_text_octets T.b_text_octets .nil pass0 (pa_cons (pv 2) pa_nil)) (pe_call (ok_number_octets T) (hr.mono (by decide)) rfl T.gnumber_octets T.knumber_octets T.bnumber_octets .nil pass0 (pa_cons (pv 3) (pa_cons pe_int pa_nil)))))))
      pss_nil)
      (pss_one (ps_ret (pe_call (ok_number_octets T) (hr.mono (by decide)) rfl T.gnumber_octets T.knumber_octets T.bnumber_octets .nil pass0 (pa_cons (pe_op op_mod (pv 1) (pe_op op_pow pe_int pe_int)) (pa_cons pe_int pa_nil))))))))), ?_⟩
    refine ⟨_, rfl, _, rfl, kind, v, x, ok, os, rfl, hk, ha, fun H1 s1 => ⟨_, rfl, if_b (fun c => ?_) (fun c => ?_)⟩⟩
    · refine e ?_ H1 s1
      cases ok
      · rfl
      · cases c
    have hok : ok = true := by cases ok; · cases c
                               · rfl
    replace q : ∀ p H', NewL H H' p (os.map V.int) → Q (.ref p) H' := q hok
    replace ha := ha.to s1
    clear e c
    cases hk with
    | num h =>
      rename_i lo hi i
      obtain rfl : v = .int i := ha
      have hne : kind ≠ "text" ∧ kind ≠ "octets" ∧ kind ≠ "bound" := by cases h <;> exact ⟨by decide +kernel, by decide +kernel, by decide +kernel⟩
      refine ⟨_, rfl, rfl, _, rfl, if_f (decide_eq_false fun z => hne.1 (V.str.inj z)) ?_⟩
      refine ⟨_, rfl, rfl, _, rfl, if_f (decide_eq_false fun z => hne.2.1 (V.str.inj z)) ?_⟩
      refine ⟨_, rfl, rfl, _, rfl, if_f (decide_eq_false fun z => hne.2.2 (V.str.inj z)) ?_⟩
      refine ⟨_, rfl, _, _, rfl, rfl, ⟨by decide, by decide, by decide⟩, _, _, rfl, rfl, by show (0 : Int) < 2 ^ (32 : Int).toNat; decide +kernel, ?_⟩
      have e2 : i % 2 ^ (32 : Int).toNat = i % 4294967296 := by rw [show (2 : Int) ^ (32 : Int).toNat = 4294967296 by decide +kernel]
      refine ⟨_, 4, rfl, ?_, by decide, ?_⟩
      · rw [e2]; omega
      · rw [e2]; exact fun p H' hp hs he => q p H' ⟨s1.free hp, s1.trans hs, he⟩
    | txt =>
      rename_i z
      obtain ⟨rfl, hl⟩ := ha
      refine ⟨_, rfl, rfl, _, rfl, if_t (by decide +kernel) ⟨_, rfl, z, rfl, hl, fun p H' n => q p H' ⟨s1.free n.new, s1.trans n.same, n.at_⟩⟩⟩
    | oct =>
      rename_i xs
      obtain ⟨a, rfl, ha, hl⟩ := ha
      refine ⟨_, rfl, rfl, _, rfl, if_f (by decide +kernel) ⟨_, rfl, rfl, _, rfl, if_t (by decide +kernel) ?_⟩⟩
      refine ⟨_, rfl, a, _, rfl, .inl (SqL.of ha), _, 4, rfl, by omega, by decide, fun p H2 hp hs he => ?_⟩
      rw [List.length_map] at he
      refine ⟨_, rfl, p, a, _, _, rfl, rfl, he, hs _ _ ha, ?_, fun p3 n3 => ?_⟩
      · rw [List.length_map, List.length_map, octs_len]; exact len_line (by omega)
      refine ⟨p3, octs xs.length 4 ++ xs, rfl, by rw [upd_same, List.map_append], by rw [List.length_append, octs_len]; omega, fun p4 H4 n4 => q p4 H4 ?_⟩
      exact ⟨s1.free (hs.free ((same_upd n3).free n4.new)), s1.trans (hs.trans ((same_upd n3).trans n4.same)), n4.at_⟩
    | bnd =>
      rename_i z n
      obtain ⟨a, rfl, ha, hl⟩ := ha
      refine ⟨_, rfl, rfl, _, rfl, if_f (by decide +kernel) ⟨_, rfl, rfl, _, rfl, if_f (by decide +kernel) ⟨_, rfl, rfl, _, rfl, if_t (by decide +kernel) ?_⟩⟩⟩
      refine ⟨_, rfl, a, _, rfl, ha, rfl, _, _, rfl, _, _, rfl, rfl, ?_⟩
      refine ⟨_, rfl, z, rfl, hl, fun p2 H2 n2 => ?_⟩
      refine ⟨_, rfl, n, 4, rfl, ?_, by decide, fun p3 H3 n3 s3 e3 => ?_⟩
      · have h2 := (Bool.and_eq_true_iff.mp hok).2
        have h3 := of_decide_eq_true h2
        omega
      refine ⟨p2, p3, _, _, rfl, rfl, s3 _ _ n2.at_, e3, ?_, fun p4 n4 => q p4 _ ⟨?_, ?_, ?_⟩⟩
      · rw [List.length_map, List.length_map, octs_len]; have := textOcts_len z; exact len_line (by omega)
      · exact s1.free (n2.same.free (s3.free n4))
      · exact s1.trans (n2.same.trans (s3.trans (same_upd n4)))
      · rw [upd_same, List.map_append]
/-! ### arguments: kind, value, octets -/
structure Arg where
  kind : Str
  val : AV
  os : List Int
def bodyOf (args : List Arg) : List Int := args.flatMap Arg.os
theorem body_take {args : List Arg} {i : Nat} {g : Arg} (h : args[i]? = some g) : bodyOf (args.take (i + 1)) = bodyOf (args.take i) ++ g.os := fl_take' Arg.os args i g h
theorem body_le (args : List Arg) (i : Nat) : (bodyOf (args.take i)).length ≤ (bodyOf args).length := fl_le' Arg.os args i
theorem body_len_le {args : List Arg} {c : Nat} (h : ∀ g ∈ args, g.os.length ≤ c) : (bodyOf args).length ≤ c * args.length := by
  induction args with
  | nil => exact Nat.zero_le _
  | cons g r ih =>
    show (g.os ++ bodyOf r).length ≤ c * (r.length + 1)
    rw [List.length_append, Nat.mul_succ]
    have := ih fun x hx => h x (List.mem_cons_of_mem _ hx)
    have := h g List.mem_cons_self
    omega
/-! ### encode_message -/
/-- the list of the arguments, all of them of their kinds -/
structure ArgsAt (K : PySem.W.Frag) (H : Hp) (a : Addr) (args : List Arg) : Prop where
  ex : ∃ xs : List V, SqL K H a xs ∧ xs.length = args.length ∧ ∀ (i : Nat) (x : V), xs[i]? = some x → ∃ (g : Arg) (t : Addr) (v : V), args[i]? = some g ∧ x = .ref t ∧ SqT K H t [.str g.kind, v] ∧ ArgAt K H v g.val
  ok : ∀ g ∈ args, ArgSpec g.kind g.val true g.os
theorem ArgsAt.to {K : PySem.W.Frag} {H H' : Hp} {a : Addr} {args : List Arg} (h : ArgsAt K H a args) (s : Same H H') : ArgsAt K H' a args := by
  obtain ⟨xs, h1, h2, h3⟩ := h.ex
  refine ⟨⟨xs, s.seq h1, h2, fun i x hx => ?_⟩, h.ok⟩
  obtain ⟨g, t, v, e1, e2, e3, e4⟩ := h3 i x hx
  exact ⟨g, t, v, e1, e2, s.sqt e3, e4.to s⟩
def msgOcts (n o : Int) (body : List Int) : List Int := octs n 4 ++ octs o 2 ++ octs ((8 + body.length : Nat) : Int) 2 ++ body
def encBad (n o : Int) (args : List Arg) : Prop := ¬ (1 ≤ n ∧ n ≤ 4294967295) ∨ ¬ (0 ≤ o ∧ o ≤ 65535) ∨ 20 < args.length
def encLong (args : List Arg) : Prop := 20480 < 8 + (bodyOf args).length
def sp_encode_message (K : PySem.W.Frag) (B L : Addr) : Sp := fun vs H Q E => ∃ (n o : Int) (a : Addr) (args : List Arg), vs = [.int n, .int o, .ref a] ∧ ArgsAt K H a args ∧ (bodyOf args).length < 60000 ∧ args.length < 60000 ∧
  (encBad n o args → ∀ H', Same H H' → E (.ref B) none H') ∧ (¬ encBad n o args → encLong args → ∀ H', Same H H' → E (.ref L) none H') ∧
  (¬ encBad n o args → ¬ encLong args → ∀ p H', NewL H H' p ((msgOcts n o (bodyOf args)).map V.int) → Q (.ref p) H')
theorem sc_encode_message : FnScope ["number", "opcode", "arguments", "body", "kind", "value", "size"] ["number", "opcode", "arguments"] (defScope s_encode_message) := ⟨rfl, rfl, rfl, by decide +kernel, rfl, by decide +kernel, by decide +kernel⟩
theorem ok_encode_message (T : Txt0 P K mg A) : FnOk P w K mg base (L2.CX P w) 7 A.fencode_message A.dencode_message ["number", "opcode", "arguments"] (sp_encode_message K A.CBadMessage A.CMessageTooLong) := by
  refine T.Fencode_message.okX sc_encode_message (fun vs H Q E h => ?_) (fun cdv Ar outer s H vs Q E hr h => ?_)
  · obtain ⟨n, o, a, args, rfl, _⟩ := h
    rfl
  · obtain ⟨n, o, a, args, rfl, hA, hb, hl, qb, ql, q⟩ := h
    obtain ⟨xs, hS, hxl, hx⟩ := hA.ex
    refine ⟨_, (pss_cons (ps_if (pt_not (pt_val (pe_call (ok_is_integer T) (hr.mono (by decide)) rfl T.gis_integer T.kis_integer T.bis_integer .nil pass0 (pa_cons (pv 0) (pa_cons pe_int (pa_cons (pe_glob (v := .int (4294967295)) rfl T.gGREATEST_NUMBER ⟨_, rfl⟩) pa_nil))))))
      (pss_one (ps_raise rfl (takes_of rfl rfl rfl rfl) (pmk_own PySem.F.excBase_ValueError T.xBadMessage T.gBadMessage T.kBadMessage (raises_own T.bxBadMessage T.txBadMessage) rfl)))
      pss_nil)
      (pss_cons (ps_if (pt_not (pt_val (pe_call (ok_is_integer T) (hr.mono (by decide)) rfl T.gis_integer T.kis_integer T.bis_integer .nil pass0 (pa_cons (pv 1) (pa_cons pe_int (pa_cons (pe_glob (v := .int (65535)) rfl T.gGREATEST_OPCODE ⟨_, rfl⟩) pa_nil))))))
      (pss_one (ps_raise rfl (takes_of rfl rfl rfl rfl) (pmk_own PySem.F.excBase_ValueError T.xBadMessage T.gBadMessage T.kBadMessage (raises_own T.bxBadMessage T.txBadMessage) rfl)))
      pss_nil)
      (pss_cons (ps_if (pt_cmpR op_gt (pe_callB call_len_seq (by rfl) T.len PySem.boot_len (pa_cons (pv 2) pa_nil)) (pe_glob (v := .int (20)) rfl T.gMOST_ARGUMENTS ⟨_, rfl⟩) (nomark _))
      (pss_one (ps_raise rfl (takes_of rfl rfl rfl rfl) (pmk_own PySem.F.excBase_ValueError T.xBadMessage T.gBadMessage T.kBadMessage (raises_own T.bxBadMessage T.txBadMessage) rfl)))
      pss_nil)
      (pss_cons (ps_set (i := 3) sc_encode_message.nd rfl (Or.inl rfl) (pe_lst pa_nil))
      (pss_cons (ps_for (passes_of rfl) rfl (pi_list (pv 2)) (pg_tup rfl (pgs_cons (pg_name (i := 4) sc_encode_message.nd rfl (Or.inl rfl)) (pgs_cons (pg_name (i := 5) sc_encode_message.nd rfl (Or.inl rfl)) pgs_nil)))
      (pss_one (ps_expr (pe_bm PySem.F.plainAttrs_list PySem.F.slot_list_extend PySem.F.type_list_extend mt_extend (pv 3) (pa_cons (pe_call (ok_field_octets T) (hr.mono (by decide)) rfl T.gfield_octets T.kfield_octets T.bfield_octets .nil (passes_call (takes_of rfl rfl rfl rfl) (fun _ _ _ _ h => h)) (pa_cons (pv 4) (pa_cons (pv 5) pa_nil))) pa_nil)))))
      (pss_cons (ps_set (i := 6) sc_encode_message.nd rfl (Or.inl rfl) (pe_op op_add (pe_glob (v := .int (8)) rfl T.gHEADER_SIZE ⟨_, rfl⟩) (pe_callB call_len_seq (by rfl) T.len PySem.boot_len (pa_cons (pv 3) pa_nil))))
      (pss_cons (ps_if (pt_cmpR op_gt (pv 6) (pe_glob (v := .int (20480)) rfl T.gGREATEST_SIZE ⟨_, rfl⟩) (nomark _))
      (pss_one (ps_raise rfl (takes_of rfl rfl rfl rfl) (pmk_own PySem.F.excBase_ValueError T.xMessageTooLong T.gMessageTooLong T.kMessageTooLong (raises_own T.bxMessageTooLong T.txMessageTooLong) rfl)))
      pss_nil)
      (pss_one (ps_ret (pe_op op_cat (pe_op op_cat (pe_op op_cat (pe_call (ok_number_octets T) (hr.mono (by decide)) rfl T.gnumber_octets T.knumber_octets T.bnumber_octets .nil pass0 (pa_cons (pv 0) (pa_cons pe_int pa_nil))) (pe_call (ok_number_octets T) (hr.mono (by decide)) rfl T.gnumber_octets T.knumber_octets T.bnumber_octets .nil pass0 (pa_cons (pv 1) (pa_cons pe_int pa_nil)))) (pe_call (ok_number_octets T) (hr.mono (by decide)) rfl T.gnumber_octets T.knumber_octets T.bnumber_octets .nil pass0 (pa_cons (pv 6) (pa_cons pe_int pa_nil)))) (pv 3))))))))))), ?_⟩
    refine ⟨_, rfl, n, 1, 4294967295, rfl, _, rfl, iteN (fun c => qb (Or.inl c) H (Same.refl H)) (fun c1 => ?_)⟩
    refine ⟨_, rfl, o, 0, 65535, rfl, _, rfl, iteN (fun c => qb (Or.inr (Or.inl c)) H (Same.refl H)) (fun c2 => ?_)⟩
    refine ⟨_, rfl, a, _, rfl, .inl hS, _, _, rfl, rfl, _, rfl, iteP (fun c => qb (Or.inr (Or.inr (by omega))) H (Same.refl H)) (fun c3 => ?_)⟩
    have nb : ¬ encBad n o args := fun z => by
      rcases z with z | z | z
      · exact z c1
      · exact z c2
      · omega
    refine ⟨by decide, fun p hp => ?_⟩
    refine ⟨_, rfl, a, rfl, ⟨_, (same_upd hp).seq hS⟩, for_list (K := K) (a := a) (xs := xs) (fun i σ H' => ∃ v4 v5 : Option V, σ = [some (.int n), some (.int o), some (.ref a), some (.ref p), v4, v5, none] ∧ Same H H' ∧ H' p = some (.lst ((bodyOf (args.take i)).map V.int)))
      ⟨_, _, rfl, same_upd hp, upd_same⟩ (fun i σ H' _ ⟨_, _, _, s, _⟩ => s.seq hS) ?_ ?_⟩
    · rintro i x σ H1 hi ⟨v4, v5, rfl, s1, e1⟩
      obtain ⟨g, t, v, hg, rfl, ht, hv⟩ := hx i x hi
      refine ⟨t, _, rfl, s1.sqt ht, rfl, _, _, rfl, _, _, rfl, rfl, ?_⟩
      refine ⟨_, rfl, .inl ⟨rfl, _, SqL.of e1⟩, ?_⟩
      refine ⟨_, rfl, _, rfl, g.kind, v, g.val, true, g.os, rfl, hA.ok g (List.mem_of_getElem? hg), hv.to s1, fun _ p2 H2 n2 => ?_, fun z => nomatch z⟩
      have e2 := n2.same _ _ e1
      have hbt := body_take hg
      have hbl := body_le args (i + 1)
      rw [hbt, List.length_append] at hbl
      refine ⟨p, p2, _, _, rfl, rfl, e2, n2.at_, ?_, ?_⟩
      · rw [List.length_map, List.length_map]; exact len_line (by omega)
      refine ⟨_, _, rfl, fun b u e => ?_, ?_⟩
      · rw [upd_ne (ne_of_none e hp)]; exact n2.same _ _ (s1 b u e)
      · rw [upd_same, hbt, List.map_append]
    · rintro σ H1 ⟨v4, v5, rfl, s1, e1⟩
      rw [hxl, List.take_length] at e1
      refine ⟨_, rfl, p, _, rfl, .inl (SqL.of e1), _, _, rfl, rfl, ?_⟩
      rw [List.length_map]
      have ec : (8 : Int) + ((bodyOf args).length : Int) = ((8 + (bodyOf args).length : Nat) : Int) := by omega
      refine ⟨_, rfl, _, _, rfl, rfl, _, rfl, iteP (fun c => ?_) (fun c => ?_)⟩
      · exact ql nb (by show 20480 < _; have : (20480 : Int) < 8 + ((bodyOf args).length : Int) := c; omega) H1 s1
      have nl : ¬ encLong args := fun z => c (by show (20480 : Int) < 8 + ((bodyOf args).length : Int); have : 20480 < 8 + (bodyOf args).length := z; omega)
      refine ⟨_, rfl, n, 4, rfl, by omega, by decide, fun p2 H2 h2 s2 e2 => ?_⟩
      refine ⟨_, rfl, o, 2, rfl, by omega, by decide, fun p3 H3 h3 s3 e3 => ?_⟩
      refine ⟨p2, p3, _, _, rfl, rfl, s3 _ _ e2, e3, ?_, fun p4 h4 => ?_⟩
      · rw [List.length_map, List.length_map, octs_len, octs_len]; exact len_line (by decide)
      refine ⟨_, rfl, ((8 + (bodyOf args).length : Nat) : Int), 2, ?_, by omega, by decide, fun p5 H5 h5 s5 e5 => ?_⟩
      · exact congrArg (fun z => [V.int z, V.int 2]) ec
      refine ⟨p4, p5, _, _, rfl, rfl, s5 _ _ upd_same, e5, ?_, fun p6 h6 => ?_⟩
      · rw [List.length_append, List.length_map, List.length_map, List.length_map, octs_len, octs_len, octs_len]; exact len_line (by decide)
      have e1' := same_upd (o := .lst ((octs n 4).map V.int ++ (octs o 2).map V.int ++ (octs ((8 + (bodyOf args).length : Nat) : Int) 2).map V.int)) h6 _ _ (s5 _ _ (same_upd (o := .lst ((octs n 4).map V.int ++ (octs o 2).map V.int)) h4 _ _ (s3 _ _ (s2 _ _ e1))))
      refine ⟨_, rfl, p6, p, _, _, rfl, rfl, upd_same, e1', ?_, fun p7 h7 => q nb nl p7 _ ⟨?_, ?_, ?_⟩⟩
      · rw [List.length_append, List.length_append, List.length_map, List.length_map, List.length_map, List.length_map, octs_len, octs_len, octs_len]; exact len_line (by omega)
      · exact s1.free (s2.free (s3.free ((same_upd h4).free (s5.free ((same_upd h6).free h7)))))
      · exact s1.trans (s2.trans (s3.trans ((same_upd h4).trans (s5.trans ((same_upd h6).trans (same_upd h7))))))
      · rw [upd_same]
        unfold msgOcts
        rw [List.map_append, List.map_append, List.map_append]
/-! ### a rule: a walk of zip of a tuple and a list -/
section
open PySem.Spec PyProof.Rows
def ItzM (K : PySem.W.Frag) (a b : Addr) : It :=
  ⟨fun i H => ∃ (xs ys : List V) (x y : V), SqT K H a xs ∧ SqL K H b ys ∧ xs[i]? = some x ∧ ys[i]? = some y,
    fun i H v H' => ∃ T x y, v = .ref T ∧ H T = none ∧ H' = upd H T (.tup [x, y]) ∧ (∀ xs, SqT K H a xs → xs[i]? = some x) ∧ ∀ ys, SqL K H b ys → ys[i]? = some y,
    fun i H => ∃ xs ys : List V, SqT K H a xs ∧ SqL K H b ys ∧ i ≤ xs.length ∧ i ≤ ys.length ∧ (i = xs.length ∨ i = ys.length)⟩
theorem sepM {z TI TO i1 i2 a b : Addr} (D : ZipApart z TI TO i1 i2 a b) : ZipSep2 z TI TO i1 i2 [i1, a] [i2, b] where
  TIz := D.TIz
  TOz := D.TOz
  TITO := D.TITO
  TIi1 := D.TIi1
  mem1 := by simp
  zf1 := by simp only [List.mem_cons, List.not_mem_nil, or_false]; exact fun h => h.elim D.i1z.symm D.l1z.symm
  Tf1 := by simp only [List.mem_cons, List.not_mem_nil, or_false]; exact fun h => h.elim D.TOi1 D.l1TO.symm
  TIi2 := D.TIi2
  mem2 := by simp
  zf2 := by simp only [List.mem_cons, List.not_mem_nil, or_false]; exact fun h => h.elim D.i2z.symm D.l2z.symm
  Tf2 := by simp only [List.mem_cons, List.not_mem_nil, or_false]; exact fun h => h.elim D.TOi2 D.l2TO.symm
  sep1_2 := by simp only [List.mem_cons, List.not_mem_nil, or_false]; exact fun h => h.elim D.i12 D.l2i1.symm
  sep2_1 := by simp only [List.mem_cons, List.not_mem_nil, or_false]; exact fun h => h.elim D.i12.symm D.l1i2.symm
theorem turn_zipM {P : Program} {w : World} {K : PySem.W.Frag} {elts : List Expr} {kk : Nat} {tpos : Pos} {a b z TI TO i1 i2 : Addr} (D : ZipApart z TI TO i1 i2 a b) :
    Turn P w K (.Tuple elts kk tpos) (ItzM K a b) [z, TI, TO, i1, i2] z (fun i h => IsZip h z TI TO .none ∧ IsTupOf2 h TI (.ref i1) (.ref i2) ∧ (∃ x y, IsTupOf2 h TO x y) ∧ h.IsTupleIter i1 a i ∧ h.IsListIter i2 b i) where
  mem := by simp
  obj := fun i h st c hc => by
    obtain ⟨hz, hTI, ⟨x, y, hTO⟩, ⟨o1, e1, _, d1⟩, ⟨o2, e2, _, d2⟩⟩ := st
    simp only [List.mem_cons, List.not_mem_nil, or_false] at hc
    rcases hc with rfl | rfl | rfl | rfl | rfl
    · exact ⟨_, hz, fun v q => nomatch q⟩
    · exact ⟨_, hTI, fun v q => nomatch q⟩
    · exact ⟨_, hTO, fun v q => nomatch q⟩
    · exact ⟨o1, e1, fun v q => by rw [d1] at q; cases q⟩
    · exact ⟨o2, e2, fun v q => by rw [d2] at q; cases q⟩
  keep := fun i h h' st k => by
    obtain ⟨hz, hTI, ⟨x, y, hTO⟩, h1, h2⟩ := st
    exact ⟨k z (by simp) _ hz, k TI (by simp) _ hTI, ⟨x, y, k TO (by simp) _ hTO⟩, h1.at fun o q => k i1 (by simp) o q, h2.at fun o q => k i2 (by simp) o q⟩
  item := by
    intro X hP hw hK hc i pins s σ H E I hf st hg
    subst hP hw hK
    obtain ⟨hz, hTI, ⟨x0, y0, hTO⟩, h1, h2⟩ := st
    obtain ⟨xs, ys, x, y, hqx, hqy, hx, hy⟩ := hg
    obtain ⟨its, rv, p, _⟩ := I.tuple hqx
    obtain ⟨its2, rv2, p2, _⟩ := I.list hqy
    obtain ⟨u, hu, ru⟩ := rv.get hx
    obtain ⟨u2, hu2, ru2⟩ := rv2.get hy
    have hzl : z < s.heap.objs.size := Heap.lt_size hz
    have hh : X.A.handled = none := I.ok.hd hc
    have g1 : its.toArray[i]? = some u := by simpa using hu
    have g2 : its2.toArray[i]? = some u2 := by simpa using hu2
    refine wpAny_pyNext_zipD2_item (sepM D) (Draws.tuple (A := X.A.in1) hh i1 a D.l1i1 its.toArray) (Draws.list (A := X.A.in1) hh i2 b D.l2i2 its2.toArray) hz hTI hTO ⟨h1, p⟩ ⟨h2, p2.isList⟩
      (Array.getElem?_eq_some_iff.mp g1).1 (Array.getElem?_eq_some_iff.mp g2).1 fun x1 x2 h' tk e1 e2 z' TO' h1' h2' hT hsz hk => ?_
    obtain rfl : u = x1 := Option.some.inj (g1.symm.trans e1)
    obtain rfl : u2 = x2 := Option.some.inj (g2.symm.trans e2)
    refine ⟨_, rfl, wpAny_letOwnedTupleGo_zip (s := { s with heap := h', toks := tk }) z' fun h'' z'' sb => ?_⟩
    have hT2 : h''.get? s.heap.objs.size = some { cls := .type "tuple", data := .seq #[u, u2] } := (sb.2 _ (Nat.ne_of_gt hzl)).trans hT
    have new : ObjOk X.prog X.w (upd H s.heap.objs.size (.tup [x, y])) h'' s.heap.objs.size (.tup [x, y]) :=
      ⟨by show 2 ≤ sizeLine; decide, [u, u2], .cons ru (.cons ru2 .nil), ⟨_, hT2, rfl, _, rfl⟩⟩
    have I1 : Inv X pins σ (upd H s.heap.objs.size (.tup [x, y])) { s with heap := h'', toks := tk } :=
      I.turnedNew (t' := tk) (ch := [z, TI, TO, i1, i2]) (fun c o hb q => by
        simp only [List.mem_cons, List.not_mem_nil, or_false, not_or] at hb
        exact (sb.2 c hb.1).trans (hk c o hb.1 hb.2.2.1 hb.2.2.2.1 hb.2.2.2.2 q)) hf (Nat.le_refl _) new
    refine ⟨.ref s.heap.objs.size, _, I1, rfl, ⟨_, x, y, rfl, I.hok.fresh (Nat.le_refl _), rfl, fun l hl => by rw [I.tuple_inj hl hqx]; exact hx, fun l hl => by rw [I.list_inj hl hqy]; exact hy⟩, ⟨z'', ?_, ⟨u, u2, ?_⟩, ?_, ?_⟩, fun c hcm => ?_⟩
    · exact (sb.2 _ D.TIz).trans (hk _ _ D.TIz D.TITO D.TIi1 D.TIi2 hTI)
    · exact (sb.2 _ D.TOz).trans TO'
    · exact h1'.1.at fun o q => (sb.2 _ D.i1z).trans q
    · exact h2'.1.at fun o q => (sb.2 _ D.i2z).trans q
    · have hlt : c < s.heap.objs.size := by
        simp only [List.mem_cons, List.not_mem_nil, or_false] at hcm
        obtain ⟨_, e1, _⟩ := h1
        obtain ⟨_, e2, _⟩ := h2
        rcases hcm with rfl | rfl | rfl | rfl | rfl
        · exact hzl
        · exact Heap.lt_size hTI
        · exact Heap.lt_size hTO
        · exact Heap.lt_size e1
        · exact Heap.lt_size e2
      rw [upd_ne (Nat.ne_of_lt hlt)]
      exact (hf c hcm).1
  done := by
    intro X hP hw hK hc i pins s σ H E I hf st hg
    subst hP hw hK
    obtain ⟨hz, hTI, ⟨x0, y0, hTO⟩, h1, h2⟩ := st
    obtain ⟨xs, ys, hqx, hqy, l1, l2, hend⟩ := hg
    obtain ⟨its, rv, p, _⟩ := I.tuple hqx
    obtain ⟨its2, rv2, p2, _⟩ := I.list hqy
    have n1 : its.toArray.size = xs.length := by rw [List.size_toArray]; exact rv.length.symm
    have n2 : its2.toArray.size = ys.length := by rw [List.size_toArray]; exact rv2.length.symm
    have hh : X.A.handled = none := I.ok.hd hc
    exact wpAny_pyNext_zipD2_end (sepM D) (Draws.tuple (A := X.A.in1) hh i1 a D.l1i1 its.toArray) (Draws.list (A := X.A.in1) hh i2 b D.l2i2 its2.toArray) hz hTI hTO ⟨h1, p⟩ ⟨h2, p2.isList⟩ (by omega) (by omega) (by omega) fun h' tk hk =>
      ⟨rfl, I.turnedL (t' := tk) (ch := [z, TI, TO, i1, i2]) (fun c o hb q => by
        simp only [List.mem_cons, List.not_mem_nil, or_false, not_or] at hb
        exact hk c o hb.1 hb.2.2.1 hb.2.2.2.1 hb.2.2.2.2 q) hf⟩
  self := fun A i s Q E st h => wpAny_pyIter_zip st.1 h
def iZipM (K : PySem.W.Frag) (ta : TA) : TI := fun σ H R => ta σ H fun vs H1 => ∃ a b xs ys, vs = [.ref a, .ref b] ∧ SqT K H1 a xs ∧ SqL K H1 b ys ∧ R (ItzM K a b) H1
theorem pi_zipM {X : Cx} {e e2 : Expr} {ta : TA} {p pos tpos : Pos} {elts : List Expr} {kk : Nat} (hg : Gl X "zip") (hm : X.mg "zip" = none) (ha : PA X [e, e2] ta)
    (hs : starEach [e, e2] X.env = (false, eval e X.env) :: starEach [e2] X.env := by rfl) (hpl : (backTo pos (starEach [e2] X.env)).any (·.1) = false := by rfl) :
    PI X (.Tuple elts kk tpos) (.Call (.Name "zip" p) [e, e2] [] pos) (iZipM X.K ta) := by
  refine ⟨fun pins s σ H R I h => ?_⟩
  refine Call_ (ld_blt I hg hm PyProof.Rows.boot_zip (PyProof.Rows.callWith_type1 (thn (ha.run pos pins s σ H _ I h) fun us s1 ⟨vs, H1, I1, r1, q1⟩ => ?_) hs hpl))
  obtain ⟨a, b, xs, ys, ex, hqx, hqy, q⟩ := q1
  subst ex
  obtain ⟨u, u2, rfl, r, r2⟩ : ∃ u u2, us = [u, u2] ∧ RelV (.ref a) u ∧ RelV (.ref b) u2 := by
    cases r1 with
    | cons r rr => cases rr with
      | cons r' rr => cases rr; exact ⟨_, _, rfl, r, r'⟩
  obtain rfl : u = Value.ref a := r
  obtain rfl : u2 = Value.ref b := r2
  obtain ⟨its, rv, p1, _⟩ := I1.tuple hqx
  obtain ⟨its2, rv2, p2, _⟩ := I1.list hqy
  obtain ⟨o1, ho1, _⟩ := id p1
  refine zip_begins2 (begins_tuple a its.toArray) (begins_list b its2.toArray) p1 p2.isList fun h' hz hTI hTO h1 h2 hsz hk => wpAny_pyIter_zip hz ?_
  have I2 : Inv X pins σ H1 { s1 with heap := h' } := I1.kept (t' := s1.toks) hk
  refine ⟨s1.heap.objs.size + 4, [s1.heap.objs.size + 4, s1.heap.objs.size + 2, s1.heap.objs.size + 3, s1.heap.objs.size, s1.heap.objs.size + 1], _, _, H1, rfl, I2, turn_zipM (PySem.W.ktu_apart s1.heap.objs.size a b (Heap.lt_size ho1) p2.lt), ⟨hz, hTI, ⟨_, _, hTO⟩, ⟨_, h1, rfl, rfl⟩, ⟨_, h2, rfl, rfl⟩⟩, fun c hcm => ?_, q⟩
  have hle : s1.heap.objs.size ≤ c := by
    simp only [List.mem_cons, List.not_mem_nil, or_false] at hcm
    rcases hcm with rfl | rfl | rfl | rfl | rfl
    · exact Nat.le_add_right _ _
    · exact Nat.le_add_right _ _
    · exact Nat.le_add_right _ _
    · exact Nat.le_refl _
    · exact Nat.le_add_right _ _
  exact I1.fpOk hle (I1.hok.fresh hle)
end
/-! ### a rule: list(zip(a, b)) of any two iterators: the pairs are kept -/
section
open PySem.Spec PyProof.Rows
section
variable {prog : Program} {w : World} {A : Around} {E : Value → Shared → Prop} {s : Shared} {z TI TO i1 i2 T : Addr} {fp1 fp2 : List Addr} {n1 n2 i : Nat} {P1 P2 : Nat → Value → Prop} {St1 St2 : Nat → Heap → Prop} {f : Bool} {oT : Obj}
theorem heldD_item {Q : Value → Shared → Prop} (S : ZipSep2 z TI TO i1 i2 fp1 fp2) (D1 : Draws prog w A i1 fp1 n1 P1 St1) (D2 : Draws prog w A i2 fp2 n2 P2 St2)
    (hz : IsZipHeld s.heap z TI TO T f) (hT : s.heap.get? T = some oT) (hTI : IsTupOf2 s.heap TI (.ref i1) (.ref i2)) (st1 : St1 i s.heap) (st2 : St2 i s.heap) (hlt1 : i < n1) (hlt2 : i < n2)
    (hQ : ∀ x1 x2 h' tk, P1 i x1 → P2 i x2 → IsZipHeld h' z TI TO T true → St1 (i + 1) h' → St2 (i + 1) h' → IsTupOf2 h' s.heap.objs.size x1 x2 →
      (∀ c o, c ≠ z → c ≠ i1 → c ≠ i2 → s.heap.get? c = some o → h'.get? c = some o) → Q (.ref s.heap.objs.size) { s with heap := h', toks := tk }) :
    wpAny (model prog w) A (Builtin.«zip.__next__» ⟨[.ref z], []⟩) (fun fin s' => ∃ v, fin = .done (.ret v) ∧ Q v s') E s := by
  obtain ⟨hp, g, d, tk0, os⟩ := s
  show wpAny _ _ (field (.ref z) 2 >>= _) _ _ _
  refine wpAny_bind (wpAny_field hz rfl (x := .bool false) rfl ?_)
  show wpAny _ _ (field (.ref z) 3 >>= _) _ _ _
  refine wpAny_bind (wpAny_field hz rfl (x := .ref TI) rfl ?_)
  refine wpAny_bind (wpAny_seqItems hTI rfl ?_)
  show wpAny _ _ (Builtin.SmallTypes.ownedTupleIsFree (.ref z) >>= _) _ _ _
  refine wpAny_bind (wpAny_tupleHeld_zip hz hT fun g0 hz0 hs0 => ?_)
  replace hs0 : Heap.SameBut z hp g0 := hs0
  simp only [Bool.false_eq_true, if_false]
  refine wpAny_bind ?_
  rw [← Array.forIn_toList]
  simp only [List.forIn_cons, List.forIn_nil]
  refine wpAny_bind (wpAny_bind (wpAny_holding ?_))
  show wpAny _ _ (Builtin.SmallTypes.nextOf (.ref i1) >>= _) _ _ ⟨g0, g, d, tk0, os⟩
  refine wpAny_bind (D1.item i _ _ _ hlt1 (D1.over st1 hs0 S.zf1) fun x1 p1 tk1 hx1 sn1 hp1 => wpAny_pure ?_)
  replace hp1 : Heap.SameBut i1 g0 p1 := hp1
  refine wpAny_pure ?_
  refine wpAny_bind (wpAny_bind (wpAny_holding ?_))
  show wpAny _ _ (Builtin.SmallTypes.nextOf (.ref i2) >>= _) _ _ ⟨p1, g, d, tk1, os⟩
  refine wpAny_bind (D2.item i _ _ _ hlt2 (D2.over (D2.over st2 hs0 S.zf2) hp1 S.sep1_2) fun x2 p2 tk2 hx2 sn2 hp2 => wpAny_pure ?_)
  replace hp2 : Heap.SameBut i2 p1 p2 := hp2
  refine wpAny_pure (wpAny_pure ?_)
  show wpAny _ _ (newTuple [x1, x2] >>= _) _ _ _
  refine wpAny_bind (wpAny_newTuple ?_)
  have hsz : p2.objs.size = hp.objs.size := by rw [hp2.1, hp1.1, hs0.1]
  have hz2 : IsZipHeld p2 z TI TO T true := hp2.extBut _ _ S.zi2 (hp1.extBut _ _ S.zi1 hz0)
  have hk : ∀ c o, c ≠ z → c ≠ i1 → c ≠ i2 → hp.get? c = some o → p2.get? c = some o := fun c o c0 c1 c2 e => hp2.extBut _ _ c2 (hp1.extBut _ _ c1 (hs0.extBut _ _ c0 e))
  have hj1 : St1 (i + 1) p2 := D1.over sn1 hp2 S.sep2_1
  have up : ∀ c o, p2.get? c = some o → (p2.push { cls := .type "tuple", data := .seq #[x1, x2] }).get? c = some o := fun c o e => Heap.get?_push_of_some _ e
  have hN : IsTupOf2 (p2.push { cls := .type "tuple", data := .seq #[x1, x2] }) p2.objs.size x1 x2 := Heap.get?_push_size _ rfl
  refine wpAny_pure ⟨_, rfl, ?_⟩
  show Q (.ref p2.objs.size) _
  rw [hsz] at hN ⊢
  exact hQ x1 x2 _ tk2 hx1 hx2 (up _ _ hz2) (D1.frame _ _ _ hj1 fun b _ o e => up b o e) (D2.frame _ _ _ sn2 fun b _ o e => up b o e) hN fun c o c0 c1 c2 e => up c o (hk c o c0 c1 c2 e)
theorem heldD_end {Q : Fin → Shared → Prop} (S : ZipSep2 z TI TO i1 i2 fp1 fp2) (D1 : Draws prog w A i1 fp1 n1 P1 St1) (D2 : Draws prog w A i2 fp2 n2 P2 St2)
    (hz : IsZipHeld s.heap z TI TO T f) (hT : s.heap.get? T = some oT) (hTI : IsTupOf2 s.heap TI (.ref i1) (.ref i2)) (st1 : St1 i s.heap) (st2 : St2 i s.heap) (hi : i = n1)
    (hE : ∀ h' e, (∀ c o, c ≠ z → c ≠ i1 → s.heap.get? c = some o → h'.get? c = some o) → (∃ o, h'.get? e = some o ∧ o.cls = .type "StopIteration") → E (.ref e) { s with heap := h' }) :
    wpAny (model prog w) A (Builtin.«zip.__next__» ⟨[.ref z], []⟩) Q E s := by
  subst hi
  show wpAny _ _ (field (.ref z) 2 >>= _) _ _ _
  refine wpAny_bind (wpAny_field hz rfl (x := .bool false) rfl ?_)
  show wpAny _ _ (field (.ref z) 3 >>= _) _ _ _
  refine wpAny_bind (wpAny_field hz rfl (x := .ref TI) rfl ?_)
  refine wpAny_bind (wpAny_seqItems hTI rfl ?_)
  show wpAny _ _ (Builtin.SmallTypes.ownedTupleIsFree (.ref z) >>= _) _ _ _
  refine wpAny_bind (wpAny_tupleHeld_zip hz hT fun g0 hz0 hs0 => ?_)
  simp only [Bool.false_eq_true, if_false]
  refine wpAny_bind ?_
  rw [← Array.forIn_toList]
  simp only [List.forIn_cons, List.forIn_nil]
  refine wpAny_bind (wpAny_bind (wpAny_holding ?_))
  show wpAny _ _ (Builtin.SmallTypes.nextOf (.ref i1) >>= _) _ _ _
  refine wpAny_bind (D1.done _ _ _ (D1.over st1 hs0 S.zf1) fun h2 e hs2 he => ?_)
  exact hE h2 e (fun c o c0 c1 x => hs2 _ _ c1 (hs0.extBut _ _ c0 x)) he
theorem heldD_next {Q : Option Value → Shared → Prop} (S : ZipSep2 z TI TO i1 i2 fp1 fp2) (D1 : Draws prog w A.in1 i1 fp1 n1 P1 St1) (D2 : Draws prog w A.in1 i2 fp2 n2 P2 St2)
    (hz : IsZipHeld s.heap z TI TO T f) (hT : s.heap.get? T = some oT) (hTI : IsTupOf2 s.heap TI (.ref i1) (.ref i2)) (st1 : St1 i s.heap) (st2 : St2 i s.heap) (hlt1 : i < n1) (hlt2 : i < n2)
    (hQ : ∀ x1 x2 h' tk, P1 i x1 → P2 i x2 → IsZipHeld h' z TI TO T true → St1 (i + 1) h' → St2 (i + 1) h' → IsTupOf2 h' s.heap.objs.size x1 x2 →
      (∀ c o, c ≠ z → c ≠ i1 → c ≠ i2 → s.heap.get? c = some o → h'.get? c = some o) → Q (some (.ref s.heap.objs.size)) { s with heap := h', toks := tk }) :
    wpAny (model prog w) A (pyNext (.ref z)) Q E s := by
  have hTy : s.TypeIs (.ref z) "zip" := ⟨_, hz, rfl⟩
  unfold pyNext
  exact wpAny_bind (wpAny_attempt (wpAny_callSpecial?_slot (name := Str.ofString "__next__") hTy F.slot_zip_next
    (wpAny_call_entry F.slot_zip_next hTy F.entry_zip_next
      (heldD_item S D1 D2 hz hT hTI st1 st2 hlt1 hlt2 fun x1 x2 h' tk a1 a2 a3 a4 a5 a6 a7 => wpAny_pure (hQ x1 x2 h' tk a1 a2 a3 a4 a5 a6 a7)) (F.args_zip_next_1 _))))
theorem heldD_stop {Q : Option Value → Shared → Prop} (S : ZipSep2 z TI TO i1 i2 fp1 fp2) (D1 : Draws prog w A.in1 i1 fp1 n1 P1 St1) (D2 : Draws prog w A.in1 i2 fp2 n2 P2 St2)
    (hz : IsZipHeld s.heap z TI TO T f) (hT : s.heap.get? T = some oT) (hTI : IsTupOf2 s.heap TI (.ref i1) (.ref i2)) (st1 : St1 i s.heap) (st2 : St2 i s.heap) (hi : i = n1)
    (hQ : ∀ h', (∀ c o, c ≠ z → c ≠ i1 → s.heap.get? c = some o → h'.get? c = some o) → Q none { s with heap := h' }) :
    wpAny (model prog w) A (pyNext (.ref z)) Q E s := by
  have hTy : s.TypeIs (.ref z) "zip" := ⟨_, hz, rfl⟩
  unfold pyNext
  refine wpAny_bind (wpAny_attempt (wpAny_callSpecial?_slot (name := Str.ofString "__next__") hTy F.slot_zip_next
    (wpAny_call_entry F.slot_zip_next hTy F.entry_zip_next (heldD_end S D1 D2 hz hT hTI st1 st2 hi fun h' e hk he => ?_) (F.args_zip_next_1 _))))
  obtain ⟨o, ho, hc⟩ := he
  refine wpAny_bind (wpAny_isInstance (T := "StopIteration") (b := true) ⟨o, ho, hc⟩ isSubtype_stop ?_)
  exact wpAny_pure (hQ _ hk)
end
section
variable {X : Cx} {pins : List (Addr × Obj)} {σ : L2.St} {z TI TO i1 i2 a b S : Addr} {xs ys : List V} {H0 : Hp}
structure LpE (X : Cx) (pins : List (Addr × Obj)) (σ : L2.St) (S : Addr) (xs ys : List V) (H0 : Hp) (i : Nat) (Ts : List Addr) (H : Hp) (s : Shared) (c : Nat) : Prop where
  inv : Inv X pins σ H s
  same : Same H0 H
  len : Ts.length = i
  tup : ∀ (j : Nat) (t : Addr), Ts[j]? = some t → ∃ x y, xs[j]? = some x ∧ ys[j]? = some y ∧ H t = some (.tup [x, y]) ∧ H0 t = none
  lst : s.heap.get? S = some { cls := .type "list", dict := none, data := .seq (Ts.map Value.ref).toArray c, slots := #[] }
  fpS : FpOk X pins H S
structure LpI (X : Cx) (pins : List (Addr × Obj)) (σ : L2.St) (z TI TO i1 i2 a b S : Addr) (xs ys : List V) (H0 : Hp) (i : Nat) (Ts : List Addr) (H : Hp) (s : Shared) (c : Nat) : Prop where
  e : LpE X pins σ S xs ys H0 i Ts H s c
  fp : ∀ c ∈ [z, TI, TO, i1, i2], FpOk X pins H c
  lt : ∀ c ∈ [z, TI, TO, i1, i2], c < s.heap.objs.size
  tie : IsTupOf2 s.heap TI (.ref i1) (.ref i2)
  it1 : s.heap.IsTupleIter i1 a i
  it2 : s.heap.IsListIter i2 b i
  zs : (IsZip s.heap z TI TO .none ∧ ∃ u v, IsTupOf2 s.heap TO u v) ∨ ∃ T f x y, IsZipHeld s.heap z TI TO T f ∧ H T = some (.tup [x, y])
theorem fpOk_upd {H : Hp} {T c : Addr} {o : HO} (h : FpOk X pins H c) (n : c ≠ T) : FpOk X pins (upd H T o) c := ⟨by rw [upd_ne n]; exact h.1, h.2⟩
theorem lp_push {H : Hp} {Ts : List Addr} {s : Shared} {c i tk : Nat} {x y : V} {u u2 : Value} {h' : Heap} {T : Addr} {f : Bool} (D : ZipApart z TI TO i1 i2 a b) (hS : S ∉ [z, TI, TO, i1, i2]) (L : LpI X pins σ z TI TO i1 i2 a b S xs ys H0 i Ts H s c)
    (hx : xs[i]? = some x) (hy : ys[i]? = some y) (ru : RelV x u) (ru2 : RelV y u2)
    (z' : IsZipHeld h' z TI TO T f) (hTT : ∃ x1 y1, upd H s.heap.objs.size (.tup [x, y]) T = some (.tup [x1, y1])) (j1 : h'.IsTupleIter i1 a (i + 1)) (j2 : h'.IsListIter i2 b (i + 1)) (hT : IsTupOf2 h' s.heap.objs.size u u2)
    (hk : ∀ c o, c ≠ z → c ≠ TO → c ≠ i1 → c ≠ i2 → s.heap.get? c = some o → h'.get? c = some o) :
    ∃ c', LpI X pins σ z TI TO i1 i2 a b S xs ys H0 (i + 1) (Ts ++ [s.heap.objs.size]) (upd H s.heap.objs.size (.tup [x, y])) { s with heap := h'.update S (Obj.mapSeq (·.push (.ref s.heap.objs.size))), toks := tk } c' := by
  simp only [List.mem_cons, List.not_mem_nil, or_false, not_or] at hS
  obtain ⟨sz, sTI, sTO, s1, s2⟩ := hS
  have fr : H s.heap.objs.size = none := L.e.inv.hok.fresh (Nat.le_refl _)
  have hS' := hk S _ sz sTO s1 s2 L.e.lst
  have e2 := Heap.get?_update_self (Obj.mapSeq (·.push (Value.ref s.heap.objs.size))) hS' rfl
  have oth : ∀ c o, c ≠ S → h'.get? c = some o → (h'.update S (Obj.mapSeq (·.push (Value.ref s.heap.objs.size)))).get? c = some o := fun c o n e => (Heap.get?_update_other _ _ (Ne.symm n)).trans e
  have nS : S ≠ s.heap.objs.size := Nat.ne_of_lt (Heap.lt_size L.e.lst)
  have nt : ∀ c u, H c = some u → c ≠ s.heap.objs.size := fun c u e n => by rw [n, fr] at e; cases e
  have hsz : s.heap.objs.size < (h'.update S (Obj.mapSeq (·.push (Value.ref s.heap.objs.size)))).objs.size := Heap.lt_size (oth _ _ nS.symm hT)
  have new : ObjOk X.prog X.w (upd H s.heap.objs.size (.tup [x, y])) (h'.update S (Obj.mapSeq (·.push (Value.ref s.heap.objs.size)))) s.heap.objs.size (.tup [x, y]) :=
    ⟨by show 2 ≤ sizeLine; decide, [u, u2], .cons ru (.cons ru2 .nil), ⟨_, oth _ _ nS.symm hT, rfl, _, rfl⟩⟩
  have I1 : Inv X pins σ (upd H s.heap.objs.size (.tup [x, y])) { s with heap := h'.update S (Obj.mapSeq (·.push (Value.ref s.heap.objs.size))), toks := tk } :=
    L.e.inv.turnedNew (t' := tk) (ch := [S, z, TI, TO, i1, i2]) (fun c o hb q => by
      simp only [List.mem_cons, List.not_mem_nil, or_false, not_or] at hb
      exact oth c o hb.1 (hk c o hb.2.1 hb.2.2.2.1 hb.2.2.2.2.1 hb.2.2.2.2.2 q)) (fun c hc => by
      rcases List.mem_cons.mp hc with rfl | hc
      · exact L.e.fpS
      · exact L.fp c hc) (Nat.le_refl _) new
  have ea : (List.map Value.ref (Ts ++ [s.heap.objs.size])).toArray = (List.map Value.ref Ts).toArray.push (.ref s.heap.objs.size) := by simp
  obtain ⟨c', e3⟩ : ∃ c', (h'.update S (Obj.mapSeq (·.push (Value.ref s.heap.objs.size)))).get? S = some { cls := .type "list", dict := none, data := .seq (List.map Value.ref (Ts ++ [s.heap.objs.size])).toArray c', slots := #[] } := ⟨_, by rw [ea]; exact e2⟩
  refine ⟨c', ⟨I1, fun c u e => ?_, ?_, fun j t hj => ?_, e3, fpOk_upd L.e.fpS nS⟩, fun c hc => fpOk_upd (L.fp c hc) (Nat.ne_of_lt (L.lt c hc)), fun c hc => Nat.lt_trans (L.lt c hc) hsz, oth _ _ (Ne.symm sTI) (hk _ _ D.TIz D.TITO D.TIi1 D.TIi2 L.tie), j1.at fun o e => oth _ o (Ne.symm s1) e, j2.at fun o e => oth _ o (Ne.symm s2) e, .inr ?_⟩
  · rw [upd_ne (nt _ _ (L.e.same c u e))]; exact L.e.same c u e
  · rw [List.length_append, L.e.len]; rfl
  · by_cases hlt : j < Ts.length
    · rw [List.getElem?_append_left hlt] at hj
      obtain ⟨x1, y1, e1, e2, e3, e4⟩ := L.e.tup j t hj
      exact ⟨x1, y1, e1, e2, by rw [upd_ne (nt _ _ e3)]; exact e3, e4⟩
    · rw [List.getElem?_append_right (by omega)] at hj
      have hj0 : j - Ts.length = 0 := by
        cases hd : j - Ts.length with
        | zero => rfl
        | succ m => rw [hd] at hj; cases hj
      rw [hj0] at hj
      injection hj with hj
      have hji : j = i := by have := L.e.len; omega
      rw [← hj, hji]
      refine ⟨x, y, hx, hy, upd_same, ?_⟩
      cases q : H0 s.heap.objs.size with
      | none => rfl
      | some o => have := L.e.same _ _ q; rw [fr] at this; cases this
  · obtain ⟨x1, y1, e⟩ := hTT
    exact ⟨T, f, x1, y1, oth _ _ (Ne.symm sz) z', e⟩
theorem lp_end {H : Hp} {Ts : List Addr} {s : Shared} {c i tk : Nat} {h' : Heap} (hS : S ∉ [z, TI, TO, i1, i2]) (L : LpI X pins σ z TI TO i1 i2 a b S xs ys H0 i Ts H s c)
    (hk : ∀ c o, c ≠ z → c ≠ TO → c ≠ i1 → c ≠ i2 → s.heap.get? c = some o → h'.get? c = some o) : LpE X pins σ S xs ys H0 i Ts H { s with heap := h', toks := tk } c := by
  simp only [List.mem_cons, List.not_mem_nil, or_false, not_or] at hS
  obtain ⟨sz, sTI, sTO, s1, s2⟩ := hS
  refine ⟨L.e.inv.turnedL (t' := tk) (ch := [z, TI, TO, i1, i2]) (fun c o hb q => ?_) L.fp, L.e.same, L.e.len, L.e.tup, hk S _ sz sTO s1 s2 L.e.lst, L.e.fpS⟩
  simp only [List.mem_cons, List.not_mem_nil, or_false, not_or] at hb
  exact hk c o hb.1 hb.2.2.1 hb.2.2.2.1 hb.2.2.2.2 q
theorem lp_loop {A : Around} {R : Result → Shared → Prop} (hh : A.handled = none) (D : ZipApart z TI TO i1 i2 a b) (hS : S ∉ [z, TI, TO, i1, i2]) (qx : SqT X.K H0 a xs) (qy : SqL X.K H0 b ys) (hl : xs.length = ys.length) (hz : xs.length ≤ 1000000) (res : Value) :
    ∀ (k i : Nat) (s : Shared) (H : Hp) (Ts : List Addr) (c : Nat), xs.length - i = k → i ≤ xs.length → LpI X pins σ z TI TO i1 i2 a b S xs ys H0 i Ts H s c →
    (∀ s' H' Ts' c', LpE X pins σ S xs ys H0 xs.length Ts' H' s' c' → R (.ok (.ret res)) s') →
    codeAny (model X.prog X.w) A (.builtin "list.extend.loop" ⟨[.ref S, .ref z, res], []⟩) R s := by
  intro k
  induction k with
  | zero =>
    intro i s H Ts c hk hi L hR
    have hin : i = xs.length := by omega
    subst hin
    obtain ⟨its, rv, p, _⟩ := L.e.inv.tuple (L.e.same.sqt qx)
    obtain ⟨its2, rv2, p2, _⟩ := L.e.inv.list (L.e.same.seq qy)
    have n1 : its.toArray.size = xs.length := by rw [List.size_toArray]; exact rv.length.symm
    have n2 : its2.toArray.size = ys.length := by rw [List.size_toArray]; exact rv2.length.symm
    refine codeAny_builtin F.entry_extend_loop ?_
    rw [Around.under_plainId F.plain_extend_loop _]
    show wpAny _ A.in1 (pyNext (.ref z) >>= _) _ _ s
    rcases L.zs with ⟨hz0, u, v, hTO⟩ | ⟨T, f, x0, y0, hz0, hT0⟩
    · exact wpAny_bind (wpAny_pyNext_zipD2_end (sepM D) (Draws.tuple (A := A.in1.in1) hh i1 a D.l1i1 its.toArray) (Draws.list (A := A.in1.in1) hh i2 b D.l2i2 its2.toArray) hz0 L.tie hTO ⟨L.it1, p⟩ ⟨L.it2, p2.isList⟩ (by omega) (by omega) (by omega) fun h' tk hk =>
        wpAny_pure (hR _ _ _ _ (lp_end hS L hk)))
    · obtain ⟨_, _, ⟨oT, hoT, _⟩, _⟩ := L.e.inv.tuple (SqT.of hT0)
      exact wpAny_bind (heldD_stop (sepM D) (Draws.tuple (A := A.in1.in1) hh i1 a D.l1i1 its.toArray) (Draws.list (A := A.in1.in1) hh i2 b D.l2i2 its2.toArray) hz0 hoT L.tie ⟨L.it1, p⟩ ⟨L.it2, p2.isList⟩ n1.symm fun h' hk =>
        wpAny_pure (hR _ _ _ _ (lp_end (tk := s.toks) hS L fun c o h0 _ h1 _ e => hk c o h0 h1 e)))
  | succ k ih =>
    intro i s H Ts c hk hi L hR
    have hlt : i < xs.length := by omega
    have hlt2 : i < ys.length := by omega
    obtain ⟨its, rv, p, _⟩ := L.e.inv.tuple (L.e.same.sqt qx)
    obtain ⟨its2, rv2, p2, _⟩ := L.e.inv.list (L.e.same.seq qy)
    have hx : xs[i]? = some xs[i] := List.getElem?_eq_getElem hlt
    have hy : ys[i]? = some ys[i] := List.getElem?_eq_getElem hlt2
    obtain ⟨u, hu, ru⟩ := rv.get hx
    obtain ⟨u2, hu2, ru2⟩ := rv2.get hy
    have g1 : its.toArray[i]? = some u := by simpa using hu
    have g2 : its2.toArray[i]? = some u2 := by simpa using hu2
    have hS2 := hS
    simp only [List.mem_cons, List.not_mem_nil, or_false, not_or] at hS2
    have hts := L.e.len
    refine codeAny_builtin F.entry_extend_loop ?_
    rw [Around.under_plainId F.plain_extend_loop _]
    show wpAny _ A.in1 (pyNext (.ref z) >>= _) _ _ s
    rcases L.zs with ⟨hz0, u0, v0, hTO⟩ | ⟨T, f, x0, y0, hz0, hT0⟩
    · refine wpAny_bind (wpAny_pyNext_zipD2_item (sepM D) (Draws.tuple (A := A.in1.in1) hh i1 a D.l1i1 its.toArray) (Draws.list (A := A.in1.in1) hh i2 b D.l2i2 its2.toArray) hz0 L.tie hTO ⟨L.it1, p⟩ ⟨L.it2, p2.isList⟩
        (Array.getElem?_eq_some_iff.mp g1).1 (Array.getElem?_eq_some_iff.mp g2).1 fun x1 x2 h' tk e1 e2 z' TO' h1' h2' hT hsz hk => ?_)
      obtain rfl : u = x1 := Option.some.inj (g1.symm.trans e1)
      obtain rfl : u2 = x2 := Option.some.inj (g2.symm.trans e2)
      obtain ⟨c', L2⟩ := lp_push (tk := tk) (f := false) D hS L hx hy ru ru2 z' ⟨_, _, upd_same⟩ h1'.1 h2'.1 hT hk
      have hS' := hk S _ hS2.1 hS2.2.2.1 hS2.2.2.2.1 hS2.2.2.2.2 L.e.lst
      show wpAny _ A.in1 (updateSeq S (·.push (.ref s.heap.objs.size)) >>= _) _ _ _
      refine wpAny_bind ?_
      refine wpAny_updateSeq (s := { s with heap := h', toks := tk }) hS' rfl (wpAny_pure ⟨plainId_quiet F.plain_extend_loop _, ih (i + 1) _ _ _ _ (by omega) hlt L2 hR⟩) ?_ ?_
      · simp only [List.size_toArray, List.length_map]; rw [sizeLine_eq]; omega
      · simp only [Array.size_push, List.size_toArray, List.length_map]; rw [sizeLine_eq]; omega
    · obtain ⟨_, _, ⟨oT, hoT, _⟩, _⟩ := L.e.inv.tuple (SqT.of hT0)
      refine wpAny_bind (heldD_next (sepM D) (Draws.tuple (A := A.in1.in1) hh i1 a D.l1i1 its.toArray) (Draws.list (A := A.in1.in1) hh i2 b D.l2i2 its2.toArray) hz0 hoT L.tie ⟨L.it1, p⟩ ⟨L.it2, p2.isList⟩
        (Array.getElem?_eq_some_iff.mp g1).1 (Array.getElem?_eq_some_iff.mp g2).1 fun x1 x2 h' tk e1 e2 z' h1' h2' hT hk => ?_)
      obtain rfl : u = x1 := Option.some.inj (g1.symm.trans e1)
      obtain rfl : u2 = x2 := Option.some.inj (g2.symm.trans e2)
      have nT : T ≠ s.heap.objs.size := fun n => by rw [n, L.e.inv.hok.fresh (Nat.le_refl _)] at hT0; cases hT0
      obtain ⟨c', L2⟩ := lp_push (tk := tk) (f := true) D hS L hx hy ru ru2 z' ⟨x0, y0, by rw [upd_ne nT]; exact hT0⟩ h1'.1 h2'.1 hT (fun c o h0 _ h1 h2 e => hk c o h0 h1 h2 e)
      have hS' := hk S _ hS2.1 hS2.2.2.2.1 hS2.2.2.2.2 L.e.lst
      show wpAny _ A.in1 (updateSeq S (·.push (.ref s.heap.objs.size)) >>= _) _ _ _
      refine wpAny_bind ?_
      refine wpAny_updateSeq (s := { s with heap := h', toks := tk }) hS' rfl (wpAny_pure ⟨plainId_quiet F.plain_extend_loop _, ih (i + 1) _ _ _ _ (by omega) hlt L2 hR⟩) ?_ ?_
      · simp only [List.size_toArray, List.length_map]; rw [sizeLine_eq]; omega
      · simp only [Array.size_push, List.size_toArray, List.length_map]; rw [sizeLine_eq]; omega
theorem lp_touch {H : Hp} {Ts : List Addr} {s : Shared} {c c' i tk : Nat} {h' : Heap} (hS : S ∉ [z, TI, TO, i1, i2]) (L : LpI X pins σ z TI TO i1 i2 a b S xs ys H0 i Ts H s c)
    (hsz : s.heap.objs.size ≤ h'.objs.size) (hk : ∀ c o, c ≠ S → s.heap.get? c = some o → h'.get? c = some o) (e : h'.get? S = some { cls := .type "list", dict := none, data := .seq (Ts.map Value.ref).toArray c', slots := #[] }) :
    LpI X pins σ z TI TO i1 i2 a b S xs ys H0 i Ts H { s with heap := h', toks := tk } c' := by
  simp only [List.mem_cons, List.not_mem_nil, or_false, not_or] at hS
  obtain ⟨sz, sTI, sTO, s1, s2⟩ := hS
  refine ⟨⟨L.e.inv.turnedL (t' := tk) (ch := [S]) (fun c o hb q => hk c o (fun n => hb (by simp [n])) q) (fun c hc => by rw [List.mem_singleton.mp hc]; exact L.e.fpS), L.e.same, L.e.len, L.e.tup, e, L.e.fpS⟩, L.fp, fun c hc => Nat.lt_of_lt_of_le (L.lt c hc) hsz,
    hk _ _ (Ne.symm sTI) L.tie, L.it1.at fun o q => hk _ o (Ne.symm s1) q, L.it2.at fun o q => hk _ o (Ne.symm s2) q, ?_⟩
  rcases L.zs with ⟨hz, u, v, hTO⟩ | ⟨T, f, x, y, hz, hT⟩
  · exact .inl ⟨hk _ _ (Ne.symm sz) hz, u, v, hk _ _ (Ne.symm sTO) hTO⟩
  · exact .inr ⟨T, f, x, y, hk _ _ (Ne.symm sz) hz, hT⟩
theorem lp_take {H : Hp} {Ts : List Addr} {s : Shared} {c i : Nat} (L : LpE X pins σ S xs ys H0 i Ts H s c) (hi : i ≤ 1000000) : Inv X pins σ (upd H S (.lst (Ts.map V.ref))) s := by
  have vr : ∀ l : List Addr, Vals (l.map V.ref) (l.map Value.ref) := fun l => by
    induction l with
    | nil => exact .nil
    | cons t r ih => exact .cons rfl ih
  refine L.inv.take (t' := s.toks) (h' := s.heap) (fun _ _ _ e => e) L.fpS ⟨?_, Ts.map Value.ref, c, vr Ts, L.lst⟩
  rw [List.length_map, L.len, sizeLine_eq]; omega
theorem zip_no_len : typeLookup (.type "zip") "__len__" = pure none := am_miss_of_fast (by decide +kernel)
theorem zip_no_hint : typeLookup (.type "zip") "__length_hint__" = pure none := am_miss_of_fast (by decide +kernel)
theorem lp_extend {A : Around} {R : Result → Shared → Prop} (hh : A.handled = none) (D : ZipApart z TI TO i1 i2 a b) (hS : S ∉ [z, TI, TO, i1, i2]) (qx : SqT X.K H0 a xs) (qy : SqL X.K H0 b ys) (hl : xs.length = ys.length) (hz : xs.length ≤ 1000000) (res : Value)
    {s : Shared} {H : Hp} {c : Nat} (L : LpI X pins σ z TI TO i1 i2 a b S xs ys H0 0 [] H s c) (hz0 : IsZip s.heap z TI TO .none)
    (hR : ∀ s' H' Ts' c', LpE X pins σ S xs ys H0 xs.length Ts' H' s' c' → R (.ok (.ret res)) s') :
    wpAny (model X.prog X.w) A.in1 (Builtin.List.listExtendWith (.ref S) (.ref z) res)
      (fun fin s' => match fin with | .done f => R (.ok f) s' | .again c' => c'.quiet = true ∧ codeAny (model X.prog X.w) A c' R s') (fun e s' => R (.error e) s') s := by
  have hTy : s.TypeIs (.ref z) "zip" := ⟨_, hz0, rfl⟩
  have hS2 := hS
  simp only [List.mem_cons, List.not_mem_nil, or_false, not_or] at hS2
  have hL := L.e.lst
  unfold Builtin.List.listExtendWith
  refine wpAny_bind (wpAny_typeOf hTy ?_)
  have h1 : Builtin.List.listSameRef (.ref S) (.ref z) = false := by simp [Builtin.List.listSameRef, hS2.1]
  have h2 : (Value.type "zip" == Value.type "list") = false := by decide
  have h3 : (Value.type "zip" == Value.type "tuple") = false := by decide
  simp only [h1, h2, h3, Bool.or_false, Bool.false_eq_true, if_false]
  refine wpAny_bind (wpAny_pyIter_zip hz0 ?_)
  refine wpAny_bind (wpAny_holding ?_)
  unfold Builtin.List.listLengthHint
  refine wpAny_bind (wpAny_specialOf hTy zip_no_len ?_)
  show wpAny _ A.in1 (specialOf (Value.ref z) (Str.ofString "__length_hint__") >>= _) _ _ _
  refine wpAny_bind (wpAny_specialOf hTy zip_no_hint ?_)
  refine wpAny_pure ?_
  show wpAny _ A.in1 (rule "list.extend.makes-room" >>= fun _ => Builtin.List.listTouch (.ref S) >>= fun _ =>
    again (.builtin "list.extend.loop" ⟨[.ref S, .ref z, res], []⟩)) _ _ _
  refine wpAny_bind (wpAny_rule ?_)
  refine wpAny_bind ?_
  show wpAny _ A.in1 (updateSeq S (·.push .none) >>= fun _ => updateSeq S (·.pop)) _ _ _
  refine wpAny_bind (wpAny_updateSeq hL rfl ?_)
  have e2 := Heap.get?_update_self (Obj.mapSeq (·.push Value.none)) hL rfl
  refine wpAny_updateSeq (hz := by seq_fits) e2 rfl ?_
  have e3 := Heap.get?_update_self (Obj.mapSeq (·.pop)) e2 rfl
  have oth : ∀ b o, b ≠ S → s.heap.get? b = some o → ((s.heap.update S (Obj.mapSeq (·.push Value.none))).update S (Obj.mapSeq (·.pop))).get? b = some o :=
    fun b o hb e => (Heap.get?_update_other _ _ (Ne.symm hb)).trans ((Heap.get?_update_other _ _ (Ne.symm hb)).trans e)
  have L3 := lp_touch (s := s) (tk := s.toks) (h' := (s.heap.update S (Obj.mapSeq (·.push Value.none))).update S (Obj.mapSeq (·.pop))) hS L (by rw [(Heap.SameBut.update ..).1, (Heap.SameBut.update ..).1]; exact Nat.le_refl _) oth e3
  exact wpAny_pure ⟨plainId_quiet F.plain_extend_loop _, lp_loop hh D hS qx qy hl hz res xs.length 0 _ H [] _ (by omega) (Nat.zero_le _) L3 hR⟩
theorem lp_init {A : Around} {R : Result → Shared → Prop} (hh : A.handled = none) (D : ZipApart z TI TO i1 i2 a b) {s : Shared} (qx : SqT X.K H0 a xs) (qy : SqL X.K H0 b ys) (hl : xs.length = ys.length) (hz : xs.length ≤ 1000000)
    (I : Inv X pins σ H0 s) (fp : ∀ c ∈ [z, TI, TO, i1, i2], FpOk X pins H0 c) (lt : ∀ c ∈ [z, TI, TO, i1, i2], c < s.heap.objs.size) (tie : IsTupOf2 s.heap TI (.ref i1) (.ref i2)) (it1 : s.heap.IsTupleIter i1 a 0) (it2 : s.heap.IsListIter i2 b 0)
    (hz0 : IsZip s.heap z TI TO .none) {u v : Value} (hTO : IsTupOf2 s.heap TO u v)
    (hR : ∀ s' H' Ts' c', LpE X pins σ s.heap.objs.size xs ys H0 xs.length Ts' H' s' c' → R (.ok (.ret .none)) s') :
    wpAny (model X.prog X.w) A.in1 (Builtin.«list.__init__» ⟨[.ref s.heap.objs.size, .ref z], []⟩)
      (fun fin s' => match fin with | .done f => R (.ok f) s' | .again c' => c'.quiet = true ∧ codeAny (model X.prog X.w) A c' R s') (fun e s' => R (.error e) s') { s with heap := s.heap.push { cls := .type "list", data := .seq #[] } } := by
  have e0 : (s.heap.push { cls := .type "list", data := .seq #[] }).get? s.heap.objs.size = some { cls := .type "list", data := .seq #[] } := Heap.get?_push_size _ rfl
  show wpAny _ _ (do let old ← Builtin.List.listItems (.ref s.heap.objs.size); Builtin.List.listUpdate (.ref s.heap.objs.size) (fun _ => #[]); letGo old.toList.reverse; Builtin.List.listExtendWith (.ref s.heap.objs.size) (.ref z) .none) _ _ _
  refine wpAny_bind ?_
  unfold Builtin.List.listItems
  refine wpAny_bind (wpAny_seqItems e0 rfl (wpAny_pure ?_))
  show wpAny _ _ (updateSeq s.heap.objs.size (fun _ => #[]) >>= fun _ => letGo (#[] : Array Value).toList.reverse >>= fun _ => Builtin.List.listExtendWith (.ref s.heap.objs.size) (.ref z) .none) _ _ _
  refine wpAny_bind (wpAny_updateSeq e0 rfl ?_)
  have e2 := Heap.get?_update_self (Obj.mapSeq (fun _ => (#[] : Array Value))) e0 rfl
  have oth : ∀ c o, s.heap.get? c = some o → ((s.heap.push { cls := .type "list", data := .seq #[] }).update s.heap.objs.size (Obj.mapSeq (fun _ => (#[] : Array Value)))).get? c = some o := fun c o e =>
    (Heap.get?_update_other _ _ (Nat.ne_of_gt (Heap.lt_size e))).trans (Heap.get?_push_of_some _ e)
  refine wpAny_bind (wpAny_letGo ?_)
  have hS : s.heap.objs.size ∉ [z, TI, TO, i1, i2] := fun h => Nat.lt_irrefl _ (lt _ h)
  have sz : s.heap.objs.size ≤ ((s.heap.push { cls := .type "list", data := .seq #[] }).update s.heap.objs.size (Obj.mapSeq (fun _ => (#[] : Array Value)))).objs.size := by
    rw [(Heap.SameBut.update ..).1, Heap.size_push]; exact Nat.le_succ _
  have L : LpI X pins σ z TI TO i1 i2 a b s.heap.objs.size xs ys H0 0 [] H0 { s with heap := (s.heap.push { cls := .type "list", data := .seq #[] }).update s.heap.objs.size (Obj.mapSeq (fun _ => (#[] : Array Value))) } _ :=
    ⟨⟨I.kept (t' := s.toks) oth, Same.refl _, rfl, fun j t h => (by cases h), e2, I.fpOk (Nat.le_refl _) (I.hok.fresh (Nat.le_refl _))⟩, fp, fun c hc => Nat.lt_of_lt_of_le (lt c hc) sz, oth _ _ tie, it1.at fun o q => oth _ o q, it2.at fun o q => oth _ o q, .inl ⟨oth _ _ hz0, u, v, oth _ _ hTO⟩⟩
  exact lp_extend hh D hS qx qy hl hz .none L (oth _ _ hz0) hR
theorem lp_call {A : Around} {E : Value → Shared → Prop} {Q : Value → Shared → Prop} (hh : A.handled = none) (D : ZipApart z TI TO i1 i2 a b) {s : Shared} (qx : SqT X.K H0 a xs) (qy : SqL X.K H0 b ys) (hl : xs.length = ys.length) (hz : xs.length ≤ 1000000)
    (I : Inv X pins σ H0 s) (fp : ∀ c ∈ [z, TI, TO, i1, i2], FpOk X pins H0 c) (lt : ∀ c ∈ [z, TI, TO, i1, i2], c < s.heap.objs.size) (tie : IsTupOf2 s.heap TI (.ref i1) (.ref i2)) (it1 : s.heap.IsTupleIter i1 a 0) (it2 : s.heap.IsListIter i2 b 0)
    (hz0 : IsZip s.heap z TI TO .none) {u v : Value} (hTO : IsTupOf2 s.heap TO u v)
    (hQ : ∀ (s' : Shared) (H' : Hp) (Ts' : List Addr), Inv X pins σ (upd H' s.heap.objs.size (.lst (Ts'.map V.ref))) s' → Same H0 H' → Ts'.length = xs.length → (∀ (j : Nat) (t : Addr), Ts'[j]? = some t → ∃ x y, xs[j]? = some x ∧ ys[j]? = some y ∧ H' t = some (.tup [x, y]) ∧ H0 t = none) →
      H' s.heap.objs.size = none → Q (.ref s.heap.objs.size) s') :
    wpAny (model X.prog X.w) A (call (.type "list") [.ref z]) Q E s := by
  refine callType_codes (Q₁ := fun obj s₁ => obj = .ref s.heap.objs.size ∧ s₁ = { s with heap := s.heap.push { cls := .type "list", data := .seq #[] } }) F.called_list (F.typeCall_list_1 _) F.entry_list_init
    (code_list_new _ ⟨rfl, rfl⟩) fun obj s₁ h₁ => ?_
  obtain ⟨rfl, rfl⟩ := h₁
  refine ⟨⟨_, Heap.get?_push_size _ rfl, rfl⟩, F.args_list_init_2 _ _, lp_init (A := A.in1) hh D qx qy hl hz I fp lt tie it1 it2 hz0 hTO fun s' H' Ts' c' L => ?_⟩
  exact ⟨rfl, hQ s' H' Ts' (lp_take L hz) L.same L.len L.tup L.fpS.1⟩
end
def tListZip (K : PySem.W.Frag) (ta : TA) : TE := fun σ H Q => ta σ H fun vs H1 => ∃ (a b : Addr) (xs ys : List V), vs = [.ref a, .ref b] ∧ SqT K H1 a xs ∧ SqL K H1 b ys ∧ xs.length = ys.length ∧ xs.length ≤ 1000000 ∧
  ∀ (p : Addr) (Ts : List Addr) (H' : Hp), Same H1 H' → Ts.length = xs.length → (∀ (j : Nat) (t : Addr), Ts[j]? = some t → ∃ x y, xs[j]? = some x ∧ ys[j]? = some y ∧ H' t = some (.tup [x, y]) ∧ H1 t = none) → H' p = none → Q (.ref p) (upd H' p (.lst (Ts.map V.ref)))
theorem pe_listZip {X : Cx} {e e2 : Expr} {ta : TA} {p pos p2 pos2 : Pos} (hcalm : X.calm = true) (hgl : Gl X "list") (hml : X.mg "list" = none) (hg : Gl X "zip") (hm : X.mg "zip" = none) (ha : PA X [e, e2] ta)
    (hs : starEach [e, e2] X.env = (false, eval e X.env) :: starEach [e2] X.env := by rfl) (hpl : (backTo pos2 (starEach [e2] X.env)).any (·.1) = false := by rfl)
    (na : starEach [(.Call (.Name "zip" p2) [e, e2] [] pos2 : Expr)] X.env = (false, eval (.Call (.Name "zip" p2) [e, e2] [] pos2) X.env) :: starEach [] X.env := by rfl) :
    PE X (.Call (.Name "list" p) [.Call (.Name "zip" p2) [e, e2] [] pos2] [] pos) (tListZip X.K ta) := by
  refine ⟨fun pins s σ H Q I h => ?_⟩
  refine Call_ (ld_blt I hgl hml boot_list (PyProof.Rows.callWith_type1 (args_cons ?_ na) na))
  refine Call_ (ld_blt I hg hm PyProof.Rows.boot_zip (PyProof.Rows.callWith_type1 (thn (ha.run pos2 pins s σ H _ I h) fun us s1 ⟨vs, H1, I1, r1, q1⟩ => ?_) hs hpl))
  obtain ⟨a, b, xs, ys, ex, hqx, hqy, hl, hz, q⟩ := q1
  subst ex
  obtain ⟨u, u2, rfl, r, r2⟩ : ∃ u u2, us = [u, u2] ∧ RelV (.ref a) u ∧ RelV (.ref b) u2 := by
    cases r1 with
    | cons r rr => cases rr with
      | cons r' rr => cases rr; exact ⟨_, _, rfl, r, r'⟩
  obtain rfl : u = Value.ref a := r
  obtain rfl : u2 = Value.ref b := r2
  obtain ⟨its, rv, p1, _⟩ := I1.tuple hqx
  obtain ⟨its2, rv2, p2, _⟩ := I1.list hqy
  obtain ⟨o1, ho1, _⟩ := id p1
  refine zip_begins2 (begins_tuple a its.toArray) (begins_list b its2.toArray) p1 p2.isList fun h' hz0 hTI hTO h1 h2 hsz hk => args_nil ?_
  have I2 : Inv X pins σ H1 { s1 with heap := h' } := I1.kept (t' := s1.toks) hk
  have mem : ∀ c ∈ [s1.heap.objs.size + 4, s1.heap.objs.size + 2, s1.heap.objs.size + 3, s1.heap.objs.size, s1.heap.objs.size + 1], s1.heap.objs.size ≤ c ∧ c < h'.objs.size := fun c hcm => by
    simp only [List.mem_cons, List.not_mem_nil, or_false] at hcm
    rw [hsz]
    rcases hcm with rfl | rfl | rfl | rfl | rfl
    · exact ⟨Nat.le_add_right _ _, Nat.add_lt_add_left (by decide) _⟩
    · exact ⟨Nat.le_add_right _ _, Nat.add_lt_add_left (by decide) _⟩
    · exact ⟨Nat.le_add_right _ _, Nat.add_lt_add_left (by decide) _⟩
    · exact ⟨Nat.le_refl _, Nat.lt_add_of_pos_right (by decide)⟩
    · exact ⟨Nat.le_add_right _ _, Nat.add_lt_add_left (by decide) _⟩
  refine lp_call (I2.ok.hd hcalm) (PySem.W.ktu_apart s1.heap.objs.size a b (Heap.lt_size ho1) p2.lt) hqx hqy hl hz I2 (fun c hc => I1.fpOk (mem c hc).1 (I1.hok.fresh (mem c hc).1)) (fun c hc => (mem c hc).2) hTI ⟨_, h1, rfl, rfl⟩ ⟨_, h2, rfl, rfl⟩ hz0 hTO fun s' H' Ts' I3 sm ln tp hn => ?_
  exact ⟨.ref _, _, I3, rfl, q _ Ts' H' sm ln tp hn⟩
end
/-! ### the tables of events; event_octets -/
def evD (rows : List (Str × List Str)) : PyData := .tuple (rows.map fun r => .tuple [.str r.1, .tuple (r.2.map PyData.str)])
theorem dpall_strs {K : PySem.W.Frag} {H : Hp} : ∀ {vs : List V} {ss : List Str}, DpAll K H vs (ss.map PyData.str) → vs = ss.map V.str
  | _, [], h => by cases h; rfl
  | _, s :: r, h => by
    cases h with
    | cons h1 h2 => rw [dp_str h1, dpall_strs h2]; rfl
def sp__opcode_of (K : PySem.W.Frag) : Sp := fun vs H Q _ => ∃ (ar : Addr) (rows : List (Str × List Str)) (name : Str) (j : Nat) (row : Str × List Str), vs = [.ref ar, .str name] ∧ Dp K H (.ref ar) (evD rows) ∧ rows.length < 1000 ∧
  rows[j]? = some row ∧ row.1 = name ∧ (∀ (m : Nat) (row' : Str × List Str), m < j → rows[m]? = some row' → row'.1 ≠ name) ∧ ∀ H', Same H H' → Q (.int (j : Nat)) H'
theorem sc__opcode_of : FnScope ["rows", "name", "row"] ["rows", "name"] (defScope s__opcode_of) := ⟨rfl, rfl, rfl, by decide +kernel, rfl, by decide +kernel, by decide +kernel⟩
theorem ok__opcode_of (T : Txt0 P K mg A) : FnOk P w K mg base CX0 1 A.f_opcode_of A.d_opcode_of ["rows", "name"] (sp__opcode_of K) := by
  refine T.F_opcode_of.ok sc__opcode_of (fun vs H Q E h => ?_) (fun cdv Ar outer s H vs Q E hr h => ?_)
  · obtain ⟨_, _, _, _, _, rfl, _⟩ := h
    rfl
  · obtain ⟨ar, rows, name, j, row, rfl, dr, hl, hj, hn, hm, q⟩ := h
    obtain ⟨pr, zs, e0, qs, ds⟩ := dp_tuple dr
    cases e0
    have hzl : zs.length = rows.length := by rw [dpall_len ds, List.length_map]
    refine ⟨_, (pss_one (ps_ret (pe_bm PySem.F.plainAttrs_list PySem.F.slot_list_index PySem.F.type_list_index mt_index (pe_lc (own := [("row", 2)]) (g := (gName 2)) (tt := tYes) rfl sc__opcode_of.nd (pi_tup (pv 0)) (blkOk_by (own := [("row", 2)]) (N := ["rows", "name", "row"]) (sc := defScope s__opcode_of) (by decide +kernel)) (fun _ _ _ _ _ => (pg_name (i := 2) sc__opcode_of.nd rfl (Or.inl rfl))) (fun _ _ _ _ _ => pts_nil) (fun _ _ _ _ _ => by exact (pe_ix (r := rIxT K) ix_tup (pv 2) pe_int (fun _ _ => rfl)))) (pa_cons (pv 1) pa_nil)))), ?_⟩
    refine ⟨_, rfl, ar, rfl, ⟨_, qs⟩, fun D hD => ?_⟩
    refine lc_dp (walk_tup (K := K) (a := ar) (xs := zs)) (K := K) (V0 := H) (H0 := H) (fun i => (rows[i]?).map fun r => PyData.str r.1) _ rfl (Same.refl _) hD (by omega) (fun H' s => s.sqt qs) (fun i x H H' y => y.1) ?_ ?_
    · rintro n z U2 H4 hn' xx ⟨_, hz⟩ Qy Qn hy hno
      obtain ⟨d, hd, dv⟩ := dpall_get ds hz
      rw [List.getElem?_map] at hd
      obtain ⟨r, hr, rfl⟩ := Option.map_eq_some_iff.mp hd
      obtain ⟨pt, ws, rfl, qw, dw⟩ := dp_tuple dv
      cases dw with
      | cons d1 d2 =>
        obtain rfl := dp_str d1
        have qw' := xx.hh.sqt qw
        walk_at "go"
        exact hy (.str r.1) _ _ _ (by rw [hr]; rfl) (Ext.refl xx.vh) (.str _)
    · rintro U2 H4 ws xx uD dA _
      rw [hzl, fm_map] at dA
      have ew : ws = (rows.map fun r => r.1).map V.str := dpall_strs (by rw [List.map_map]; exact dA)
      subst ew
      have eD := xx.vh _ _ uD
      refine ⟨.inl ⟨rfl, _, SqL.of eD⟩, ?_⟩
      walk_at "go"
      have hj2 : ((rows.map fun r => r.1).map V.str)[j]? = some (.str row.1) := by rw [List.getElem?_map, List.getElem?_map, hj]; rfl
      refine ⟨D, _, .str name, j, .str row.1, rfl, rfl, SqL.of eD, rfl, ?_, hj2, ?_, fun m z' hlt hz' => ?_, ?_⟩
      · rw [List.map_map, List.all_map]; exact List.all_eq_true.mpr fun _ _ => rfl
      · show (row.1 == name) = true
        rw [hn]; exact beq_self_eq_true _
      · rw [List.getElem?_map, List.getElem?_map] at hz'
        obtain ⟨y, hy, rfl⟩ := Option.map_eq_some_iff.mp hz'
        obtain ⟨r', hr', rfl⟩ := Option.map_eq_some_iff.mp hy
        show (r'.1 == name) = false
        exact beq_eq_false_iff_ne.mpr (hm m r' hlt hr')
      · exact q _ xx.hh
def sp_event_octets (C : Addr) (w : World) (K : PySem.W.Frag) (B L : Addr) : Sp := fun vs H Q E => ∃ (n : Int) (intf name : Str) (va ar : Addr) (rows : List (Str × List Str)) (j : Nat) (row : Str × List Str) (xs : List V) (args : List Arg), vs = [.int n, .str intf, .str name, .ref va] ∧
  KDct K w C intf (.ref ar) ∧ (∀ H, Dp K H (.ref ar) (evD rows)) ∧ rows.length < 1000 ∧ rows[j]? = some row ∧ row.1 = name ∧ (∀ (m : Nat) (row' : Str × List Str), m < j → rows[m]? = some row' → row'.1 ≠ name) ∧
  SqL K H va xs ∧ xs.length = row.2.length ∧ args.length = row.2.length ∧ row.2.length ≤ 20 ∧ (∀ (i : Nat) (x : V), xs[i]? = some x → ∃ (g : Arg) (k : Str), args[i]? = some g ∧ row.2[i]? = some k ∧ g.kind = k ∧ ArgAt K H x g.val) ∧ (∀ g ∈ args, ArgSpec g.kind g.val true g.os) ∧ (bodyOf args).length < 60000 ∧
  (encBad n j args → ∀ H', Same H H' → E (.ref B) none H') ∧ (¬ encBad n j args → encLong args → ∀ H', Same H H' → E (.ref L) none H') ∧
  (¬ encBad n j args → ¬ encLong args → ∀ p H', NewL H H' p ((msgOcts n j (bodyOf args)).map V.int) → Q (.ref p) H')
theorem sc_event_octets : FnScope ["number", "interface", "name", "values", "rows", "opcode", "kinds"] ["number", "interface", "name", "values"] (defScope s_event_octets) := ⟨rfl, rfl, rfl, by decide +kernel, rfl, by decide +kernel, by decide +kernel⟩
theorem ok_event_octets (T : Txt0 P K mg A) : FnOk P w K mg base (L2.CX P w) 8 A.fevent_octets A.devent_octets ["number", "interface", "name", "values"] (sp_event_octets A.a_EVENTS w K A.CBadMessage A.CMessageTooLong) := by
  refine T.Fevent_octets.okX sc_event_octets (fun vs H Q E h => ?_) (fun cdv Ar outer s H vs Q E hr h => ?_)
  · obtain ⟨_, _, _, _, _, _, _, _, _, _, rfl, _⟩ := h
    rfl
  · obtain ⟨n, intf, name, va, ar, rows, j, row, xs, args, rfl, hd, dr, hl, hj, hn, hm, qx, hxl, hal, h20, hx, hok, hb, qb, ql, q⟩ := h
    obtain ⟨ar', zs, e0, qs, ds⟩ := dp_tuple (dr H)
    cases e0
    refine ⟨_, (pss_cons (ps_set (i := 4) sc_event_octets.nd rfl (Or.inl rfl) (pe_ix (r := rIxD K w) ix_kdict (pe_glob (v := .ref A.a_EVENTS) rfl T.g_EVENTS rfl) (pv 1) (fun _ _ => rfl)))
      (pss_cons (ps_set (i := 5) sc_event_octets.nd rfl (Or.inl rfl) (pe_call (ok__opcode_of T) (hr.mono (by decide)) rfl T.g_opcode_of T.k_opcode_of T.b_opcode_of .nil pass0 (pa_cons (pv 4) (pa_cons (pv 2) pa_nil))))
      (pss_cons (ps_set (i := 6) sc_event_octets.nd rfl (Or.inl rfl) (pe_ix (r := rIxT K) ix_tup (pe_ix (r := rIxT K) ix_tup (pv 4) (pv 5) (fun _ _ => rfl)) pe_int (fun _ _ => rfl)))
      (pss_one (ps_ret (pe_call (ok_encode_message T) (hr.mono (by decide)) rfl T.gencode_message T.kencode_message T.bencode_message .nil (passes_call (takes_of rfl rfl rfl rfl) (fun _ _ _ _ h => h)) (pa_cons (pv 0) (pa_cons (pv 5) (pa_cons (pe_listZip rfl (by rfl) T.list (by rfl) T.zip (pa_cons (pv 6) (pa_cons (pv 3) pa_nil))) pa_nil))))))))), ?_⟩
    have hjz : (rows.map fun r => PyData.tuple [.str r.1, .tuple (r.2.map PyData.str)])[j]? = some (.tuple [.str row.1, .tuple (row.2.map PyData.str)]) := by rw [List.getElem?_map, hj]; rfl
    obtain ⟨z, hz, dz⟩ := dpall_get' ds hjz
    obtain ⟨pt, ws, rfl, qw, dw⟩ := dp_tuple dz
    cases dw with
    | cons d1 d2 => cases d2 with
      | cons d2 d3 =>
        cases d3
        obtain rfl := dp_str d1
        obtain ⟨pk, ks, rfl, qk, dk⟩ := dp_tuple d2
        obtain rfl := dpall_strs dk
        walk_at "go"
        refine ⟨_, _, _, rfl, rfl, hd, ?_⟩
        walk_at "go"
        refine ⟨ar, rows, name, j, row, rfl, dr H, hl, hj, hn, hm, fun H1 s1 => ?_⟩
        have qw1 := s1.sqt qw
        walk_at "go"
        refine ⟨ar, _, _, .ref pt, rfl, rfl, s1.sqt qs, atI_nat hz, ?_⟩
        walk_at "go"
        refine ⟨pk, va, _, xs, rfl, s1.sqt qk, s1.seq qx, by rw [List.length_map]; exact hxl.symm, by rw [List.length_map]; omega, fun p Ts H2 sm ln tp hp => ?_⟩
        have s2 : Same H (upd H2 p (.lst (Ts.map V.ref))) := (s1.trans sm).trans (same_upd hp)
        walk_at "go"
        rw [List.length_map] at ln
        refine ⟨n, j, p, args, rfl, ⟨⟨_, SqL.of upd_same, by rw [List.length_map]; omega, fun i x hi => ?_⟩, hok⟩, hb, by omega, fun c H3 s3 => qb c H3 (s2.trans s3), fun c d H3 s3 => ql c d H3 (s2.trans s3), fun c d p3 H3 nl => q c d p3 H3 ⟨s2.free nl.new, s2.trans nl.same, nl.at_⟩⟩
        rw [List.getElem?_map] at hi
        obtain ⟨t, ht, rfl⟩ := Option.map_eq_some_iff.mp hi
        obtain ⟨x1, y1, e1, e2, e3, e4⟩ := tp i t ht
        rw [List.getElem?_map] at e1
        obtain ⟨k, hk, rfl⟩ := Option.map_eq_some_iff.mp e1
        obtain ⟨g, k', hg, hk', egk, ag⟩ := hx i y1 e2
        have ek : k = k' := Option.some.inj (hk.symm.trans hk')
        refine ⟨g, t, y1, hg, rfl, (same_upd hp).sqt (SqT.of (by rw [egk, ← ek]; exact e3)), ag.to s2⟩
/-! ### views that grow while objects outside of them change -/
structure Grow (U H U' H' : Hp) : Prop where
  vv : Same U U'
  vh : Same U' H'
  nw : ∀ a, U' a ≠ none → U a ≠ none ∨ H a = none
theorem Ext.grow {U H U' H' : Hp} (x : Ext U H U' H') : Grow U H U' H' := ⟨x.vv, x.vh, x.nw⟩
theorem Grow.refl {U H : Hp} (s : Same U H) : Grow U H U H := ⟨Same.refl U, s, fun _ h => Or.inl h⟩
theorem Grow.keepOut {U H U' H' : Hp} (x : Grow U H U' H') {D : Addr} (h : U D = none) (hd : H D ≠ none) : U' D = none := by
  cases e : U' D with
  | none => rfl
  | some o =>
    rcases x.nw D (by rw [e]; exact fun z => by cases z) with q | q
    · exact absurd h q
    · exact absurd q hd
/-- an object outside of the view changes -/
theorem Grow.poke {U H U' H' : Hp} (x : Grow U H U' H') {D : Addr} {o : HO} (h : U' D = none) : Grow U H U' (upd H' D o) :=
  ⟨x.vv, fun b u e => by
    have hb : b ≠ D := fun z => by rw [z, h] at e; cases e
    rw [upd_ne hb]; exact x.vh b u e, x.nw⟩
theorem same_poke {U H : Hp} (s : Same U H) {D : Addr} {o : HO} (h : U D = none) : Same U (upd H D o) := fun b u e => by
  have hb : b ≠ D := fun z => by rw [z, h] at e; cases e
  rw [upd_ne hb]; exact s b u e
/-- what was new behind a change of what the view has not is new ahead of it, if that was there -/
theorem Grow.from_ {U H H1 U' H' : Hp} (x : Grow U H1 U' H') (h : ∀ a, H1 a = none → H a = none) : Grow U H U' H' :=
  ⟨x.vv, x.vh, fun a e => (x.nw a e).imp id (h a)⟩
theorem Grow.trans {U H U1 H1 U2 H2 : Hp} (a : Grow U H U1 H1) (b : Grow U1 H1 U2 H2) (h : ∀ a, H1 a = none → H a = none) : Grow U H U2 H2 :=
  ⟨a.vv.trans b.vv, b.vh, fun x e => by
    rcases b.nw x e with q | q
    · exact a.nw x q
    · exact Or.inr (h x q)⟩
theorem none_poke {H : Hp} {D : Addr} {o : HO} (hd : H D ≠ none) : ∀ a, upd H D o a = none → H a = none := fun a e => by
  by_cases h : a = D
  · subst h; rw [upd_same] at e; cases e
  · rw [upd_ne h] at e; exact e
theorem none_same {H H' : Hp} (s : Same H H') : ∀ a, H' a = none → H a = none := fun a e => s.free e
/-! ### an event that is written, told shortly -/
def EvAt (C : Addr) (w : World) (K : PySem.W.Frag) (H : Hp) (n : Int) (intf name : Str) (va : Addr) (os : List Int) : Prop := ∃ (ar : Addr) (rows : List (Str × List Str)) (j : Nat) (row : Str × List Str) (xs : List V) (args : List Arg),
  KDct K w C intf (.ref ar) ∧ (∀ H, Dp K H (.ref ar) (evD rows)) ∧ rows.length < 1000 ∧ rows[j]? = some row ∧ row.1 = name ∧ (∀ (m : Nat) (row' : Str × List Str), m < j → rows[m]? = some row' → row'.1 ≠ name) ∧
  SqL K H va xs ∧ xs.length = row.2.length ∧ args.length = row.2.length ∧ row.2.length ≤ 20 ∧ (∀ (i : Nat) (x : V), xs[i]? = some x → ∃ (g : Arg) (k : Str), args[i]? = some g ∧ row.2[i]? = some k ∧ g.kind = k ∧ ArgAt K H x g.val) ∧ (∀ g ∈ args, ArgSpec g.kind g.val true g.os) ∧ (bodyOf args).length < 60000 ∧
  ¬ encBad n j args ∧ ¬ encLong args ∧ os = msgOcts n j (bodyOf args)
theorem EvAt.go {C : Addr} {w : World} {K : PySem.W.Frag} {H : Hp} {n : Int} {intf name : Str} {va : Addr} {os : List Int} {B L : Addr} {Q : VK} {E : XK} (h : EvAt C w K H n intf name va os) (q : ∀ p H', NewL H H' p (os.map V.int) → Q (.ref p) H') :
    sp_event_octets C w K B L [.int n, .str intf, .str name, .ref va] H Q E := by
  obtain ⟨ar, rows, j, row, xs, args, h1, h2, h3, h4, h5, h6, h7, h8, h9, h10, h11, h12, h13, h14, h15, rfl⟩ := h
  exact ⟨n, intf, name, va, ar, rows, j, row, xs, args, rfl, h1, h2, h3, h4, h5, h6, h7, h8, h9, h10, h11, h12, h13, fun z => absurd z h14, fun _ z => absurd z h15, fun _ _ => q⟩
theorem EvAt.to {C : Addr} {w : World} {K : PySem.W.Frag} {H H' : Hp} {n : Int} {intf name : Str} {va : Addr} {os : List Int} (h : EvAt C w K H n intf name va os) (s : Same H H') : EvAt C w K H' n intf name va os := by
  obtain ⟨ar, rows, j, row, xs, args, h1, h2, h3, h4, h5, h6, h7, h8, h9, h10, h11, h12, h13, h14, h15, rfl⟩ := h
  exact ⟨ar, rows, j, row, xs, args, h1, h2, h3, h4, h5, h6, s.seq h7, h8, h9, h10, fun i x hx => by obtain ⟨g, k, a1, a2, a3, a4⟩ := h11 i x hx; exact ⟨g, k, a1, a2, a3, a4.to s⟩, h12, h13, h14, h15, rfl⟩
theorem uintOk {i : Int} (h : 0 ≤ i ∧ i ≤ 4294967295) : ArgSpec "uint" (.num i) true (octs (i % 4294967296) 4) := by
  have := ArgSpec.num (i := i) .uint
  rw [decide_eq_true h] at this
  exact this
theorem objOk {i : Int} (h : 1 ≤ i ∧ i ≤ 4294967295) : ArgSpec "object" (.num i) true (octs (i % 4294967296) 4) := by
  have := ArgSpec.num (i := i) .object
  rw [decide_eq_true h] at this
  exact this
theorem intOk {i : Int} (h : -2147483648 ≤ i ∧ i ≤ 2147483647) : ArgSpec "int" (.num i) true (octs (i % 4294967296) 4) := by
  have := ArgSpec.num (i := i) .int
  rw [decide_eq_true h] at this
  exact this
theorem txtOk {s : Str} (h : isText s = true) : ArgSpec "text" (.txt s) true (textOcts s) := by
  have := @ArgSpec.txt s
  rw [h] at this
  exact this
/-- a row of the table of events -/
def EvRow (C : Addr) (w : World) (K : PySem.W.Frag) (intf name : Str) (j : Nat) (ks : List Str) : Prop := ∃ (ar : Addr) (rows : List (Str × List Str)),
  KDct K w C intf (.ref ar) ∧ (∀ H, Dp K H (.ref ar) (evD rows)) ∧ rows.length < 1000 ∧ rows[j]? = some (name, ks) ∧ (∀ (m : Nat) (row' : Str × List Str), m < j → rows[m]? = some row' → row'.1 ≠ name)
def AllAt (K : PySem.W.Frag) (H : Hp) : List V → List Arg → Prop
  | [], [] => True
  | x :: xs, g :: gs => ArgAt K H x g.val ∧ AllAt K H xs gs
  | _, _ => False
theorem AllAt.at {K : PySem.W.Frag} {H : Hp} : ∀ {xs : List V} {gs : List Arg}, AllAt K H xs gs → xs.length = gs.length ∧ ∀ (i : Nat) (x : V), xs[i]? = some x → ∃ g : Arg, gs[i]? = some g ∧ ArgAt K H x g.val
  | [], [], _ => ⟨rfl, fun i x h => by cases h⟩
  | x :: xs, g :: gs, h => by
    obtain ⟨h1, h2⟩ := h
    obtain ⟨e, q⟩ := AllAt.at h2
    refine ⟨congrArg (· + 1) e, fun i y hy => ?_⟩
    cases i with
    | zero => cases hy; exact ⟨g, rfl, h1⟩
    | succ i => exact q i y hy
  | [], _ :: _, h => h.elim
  | _ :: _, [], h => h.elim
theorem EvRow.ev {C : Addr} {w : World} {K : PySem.W.Frag} {intf name : Str} {j : Nat} {ks : List Str} (h : EvRow C w K intf name j ks) {H : Hp} {n : Int} {va : Addr} {xs : List V} (args : List Arg) (hn : 1 ≤ n ∧ n ≤ 4294967295) (hj : j ≤ 1000) (hk : args.map Arg.kind = ks) (h20 : args.length ≤ 20)
    (qx : SqL K H va xs) (hx : AllAt K H xs args) (ok : ∀ g ∈ args, ArgSpec g.kind g.val true g.os) (hb : (bodyOf args).length ≤ 20000) : EvAt C w K H n intf name va (msgOcts n j (bodyOf args)) := by
  obtain ⟨ar, rows, a1, a2, a3, a4, a5⟩ := h
  obtain ⟨e1, e2⟩ := hx.at
  subst hk
  refine ⟨ar, rows, j, _, xs, args, a1, a2, a3, a4, rfl, a5, qx, by rw [e1]; exact (List.length_map ..).symm, (List.length_map ..).symm, by rw [List.length_map]; exact h20, fun i x hi => ?_, ok, by omega, ?_, ?_, rfl⟩
  · obtain ⟨g, hg, ha⟩ := e2 i x hi
    exact ⟨g, g.kind, hg, by rw [List.getElem?_map, hg]; rfl, rfl, ha⟩
  · rintro (z | z | z)
    · exact z hn
    · exact z ⟨by omega, by omega⟩
    · omega
  · unfold encLong; omega
/-! ### fields of instances whose class is known; words that go on by themselves -/
section
open PySem PySem.Spec PyProof.Rows
def tFldC (C : Addr) (ta : TE) (f : Str) : TE := fun σ H Q => ta σ H fun x H1 => ∃ a dx fs v, x = .ref a ∧ H1 a = some (.ins C dx fs) ∧ fs.lookup f = some v ∧ Q v H1
theorem pe_fldC {X : Cx} {e : Expr} {f : Str} {pos : Pos} {ta : TE} {C : Addr} (c : Cls X.K C) (n : NoAttr X.K C f) (he : PE X e ta) (hb : attributeBase e f X.env (eval e X.env) = eval e X.env) : PE X (.Attribute e f pos) (tFldC C ta f) := by
  refine ⟨fun pins s σ H Q I h => ?_⟩
  refine attr_of hb (thn (he.run pins s σ H _ I h) fun u s1 ⟨x, H1, I1, rx, a, dx, fs, v, ex, ea, l, q⟩ => ?_)
  subst ex
  obtain rfl : u = Value.ref a := rx
  exact getattr_ok I1 ea c n l fun u' s2 I2 ru => ⟨v, H1, I2, ru, q⟩
/-- o.f = e: the heap behind it is told by what stands at o, and elsewhere -/
def sFldC (C : Addr) (ta tv : TE) (f : Str) : TS := fun D σ H => tv σ H fun y H1 => ta σ H1 fun x H2 => ∃ a dx fs fs', x = .ref a ∧ H2 a = some (.ins C dx fs) ∧ fs.length < 1000 ∧ putF f y fs = fs' ∧
  ∀ H3 : Hp, H3 a = some (.ins C dx fs') → (∀ b, b ≠ a → H3 b = H2 b) → D.nx σ H3
theorem ps_fldC {X : Cx} {o value : Expr} {f : Str} {pos pos' : Pos} {ta tv : TE} {C : Addr} (c : Cls X.K C) (n : NoAttr X.K C f) (ha : PE X o ta) (hv : PE X value tv) (hs : swapsWith value (some (.Attribute o f pos')) pos.line X.env = pure false) : PS X (.Assign [.Attribute o f pos'] value pos) (sFldC C ta tv f) := by
  refine ⟨fun pins s σ H D I h => ?_⟩
  refine plainObj_wpAny_Assign_Attribute (thn (hv.run pins s σ H _ I h) fun u s1 ⟨y, H1, I1, ry, q⟩ => thn (ha.run pins s1 σ H1 _ I1 q) fun ov s2 ⟨x, H2, I2, rx, a, dx, fs, fs', ex, ea, l, ep, q2⟩ => ?_) hs
  subst ex
  obtain rfl : ov = Value.ref a := rx
  exact setattr_ok I2 ea c n l ry fun s3 I3 => ⟨σ, _, I3, q2 _ (by rw [ep]; exact upd_same) fun b hb => upd_ne hb⟩
end
theorem lk_ne {k k' : Str} {v : V} {r : List (Str × V)} (h : (k == k') = false) : List.lookup k ((k', v) :: r) = List.lookup k r := by rw [List.lookup_cons, h]
theorem pf_nil {f : Str} {v : V} : putF f v [] = [(f, v)] := rfl
theorem pf_eq {f : Str} {v x : V} {r : List (Str × V)} : putF f v ((f, x) :: r) = (f, v) :: r := by
  show (if f = f then _ else _) = _
  rw [if_pos rfl]
theorem pf_ne {f g : Str} {v x : V} {r r' : List (Str × V)} (h : g ≠ f) (e : putF f v r = r') : putF f v ((g, x) :: r) = (g, x) :: r' := by
  show (if g = f then _ else _) = _
  rw [if_neg h, e]
theorem upd_facts {H H2 : Hp} {a : Addr} {o : HO} (h : upd H a o = H2) : H2 a = some o ∧ ∀ b, b ≠ a → H2 b = H b := by
  subst h
  exact ⟨upd_same, fun b hb => upd_ne hb⟩
theorem nn_of {H H' : Hp} (h : ∀ b u, H b = some u → H' b ≠ none) : ∀ b, H' b = none → H b = none := fun b e => by
  cases x : H b with
  | none => rfl
  | some u => exact absurd e (h b u x)
theorem ln_nil {k : Str} : List.lookup k ([] : List (Str × V)) = none := rfl
theorem same_iff {H H' : Hp} : Same H H' ↔ ∀ b, H b ≠ none → H' b = H b :=
  ⟨fun s b h => by
    cases e : H b with
    | none => exact absurd e h
    | some u => exact s b u e, fun s b u e => (s b (by rw [e]; exact fun z => by cases z)).trans e⟩
/-! words for fields and heaps -/
local macro_rules | `(tactic| walk_at "lk") => `(tactic| first
  | exact List.lookup_cons_self
  | (refine (lk_ne (by decide +kernel)).trans ?_; walk_at "lk"))
local macro_rules | `(tactic| walk_at "ln") => `(tactic| first
  | exact ln_nil
  | (refine (lk_ne (by decide +kernel)).trans ?_; walk_at "ln"))
local macro_rules | `(tactic| walk_at "pf") => `(tactic| first
  | exact pf_eq
  | exact pf_nil
  | (apply pf_ne; (focus decide +kernel); walk_at "pf"))
local macro_rules | `(tactic| walk_at "h") => `(tactic| ((try simp only [same_iff] at *); grind [L2.upd]))
local macro_rules | `(tactic| walk_at "gf1") => `(tactic| first
  | refine ⟨_, _, _, _, rfl, (by assumption), (by walk_at "lk"), ?_⟩
  | refine ⟨_, _, _, _, rfl, (by assumption), (by exact Nat.le_of_ble_eq_true rfl), (by walk_at "pf"), ?_⟩
  | refine ⟨_, _, _, rfl, (by assumption), (by walk_at "ln"), ?_⟩
  | refine .inl ⟨rfl, _, SqL.of (by assumption), ?_⟩
  | (refine And.intro (.inl ⟨rfl, _, SqL.of (by assumption)⟩) ?_)
  | walk_at "go2")
local macro_rules | `(tactic| walk_at "gf") => `(tactic| repeat walk_at "gf1")
local macro_rules | `(tactic| walk_at "nn") => `(tactic| walk_at "h")
local macro_rules | `(tactic| walk_at "nl") => `(tactic| ((try unfold L2.tNil); (try dsimp only)))
section
/-! ### o.m(e, ..) within a try, m of an own class, which may raise (our own rule, along the library's for a def) -/
open PySem PySem.Spec PyProof.Rows
def tMethAt (C : Addr) (m : Str) (sp : Sp) (E : L2.St → XK) (ta : TE) (t : TA) : TE := fun σ H Q => ta σ H fun x H1 => ∃ a dx fs, x = .ref a ∧ H1 a = some (.ins C dx fs) ∧ fs.lookup m = none ∧ t σ H1 fun vs H2 => sp (x :: vs) H2 Q (E σ)
theorem pe_methAt {X : Cx} {CX : CXT} {k : Nat} {f C : Addr} {fd : FuncData} {ps : List Str} {sp : Sp} {E : L2.St → XK} {m : Str} {pos apos : Pos} {e o : Expr} {es : List Expr} {ta : TE} {t : TA} {pl : Sem Bool} (he : PE X o ta) (c : Cls X.K C) (hm : Meth X.K C m f) (F : FnOk X.prog X.w X.K X.mg X.base CX k f fd ps sp) (hr : Room k X.A) (hb : Binds X.K fd ps []) (hx : ∀ σ, PassesAt CX X σ (E σ)) (ha : PA X (e :: es) t)
    (hst : starEach (e :: es) X.env = (false, eval e X.env) :: starEach es X.env := by rfl) (hpl : (backTo pos (starEach es X.env)).any (·.1) = false := by rfl)
    (ht : eval (.Call (.Attribute o m apos) (e :: es) [] pos) X.env = (do
      let ov ← eval o X.env
      standAt apos.atName
      let (f, first) ← holding [ov] (getMethod ov m pl)
      callWith pos f first (backTo pos (starEach (e :: es) X.env)) (backToKw pos (keywordEach [] X.env))) := by rfl) :
    PE X (.Call (.Attribute o m apos) (e :: es) [] pos) (tMethAt C m sp E ta t) := by
  refine ⟨fun pins s σ H Q I h => ?_⟩
  refine PySem.W.methodCall_KW (pl := pl) (thn (he.run pins s σ H _ I h) fun u s1 ⟨x, H1, I1, rx, a, dx, fs, ex, ea, l, q⟩ => ?_) ht
  subst ex
  obtain rfl : u = Value.ref a := rx
  refine getmeth_ok I1 ea c hm l ?_
  refine PySem.W.callWith_K (first := [.ref a]) (h₀ := X.base) I.ok.mod.kin hm.kp (thn (ha.run pos pins s1 σ H1 _ I1 q) fun us s2 ⟨vs, H2, I2, r, q2⟩ => ⟨I2.kIn, ?_⟩) hst hpl
  exact run_fnS (us := .ref a :: us) (vs := .ref a :: vs) F hr hb (hx σ) I2 (.cons rfl r) q2
end
section
/-! ### x in t, t a tuple of data (our own rule, along the library's for lists) -/
open PySem PySem.Spec PyProof.Rows
def rInDT (K : PySem.W.Frag) : R2 := fun x y H Q => ∃ d ds, Dp K H x d ∧ Dp K H y (.tuple ds) ∧ SeqAt.shaped d = true ∧ SeqAt.shaped (.tuple ds) = true ∧ Q (.bl (ds.any fun z => PyData.eqv z d)) H
theorem op_inDT {X : Cx} (hu : X.A.units + 65 < cLine) : OpR X (compareOp .In) (rInDT X.K) := by
  intro pins s σ H x y v u Q I rx ry h
  obtain ⟨d, ds, hd, he, sd, se, q⟩ := h
  obtain ⟨as, r1⟩ := Dp.reads I d x v hd rx
  obtain ⟨bs, r2⟩ := Dp.reads I (.tuple ds) y u he ry
  exact SeqAt.in_tuple_reads r2 r1 (SeqAt.canLay_of_shaped se) (SeqAt.canLay_of_shaped sd) (room_in_shaped sd hu) ⟨.bl _, H, I, rfl, q⟩
theorem room65 {k : Nat} {A : Around} (r : Room (k + 1) A) : A.units + 65 < cLine := by have := r.un; omega
end
section
/-! ### xs == [], xs != [] of a list of any items (our own rule, by the library's for lists of unlike lengths) -/
open PySem PySem.Spec PyProof.Rows
def rEqNil (K : PySem.W.Frag) (neg : Bool) : R2 := fun x y H Q => ∃ a b xs, x = .ref a ∧ y = .ref b ∧ SqL K H a xs ∧ SqL K H b [] ∧ Q (.bl (if neg then !xs.isEmpty else xs.isEmpty)) H
theorem op_eqNil {X : Cx} (hu : X.A.units + 64 < cLine) : OpR X (compareOp .Eq) (rEqNil X.K false) := by
  intro pins s σ H x y v u Q I rx ry h
  obtain ⟨a, b, xs, rfl, rfl, ha, hb, q⟩ := h
  cases (show v = Value.ref a from rx)
  cases (show u = Value.ref b from ry)
  obtain ⟨us, r1, p1, _⟩ := I.list ha
  obtain ⟨ws, r2, p2, _⟩ := I.list hb
  cases r2
  cases xs with
  | nil =>
    cases r1
    exact SeqAt.eq_listAt (e := fun _ => true) p1.isList p2.isList rfl (by omega) (fun j h1 h2 => absurd h1 (Nat.not_lt_zero j)) ⟨.bl true, H, I, rfl, q⟩
  | cons z zs =>
    cases r1
    exact SeqAt.eq_list_lengthsAt p1.isList p2.isList (by simp) (by omega) ⟨.bl false, H, I, rfl, q⟩
theorem op_neNil {X : Cx} (hu : X.A.units + 64 < cLine) : OpR X (compareOp .NotEq) (rEqNil X.K true) := by
  intro pins s σ H x y v u Q I rx ry h
  obtain ⟨a, b, xs, rfl, rfl, ha, hb, q⟩ := h
  cases (show v = Value.ref a from rx)
  cases (show u = Value.ref b from ry)
  obtain ⟨us, r1, p1, _⟩ := I.list ha
  obtain ⟨ws, r2, p2, _⟩ := I.list hb
  cases r2
  cases xs with
  | nil =>
    cases r1
    exact SeqAt.RcNeAt.lists (e := fun _ => true) p1.isList p2.isList rfl (by omega) (fun j h1 h2 => absurd h1 (Nat.not_lt_zero j)) _ _ _ _ ⟨.bl false, H, I, rfl, q⟩
  | cons z zs =>
    cases r1
    exact SeqAt.RcNeAt.lists_lengths p1.isList p2.isList (by simp) (by omega) _ _ _ _ ⟨.bl true, H, I, rfl, q⟩
end
/-! ### a heap without some places -/
def hide (H : Hp) (a : Addr) : Hp := fun b => if b = a then none else H b
def paneV : List Int → V
  | [] => .non
  | p :: _ => .int p
def ofF (tr kd : Addr) (on : Bool) : List (Str × V) := [("_transfers", .ref tr), ("_kept", .ref kd), ("_is_hovered", .bl on)]
/-- what is not to be looked at -/
structure Hid (p : Prop) : Prop where
  go : p
/-- where words that go on by themselves stop -/
structure Stop (p : Prop) : Prop where
  go : p
  tr : True
theorem stop {p : Prop} (h : p) : Stop p := ⟨h, trivial⟩
/-! ### small things -/
theorem inV_ints (n : Int) : ∀ ns : List Int, inV (.int n) (ns.map V.int) = decide (n ∈ ns)
  | [] => rfl
  | a :: r => by
    show ((a == n) || inV (.int n) (r.map V.int)) = _
    rw [inV_ints n r]
    by_cases h : a = n
    · subst h; simp
    · have : ¬ n = a := fun z => h z.symm
      simp [this, beq_eq_false_iff_ne.mpr h]
theorem useR {R B C G : Prop} (h : (¬ C → R) → (C → B) → G) (r : ¬ C → R) (b : C → B) : G := h r b
theorem fm_fmap' {α β : Type} (f : α → Option β) (xs : List α) (n : Nat) (h : n = xs.length) (g : Nat → Option β) (hg : ∀ i x, xs[i]? = some x → g i = f x) : fm g n = xs.filterMap f := by
  subst h
  have : ∀ (m : Nat), m ≤ xs.length → fm g m = (xs.take m).filterMap f := by
    intro m
    induction m with
    | zero => intro _; rfl
    | succ m ih =>
      intro hm
      rw [fm_succ, ih (by omega), hg m _ (List.getElem?_eq_getElem (by omega)), List.take_succ_eq_append_getElem (by omega), List.filterMap_append]
      congr 1
  rw [this _ (Nat.le_refl _), List.take_length]
theorem fm_ne (g : Int) (ps : List Int) : (ps.filterMap fun p => if p ≠ g then some (PyData.int p) else none) = (ps.filter fun p => decide (p ≠ g)).map PyData.int := by
  induction ps with
  | nil => rfl
  | cons r t ih =>
    by_cases c : r ≠ g
    · rw [List.filterMap_cons_some (by rw [if_pos c]), List.filter_cons_of_pos (by exact decide_eq_true c), List.map_cons, ih]
    · rw [List.filterMap_cons_none (by rw [if_neg c]), List.filter_cons_of_neg (by simpa using c), ih]
theorem evRow_of {C : Addr} {w : World} {K : PySem.W.Frag} {intf name : Str} {ar : Addr} {ks : List Str} (rows : List (Str × List Str)) (j : Nat) (d : KDct K w C intf (.ref ar)) (dp : ∀ H, Dp K H (.ref ar) (evD rows)) (hl : rows.length < 1000) (hj : rows[j]? = some (name, ks)) (hm : ((rows.take j).all fun r => decide (r.1 ≠ name)) = true) : EvRow C w K intf name j ks := by
  refine ⟨ar, rows, d, dp, hl, hj, fun m row' hlt hr => ?_⟩
  rw [List.all_eq_true] at hm
  have : row' ∈ rows.take j := List.mem_of_getElem? (i := m) (by rw [List.getElem?_take, if_pos hlt]; exact hr)
  exact of_decide_eq_true (hm row' this)
/-! ### what only adds to the view and the heap -/
structure Pu (U H U' H' : Hp) : Prop where
  vv : Same U U'
  vh : Same U' H'
  out : ∀ b, U b = none → H b ≠ none → U' b = none
  nn : ∀ b, H' b = none → H b = none
  kp : ∀ b, H b ≠ none → H' b = H b
theorem Pu.refl {U H : Hp} (s : Same U H) : Pu U H U H := ⟨Same.refl U, s, fun _ h _ => h, fun _ h => h, fun _ _ => rfl⟩
theorem Pu.trans {U H U1 H1 U2 H2 : Hp} (a : Pu U H U1 H1) (b : Pu U1 H1 U2 H2) : Pu U H U2 H2 := by
  obtain ⟨a1, a2, a3, a4, a5⟩ := a
  obtain ⟨b1, b2, b3, b4, b5⟩ := b
  exact ⟨a1.trans b1, b2, by walk_at "h", by walk_at "h", by walk_at "h"⟩
theorem Pu.new {U H : Hp} (s : Same U H) {p : Addr} {o : HO} (h : H p = none) : Pu U H (upd U p o) (upd H p o) :=
  ⟨by walk_at "h", by walk_at "h", by walk_at "h", by walk_at "h", by walk_at "h"⟩
theorem Pu.skip {U H : Hp} (s : Same U H) {p : Addr} {o : HO} (h : H p = none) : Pu U H U (upd H p o) :=
  ⟨Same.refl U, by walk_at "h", fun _ h _ => h, by walk_at "h", by walk_at "h"⟩
theorem _root_.My.Ext.pu {U H U' H' : Hp} (x : Ext U H U' H') : Pu U H U' H' := by
  obtain ⟨x1, x2, x3, x4⟩ := x
  refine ⟨x1, x2, fun b h n => ?_, by walk_at "h", by walk_at "h"⟩
  cases e : U' b with
  | none => rfl
  | some u => exact ((x4 b (by rw [e]; exact fun z => by cases z)).elim (fun z => absurd h z) (fun z => absurd z n))
/-- an object at f is changed, and others added -/
structure Ch (U H U' H' : Hp) (cs : List Addr) : Prop where
  vv : Same U U'
  vh : Same U' H'
  out : ∀ b, U b = none → H b ≠ none → U' b = none
  nn : ∀ b, H' b = none → H b = none
  kp : ∀ b, b ∉ cs → H b ≠ none → H' b = H b
theorem Pu.ch {U H U' H' : Hp} (x : Pu U H U' H') (cs : List Addr) : Ch U H U' H' cs := ⟨x.vv, x.vh, x.out, x.nn, fun b _ h => x.kp b h⟩
theorem Ch.trans {U H U1 H1 U2 H2 : Hp} {cs : List Addr} (a : Ch U H U1 H1 cs) (b : Ch U1 H1 U2 H2 cs) : Ch U H U2 H2 cs := by
  obtain ⟨a1, a2, a3, a4, a5⟩ := a
  obtain ⟨b1, b2, b3, b4, b5⟩ := b
  exact ⟨a1.trans b1, b2, by walk_at "h", by walk_at "h", by walk_at "h"⟩
theorem Ch.mono {U H U' H' : Hp} {cs ds : List Addr} (a : Ch U H U' H' cs) (h : ∀ x ∈ cs, x ∈ ds) : Ch U H U' H' ds := ⟨a.vv, a.vh, a.out, a.nn, fun b hb n => a.kp b (fun z => hb (h b z)) n⟩
theorem Ch.poke {U H : Hp} (s : Same U H) {a : Addr} {o : HO} (hu : U a = none) (cs : List Addr) (h : a ∈ cs) : Ch U H U (upd H a o) cs :=
  ⟨Same.refl U, by walk_at "h", fun _ h _ => h, by walk_at "h", fun b hb n => upd_ne (fun z => hb (by rw [z]; exact h))⟩
/-! ### Fault.__init__, and a Fault that is raised -/
def ffF (n c : Int) (wd : Str) : List (Str × V) := [("words", .str wd), ("code", .int c), ("number", .int n)]
def sp_Fault___init__ (C : Addr) : Sp := fun vs H Q _ => ∃ (a : Addr) (n c : Int) (wd : Str), vs = [.ref a, .int n, .int c, .str wd] ∧ H a = some (exo a C none) ∧
  ∀ (dx : Addr) (H' : Hp), H dx = none → (∀ b, b ≠ a → H b ≠ none → H' b = H b) → (∀ b, H' b = none → H b = none) → ExV H' a C dx (ffF n c wd) → Q .non H'
theorem sc_Fault___init__ : SupScope ["self", "number", "code", "words"] ["self", "number", "code", "words"] (defScope s_Fault___init__) := ⟨rfl, rfl, rfl, by decide +kernel, rfl, by decide +kernel, by decide +kernel, by decide +kernel, rfl, rfl⟩
theorem ok_Fault___init__ (T : Txt0 P K mg A) : FnOk P w K mg base CX0 1 A.fFault___init__ A.dFault___init__ ["self", "number", "code", "words"] (sp_Fault___init__ A.CFault) := by
  refine T.FFault___init__.ok T.prg (ar := _) (rest := _) sc_Fault___init__ (fun vs H Q E h => ?_) rfl rfl rfl T.super (fun _ _ _ => rfl) (fun _ => rfl) (fun _ => rfl) (fun cc cda Ar outer s H vs Q E hr h => ?_)
  · obtain ⟨_, _, _, _, rfl, _⟩ := h
    rfl
  · obtain ⟨a, n, c, wd, rfl, ea, q⟩ := h
    replace q := Hid.mk q
    refine ⟨_, _, a, A.CFault, _, pa_cons (pv 3) pa_nil, pss_cons (ps_ost (pv 0) (pv 1)) (pss_cons (ps_ost (pv 0) (pv 2)) (pss_one (ps_ost (pv 0) (pv 3)))), rfl, ea, T.vFault, ?_⟩
    refine ⟨_, rfl, (by show 1 ≤ 1000; decide), ea, ?_⟩
    refine ⟨_, rfl, _, rfl, a, A.CFault, rfl, T.oFault, T.nFault_number, .inl ⟨ea, fun dx hdx hne => ?_⟩⟩
    have o1 : (upd (upd H dx (exd dx [("number", .int n)])) a (exo a A.CFault (some dx))) a = some (exo a A.CFault (some dx)) := upd_same
    have d1 : (upd (upd H dx (exd dx [("number", .int n)])) a (exo a A.CFault (some dx))) dx = some (exd dx [("number", .int n)]) := by rw [upd_ne hne, upd_same]
    have k1 : ∀ b, b ≠ a → H b ≠ none → (upd (upd H dx (exd dx [("number", .int n)])) a (exo a A.CFault (some dx))) b = H b := by walk_at "h"
    have m1 : ∀ b, (upd (upd H dx (exd dx [("number", .int n)])) a (exo a A.CFault (some dx))) b = none → H b = none := by walk_at "h"
    generalize upd (upd H dx (exd dx [("number", .int n)])) a (exo a A.CFault (some dx)) = H1 at o1 d1 k1 m1 ⊢
    refine ⟨_, rfl, _, rfl, a, A.CFault, rfl, T.oFault, T.nFault_code, .inr ⟨dx, _, o1, d1, (by show 1 ≤ 900; decide), ?_⟩⟩
    have o2 : (upd H1 dx (exd dx [("code", .int c), ("number", .int n)])) a = some (exo a A.CFault (some dx)) := by rw [upd_ne hne.symm]; exact o1
    refine ⟨_, rfl, _, rfl, a, A.CFault, rfl, T.oFault, T.nFault_words, .inr ⟨dx, _, o2, upd_same, (by show 2 ≤ 900; decide), ?_⟩⟩
    refine q.go dx _ hdx ?_ ?_ ⟨by rw [upd_ne hne.symm]; exact o2, upd_same⟩
    · intro b hb hn
      have hbd : b ≠ dx := fun z => hn (by rw [z]; exact hdx)
      rw [upd_ne hbd, upd_ne hbd]; exact k1 b hb hn
    · intro b hb
      by_cases hbd : b = dx
      · rw [hbd]; exact hdx
      · rw [upd_ne hbd, upd_ne hbd] at hb; exact m1 b hb
/-- the raising's reading, told shortly -/
theorem fault_go {C : Addr} {H : Hp} {n c : Int} {wd : Str} {E : XK} (q : ∀ (d : Addr) (H' : Hp), H d = none → H' d = some (.xd (ffF n c wd)) → (∀ b, H b ≠ none → H' b = H b) → (∀ b, b ≠ d → H' b = none → H b = none) → E (.ref C) (some d) H') :
    ∀ a, H a = none → sp_Fault___init__ C [.ref a, .int n, .int c, .str wd] (upd H a (exo a C none)) (fun v H2 => v = .non ∧ ∃ (d : Addr) (fs : List (Str × V)), H2 a = some (exo a C (some d)) ∧ H2 d = some (exd d fs) ∧ H d = none ∧ E (.ref C) (some d) (upd (del H2 a) d (.xd fs))) (fun _ _ _ => False) := by
  intro a ha
  refine ⟨a, n, c, wd, rfl, upd_same, fun dx H' hdx k m ev => ⟨rfl, dx, _, ev.ob, ev.di, ?_, ?_⟩⟩
  · have : dx ≠ a := fun z => by rw [z, upd_same] at hdx; cases hdx
    rw [upd_ne this] at hdx; exact hdx
  · have hda : dx ≠ a := fun z => by rw [z, upd_same] at hdx; cases hdx
    rw [upd_ne hda] at hdx
    refine q dx _ hdx upd_same (fun b hb => ?_) (fun b hbd hb => ?_)
    · have h1 : b ≠ dx := fun z => hb (by rw [z]; exact hdx)
      have h2 : b ≠ a := fun z => hb (by rw [z]; exact ha)
      rw [upd_ne h1, del_ne h2, k b h2 (by rw [upd_ne h2]; exact hb), upd_ne h2]
    · rw [upd_ne hbd] at hb
      by_cases h2 : b = a
      · rw [h2]; exact ha
      · rw [del_ne h2] at hb
        have := m b hb
        rw [upd_ne h2] at this; exact this
/-! ### a Reply -/
def rpF (t e w a : V) : List (Str × V) := [("told", t), ("ended", e), ("wishes", w), ("applied", a)]
def tsD (ts : List (List Int)) : PyData := .list (ts.map pInts)
theorem sh_ts (ts : List (List Int)) : Sh 2 (tsD ts) := sh_list fun d hd => by
  obtain ⟨n, _, rfl⟩ := List.mem_map.mp hd
  exact sh_ints n
structure Rp (C : Addr) (K : PySem.W.Frag) (U H : Hp) (o lt le lw : Addr) (ts : List (List Int)) (es : List Int) (ws : List PyData) : Prop where
  ob : ∃ dx va, H o = some (.ins C dx [("told", .ref lt), ("ended", .ref le), ("wishes", .ref lw), ("applied", va)])
  uo : U o = none
  ut : U lt = none
  ue : U le = none
  uw : U lw = none
  n1 : lt ≠ le
  n2 : lt ≠ lw
  n3 : le ≠ lw
  t : ∃ ys, H lt = some (.lst ys) ∧ DpAll K U ys (ts.map pInts)
  e : H le = some (.lst (es.map V.int))
  w : ∃ ys, H lw = some (.lst ys) ∧ DpAll K U ys ws
theorem Rp.frame {C : Addr} {K : PySem.W.Frag} {U H U' H' : Hp} {o lt le lw : Addr} {ts : List (List Int)} {es : List Int} {ws : List PyData} (h : Rp C K U H o lt le lw ts es ws) (s : Same U U')
    (k : ∀ b, H b ≠ none → U b = none → (b = o ∨ b = lt ∨ b = le ∨ b = lw) → U' b = none ∧ H' b = H b) : Rp C K U' H' o lt le lw ts es ws := by
  obtain ⟨dx, va, e1⟩ := h.ob
  obtain ⟨yt, e2, d2⟩ := h.t
  obtain ⟨yw, e4, d4⟩ := h.w
  have e3 := h.e
  have k1 := k _ (by rw [e1]; exact fun z => by cases z) h.uo (.inl rfl)
  have k1 := (show _ ∧ _ = _ from ⟨k1.1, k1.2.trans e1⟩)
  have k2 := k _ (by rw [e2]; exact fun z => by cases z) h.ut (.inr (.inl rfl))
  have k2 := (show _ ∧ _ = _ from ⟨k2.1, k2.2.trans e2⟩)
  have k3 := k _ (by rw [e3]; exact fun z => by cases z) h.ue (.inr (.inr (.inl rfl)))
  have k3 := (show _ ∧ _ = _ from ⟨k3.1, k3.2.trans e3⟩)
  have k4 := k _ (by rw [e4]; exact fun z => by cases z) h.uw (.inr (.inr (.inr rfl)))
  have k4 := (show _ ∧ _ = _ from ⟨k4.1, k4.2.trans e4⟩)
  exact ⟨⟨dx, va, k1.2⟩, k1.1, k2.1, k3.1, k4.1, h.n1, h.n2, h.n3, ⟨yt, k2.2, d2.to s⟩, k3.2, ⟨yw, k4.2, d4.to s⟩⟩
def sp_Reply_tell (CE : Addr) (w : World) (C : Addr) (K : PySem.W.Frag) : Sp := fun vs H Q _ => ∃ (o lt le lw va : Addr) (n : Int) (intf name : Str) (ts : List (List Int)) (es : List Int) (ws : List PyData) (os : List Int) (U : Hp), vs = [.ref o, .int n, .str intf, .str name, .ref va] ∧ Same U H ∧ Rp C K U H o lt le lw ts es ws ∧ EvAt CE w K H n intf name va os ∧ ts.length ≤ 1000 ∧
  ∀ U' H', Same U U' → Same U' H' → (∀ b, U b = none → H b ≠ none → U' b = none) → (∀ b, H' b = none → H b = none) → (∀ b, b ≠ lt → H b ≠ none → H' b = H b) → Rp C K U' H' o lt le lw (ts ++ [os]) es ws → Q .non H'
theorem sc_Reply_tell : FnScope ["self", "number", "interface", "name", "values"] ["self", "number", "interface", "name", "values"] (defScope s_Reply_tell) := ⟨rfl, rfl, rfl, by decide +kernel, rfl, by decide +kernel, by decide +kernel⟩
theorem ok_Reply_tell (T : Txt0 P K mg A) : FnOk P w K mg base CX0 9 A.fReply_tell A.dReply_tell ["self", "number", "interface", "name", "values"] (sp_Reply_tell A.a_EVENTS w A.CReply K) := by
  refine T.FReply_tell.ok sc_Reply_tell (fun vs H Q E h => ?_) (fun cdv Ar outer s H vs Q E hr h => ?_)
  · obtain ⟨_, _, _, _, _, _, _, _, _, _, _, _, _, rfl, _⟩ := h
    rfl
  · obtain ⟨o, lt, le, lw, va, n, intf, name, ts, es, ws, os, U, rfl, sU, R, ev, hl, q⟩ := h
    obtain ⟨dx, wa, e1⟩ := R.ob
    obtain ⟨yt, et, dt⟩ := R.t
    have hyl : yt.length = ts.length := by rw [dpall_len dt, List.length_map]
    refine ⟨_, (pss_one (ps_expr (pe_bm PySem.F.plainAttrs_list PySem.F.slot_list_append PySem.F.type_list_append mt_append (pe_fldC T.clReply T.nReply_told (pv 0) rfl) (pa_cons (pe_call (ok_event_octets T) (hr.mono (by decide)) rfl T.gevent_octets T.kevent_octets T.bevent_octets .nil passL (pa_cons (pv 1) (pa_cons (pv 2) (pa_cons (pv 3) (pa_cons (pv 4) pa_nil))))) pa_nil)))), ?_⟩
    walk_at "gf"
    unfold tNil
    dsimp only
    refine ev.go fun p H2 n2 => ?_
    have np := n2.new
    have ns := n2.same
    have na := n2.at_
    have no : o ≠ lt := ne_of e1 et (by intro z; cases z)
    have s2 : Same U (upd U p (.lst (os.map V.int))) := by walk_at "h"
    have e2 : H2 lt = some (.lst yt) := ns _ _ et
    refine ⟨lt, _, _, rfl, rfl, e2, Nat.lt_of_lt_of_le (m := 100000) (by omega) (by decide), ?_⟩
    have hu := R.ut
    have k1 : ∀ b, b ≠ lt → H b ≠ none → (upd H2 lt (.lst (yt ++ [.ref p]))) b = H b := by walk_at "h"
    refine q (upd U p (.lst (os.map V.int))) _ s2 (by walk_at "h") (by walk_at "h") (by walk_at "nn") k1 ?_
    have R2 : Rp A.CReply K (upd U p (.lst (os.map V.int))) H2 o lt le lw ts es ws := R.frame s2 (by walk_at "h")
    obtain ⟨wx, e4, d4⟩ := R2.w
    have e3 := R2.e
    exact ⟨⟨dx, wa, by walk_at "h"⟩, R2.uo, R2.ut, R2.ue, R2.uw, R2.n1, R2.n2, R2.n3, ⟨_, upd_same, by rw [List.map_append]; exact dpall_app (dt.to s2) (.cons (dp_ints (SqL.of upd_same)) .nil)⟩, by rw [upd_ne R2.n1.symm]; exact e3, ⟨wx, by rw [upd_ne R2.n2.symm]; exact e4, d4⟩⟩
def sp_Reply___init__ (C : Addr) (K : PySem.W.Frag) : Sp := fun vs H Q _ => ∃ (o dx : Addr) (U : Hp), vs = [.ref o] ∧ H o = some (.ins C dx []) ∧ Same U H ∧ U o = none ∧ ∀ (p1 p2 p3 : Addr) (H' : Hp), Same U H' → (∀ b, b ≠ o → H b ≠ none → H' b = H b) → (∀ b, H' b = none → H b = none) → H p1 = none → H p2 = none → H p3 = none →
  Rp C K U H' o p1 p2 p3 [] [] [] → Q .non H'
theorem sc_Reply___init__ : FnScope ["self"] ["self"] (defScope s_Reply___init__) := ⟨rfl, rfl, rfl, by decide +kernel, rfl, by decide +kernel, by decide +kernel⟩
theorem ok_Reply___init__ (T : Txt0 P K mg A) : FnOk P w K mg base CX0 1 A.fReply___init__ A.dReply___init__ ["self"] (sp_Reply___init__ A.CReply K) := by
  refine T.FReply___init__.ok sc_Reply___init__ (fun vs H Q E h => ?_) (fun cdv Ar outer st H vs Q E hr h => ?_)
  · obtain ⟨_, _, _, rfl, _⟩ := h
    rfl
  · obtain ⟨ob, dx, U, rfl, ho, sU, uo, q⟩ := h
    refine ⟨_, (pss_cons (ps_fldC T.clReply T.nReply_told (pv 0) (pe_lst pa_nil) rfl)
      (pss_cons (ps_fldC T.clReply T.nReply_ended (pv 0) (pe_lst pa_nil) rfl)
      (pss_cons (ps_fldC T.clReply T.nReply_wishes (pv 0) (pe_lst pa_nil) rfl)
      (pss_one (ps_fldC T.clReply T.nReply_applied (pv 0) (pe_lst pa_nil) rfl))))), ?_⟩
    refine ⟨len_line (by show 0 ≤ 100000; decide), fun p1 n1 => ?_⟩
    have e1 : (upd H p1 (.lst [])) ob = some (.ins A.CReply dx []) := by walk_at "h"
    walk_at "gf"
    intro H1 f1 k1
    refine ⟨len_line (by show 0 ≤ 100000; decide), fun p2 n2 => ?_⟩
    have e2 : (upd H1 p2 (.lst [])) ob = some (.ins A.CReply dx _) := (same_upd n2) _ _ f1
    walk_at "gf"
    intro H2 f2 k2
    refine ⟨len_line (by show 0 ≤ 100000; decide), fun p3 n3 => ?_⟩
    have e3 : (upd H2 p3 (.lst [])) ob = some (.ins A.CReply dx _) := (same_upd n3) _ _ f2
    walk_at "gf"
    intro H3 f3 k3
    refine ⟨len_line (by show 0 ≤ 100000; decide), fun p4 n4 => ?_⟩
    have e4 : (upd H3 p4 (.lst [])) ob = some (.ins A.CReply dx _) := (same_upd n4) _ _ f3
    walk_at "gf"
    intro H4 f4 k4
    have z1 : p1 ≠ ob := by walk_at "h"
    have z2 : p2 ≠ ob := by walk_at "h"
    have z3 : p3 ≠ ob := by walk_at "h"
    have z4 : p4 ≠ ob := by walk_at "h"
    have g1 : H1 p1 = some (.lst []) := by walk_at "h"
    have g12 : p1 ≠ p2 := by walk_at "h"
    have g2 : H2 p1 = some (.lst []) ∧ H2 p2 = some (.lst []) := by walk_at "h"
    have g13 : p1 ≠ p3 := by walk_at "h"
    have g23 : p2 ≠ p3 := by walk_at "h"
    have g3 : H3 p1 = some (.lst []) ∧ H3 p2 = some (.lst []) ∧ H3 p3 = some (.lst []) := by walk_at "h"
    have g4 : H4 p1 = some (.lst []) ∧ H4 p2 = some (.lst []) ∧ H4 p3 = some (.lst []) := by walk_at "h"
    have m1 : ∀ b, b ≠ ob → H b ≠ none → H1 b = H b := by walk_at "h"
    have m2 : ∀ b, b ≠ ob → H b ≠ none → H2 b = H b := by walk_at "h"
    have m3 : ∀ b, b ≠ ob → H b ≠ none → H3 b = H b := by walk_at "h"
    have m4 : ∀ b, b ≠ ob → H b ≠ none → H4 b = H b := by walk_at "h"
    have f1' : H p1 = none := by walk_at "h"
    have f2' : H p2 = none := by walk_at "h"
    have f3' : H p3 = none := by walk_at "h"
    have sm : Same U H4 := by walk_at "h"
    refine q p1 p2 p3 H4 sm m4 (by walk_at "nn") f1' f2' f3' ⟨⟨dx, _, f4⟩, uo, sU.free f1', sU.free f2', sU.free f3', g12, g13, g23, ⟨[], g4.1, .nil⟩, g4.2.1, ⟨[], g4.2.2, .nil⟩⟩
/-! ### arguments of events -/
def argU (i : Int) : Arg := ⟨"uint", .num i, octs (i % 4294967296) 4⟩
def argI (i : Int) : Arg := ⟨"int", .num i, octs (i % 4294967296) 4⟩
def argO (i : Int) : Arg := ⟨"object", .num i, octs (i % 4294967296) 4⟩
def argT (s : Str) : Arg := ⟨"text", .txt s, textOcts s⟩
def u32 (i : Int) : Prop := 0 ≤ i ∧ i ≤ 4294967295
def okArgs : List Arg → Prop
  | [] => True
  | g :: r => (ArgSpec g.kind g.val true g.os ∧ g.os.length ≤ 60) ∧ okArgs r
theorem okArgs.at : ∀ {gs : List Arg}, okArgs gs → (∀ g ∈ gs, ArgSpec g.kind g.val true g.os ∧ g.os.length ≤ 60)
  | [], _ => fun g h => by cases h
  | g :: r, h => fun x hx => by
    rcases List.mem_cons.mp hx with rfl | hx
    · exact h.1
    · exact okArgs.at h.2 x hx
theorem okU {i : Int} (h : u32 i) : ArgSpec (argU i).kind (argU i).val true (argU i).os ∧ (argU i).os.length ≤ 60 := ⟨uintOk h, by show (octs _ 4).length ≤ 60; rw [octs_len]; decide⟩
theorem okO {i : Int} (h : 1 ≤ i ∧ i ≤ 4294967295) : ArgSpec (argO i).kind (argO i).val true (argO i).os ∧ (argO i).os.length ≤ 60 := ⟨objOk h, by show (octs _ 4).length ≤ 60; rw [octs_len]; decide⟩
theorem okI {i : Int} (h : -2147483648 ≤ i ∧ i ≤ 2147483647) : ArgSpec (argI i).kind (argI i).val true (argI i).os ∧ (argI i).os.length ≤ 60 := ⟨intOk h, by show (octs _ 4).length ≤ 60; rw [octs_len]; decide⟩
theorem okT {s : Str} (h : isText s = true) (l : s.length ≤ 50) : ArgSpec (argT s).kind (argT s).val true (argT s).os ∧ (argT s).os.length ≤ 60 := ⟨txtOk h, by show (textOcts s).length ≤ 60; have := textOcts_len s; omega⟩
theorem EvRow.evA {C : Addr} {w : World} {K : PySem.W.Frag} {intf name : Str} {j : Nat} {ks : List Str} (h : EvRow C w K intf name j ks) {H : Hp} {n : Int} {va : Addr} {xs : List V} (args : List Arg) (hn : 1 ≤ n ∧ n ≤ 4294967295) (hj : j ≤ 1000) (hk : args.map Arg.kind = ks) (h20 : args.length ≤ 20)
    (e : H va = some (.lst xs)) (hx : AllAt K H xs args) (ok : okArgs args) : EvAt C w K H n intf name va (msgOcts n j (bodyOf args)) := by
  have q := ok.at
  refine h.ev args hn hj hk h20 (SqL.of e) hx (fun g hg => (q g hg).1) ?_
  have := body_len_le (args := args) (c := 60) (fun g hg => (q g hg).2)
  have : 60 * args.length ≤ 60 * 20 := Nat.mul_le_mul_left _ h20
  omega
/-! ### outputs -/
structure Out where
  n : Int
  x : Int
  y : Int
  w : Int
  h : Int
  s : Int
  t : Int
def OutAt (C : Addr) (U : Hp) (v : V) (o : Out) : Prop := ∃ a dx, v = .ref a ∧ U a = some (.ins C dx [("number", .int o.n), ("x", .int o.x), ("y", .int o.y), ("width", .int o.w), ("height", .int o.h), ("scale", .int o.s), ("turn", .int o.t)])
theorem OutAt.to {C : Addr} {U U' : Hp} {v : V} {o : Out} (h : OutAt C U v o) (s : Same U U') : OutAt C U' v o := by
  obtain ⟨a, dx, e, e1⟩ := h
  exact ⟨a, dx, e, s _ _ e1⟩
def OutOk (o : Out) : Prop := 0 ≤ o.n ∧ o.n ≤ 20 ∧ 0 ≤ o.w ∧ o.w ≤ 1000 ∧ 0 ≤ o.h ∧ o.h ≤ 1000 ∧ 0 ≤ o.s ∧ o.s ≤ 1000 ∧ 0 ≤ o.t ∧ o.t ≤ 1000
def OutsAt (C : Addr) (K : PySem.W.Frag) (U : Hp) (v : V) (os : List Out) : Prop := ∃ a zs, v = .ref a ∧ SqL K U a zs ∧ zs.length = os.length ∧ os.length ≤ 20 ∧ (∀ (i : Nat) (z : V), zs[i]? = some z → ∃ o, os[i]? = some o ∧ OutAt C U z o) ∧ ∀ o ∈ os, OutOk o
theorem OutsAt.to {C : Addr} {K : PySem.W.Frag} {U U' : Hp} {v : V} {os : List Out} (h : OutsAt C K U v os) (s : Same U U') : OutsAt C K U' v os := by
  obtain ⟨a, zs, e, e1, e2, e3, e4, e5⟩ := h
  exact ⟨a, zs, e, s.seq e1, e2, e3, fun i z hz => by obtain ⟨o, a, b⟩ := e4 i z hz; exact ⟨o, a, b.to s⟩, e5⟩
def sp_Output___init__ (C : Addr) : Sp := fun vs H Q _ => ∃ (a dx : Addr) (o : Out), vs = [.ref a, .int o.n, .int o.x, .int o.y, .int o.w, .int o.h, .int o.s, .int o.t] ∧ H a = some (.ins C dx []) ∧ ∀ H' : Hp, H' a = some (.ins C dx [("number", .int o.n), ("x", .int o.x), ("y", .int o.y), ("width", .int o.w), ("height", .int o.h), ("scale", .int o.s), ("turn", .int o.t)]) → (∀ b, b ≠ a → H' b = H b) → Q .non H'
theorem sc_Output___init__ : FnScope ["self", "number", "x", "y", "width", "height", "scale", "turn"] ["self", "number", "x", "y", "width", "height", "scale", "turn"] (defScope s_Output___init__) := ⟨rfl, rfl, rfl, by decide +kernel, rfl, by decide +kernel, by decide +kernel⟩
theorem ok_Output___init__ (T : Txt0 P K mg A) : FnOk P w K mg base CX0 1 A.fOutput___init__ A.dOutput___init__ ["self", "number", "x", "y", "width", "height", "scale", "turn"] (sp_Output___init__ A.COutput) := by
  refine T.FOutput___init__.ok sc_Output___init__ (fun vs H Q E h => ?_) (fun cdv Ar outer st H vs Q E hr h => ?_)
  · obtain ⟨_, _, _, rfl, _⟩ := h
    rfl
  · obtain ⟨a, dx, o, rfl, ho, q⟩ := h
    replace q := Hid.mk q
    refine ⟨_, (pss_cons (ps_fldC T.clOutput T.nOutput_number (pv 0) (pv 1) rfl)
      (pss_cons (ps_fldC T.clOutput T.nOutput_x (pv 0) (pv 2) rfl)
      (pss_cons (ps_fldC T.clOutput T.nOutput_y (pv 0) (pv 3) rfl)
      (pss_cons (ps_fldC T.clOutput T.nOutput_width (pv 0) (pv 4) rfl)
      (pss_cons (ps_fldC T.clOutput T.nOutput_height (pv 0) (pv 5) rfl)
      (pss_cons (ps_fldC T.clOutput T.nOutput_scale (pv 0) (pv 6) rfl)
      (pss_one (ps_fldC T.clOutput T.nOutput_turn (pv 0) (pv 7) rfl)))))))), ?_⟩
    walk_at "gf"
    intro H1 f1 k1
    walk_at "gf"
    intro H2 f2 k2
    walk_at "gf"
    intro H3 f3 k3
    walk_at "gf"
    intro H4 f4 k4
    walk_at "gf"
    intro H5 f5 k5
    walk_at "gf"
    intro H6 f6 k6
    walk_at "gf"
    intro H7 f7 k7
    exact q.go H7 f7 (fun b hb => by rw [k7 b hb, k6 b hb, k5 b hb, k4 b hb, k3 b hb, k2 b hb, k1 b hb])
def sp_Request___init__ (C : Addr) : Sp := fun vs H Q _ => ∃ (a dx : Addr) (n : Int) (i m : Str) (va : V) (e : Bool), vs = [.ref a, .int n, .str i, .str m, va, .bl e] ∧ H a = some (.ins C dx []) ∧ ∀ H' : Hp, H' a = some (.ins C dx [("number", .int n), ("interface", .str i), ("name", .str m), ("arguments", va), ("ends", .bl e)]) → (∀ b, b ≠ a → H' b = H b) → Q .non H'
theorem sc_Request___init__ : FnScope ["self", "number", "interface", "name", "arguments", "ends"] ["self", "number", "interface", "name", "arguments", "ends"] (defScope s_Request___init__) := ⟨rfl, rfl, rfl, by decide +kernel, rfl, by decide +kernel, by decide +kernel⟩
theorem ok_Request___init__ (T : Txt0 P K mg A) : FnOk P w K mg base CX0 1 A.fRequest___init__ A.dRequest___init__ ["self", "number", "interface", "name", "arguments", "ends"] (sp_Request___init__ A.CRequest) := by
  refine T.FRequest___init__.ok sc_Request___init__ (fun vs H Q E h => ?_) (fun cdv Ar outer st H vs Q E hr h => ?_)
  · obtain ⟨_, _, _, _, _, _, _, rfl, _⟩ := h
    rfl
  · obtain ⟨a, dx, n, i, m, va, e, rfl, ho, q⟩ := h
    replace q := Hid.mk q
    refine ⟨_, (pss_cons (ps_fldC T.clRequest T.nRequest_number (pv 0) (pv 1) rfl)
      (pss_cons (ps_fldC T.clRequest T.nRequest_interface (pv 0) (pv 2) rfl)
      (pss_cons (ps_fldC T.clRequest T.nRequest_name (pv 0) (pv 3) rfl)
      (pss_cons (ps_fldC T.clRequest T.nRequest_arguments (pv 0) (pv 4) rfl)
      (pss_one (ps_fldC T.clRequest T.nRequest_ends (pv 0) (pv 5) rfl)))))), ?_⟩
    walk_at "gf"
    intro H1 f1 k1
    walk_at "gf"
    intro H2 f2 k2
    walk_at "gf"
    intro H3 f3 k3
    walk_at "gf"
    intro H4 f4 k4
    walk_at "gf"
    intro H5 f5 k5
    exact q.go H5 f5 (fun b hb => by rw [k5 b hb, k4 b hb, k3 b hb, k2 b hb, k1 b hb])
def oFind (os : List Out) (n : Int) : Option Out := os.find? fun o => decide (o.n = n)
def optV : Option Int → V
  | none => .non
  | some i => .int i
def oFindO (os : List Out) : Option Int → Option Out
  | none => none
  | some n => oFind os n
/-- the first output of a number, or None; of None none -/
def sp_output_numbered (C : Addr) (K : PySem.W.Frag) : Sp := fun vs H Q _ => ∃ (v : V) (os : List Out) (n : Option Int) (U : Hp), vs = [v, optV n] ∧ OutsAt C K U v os ∧ Same U H ∧ (oFindO os n = none → Q .non H) ∧ ∀ z o, oFindO os n = some o → OutAt C U z o → Q z H
theorem sc_output_numbered : FnScope ["outputs", "number", "output"] ["outputs", "number"] (defScope s_output_numbered) := ⟨rfl, rfl, rfl, by decide +kernel, rfl, by decide +kernel, by decide +kernel⟩
theorem ok_output_numbered (T : Txt0 P K mg A) : FnOk P w K mg base CX0 1 A.foutput_numbered A.doutput_numbered ["outputs", "number"] (sp_output_numbered A.COutput K) := by
  refine T.Foutput_numbered.ok sc_output_numbered (fun vs H Q E h => ?_) (fun cdv Ar outer st H vs Q E hr h => ?_)
  · obtain ⟨_, _, _, _, rfl, _⟩ := h
    rfl
  · obtain ⟨v, os, n, U, rfl, O, sU, q1, q2⟩ := h
    obtain ⟨a, zs, rfl, hq, hl, hm, hz, hok⟩ := O
    refine ⟨_, (pss_cons (ps_for PassesOwn.never rfl (pi_list (pv 0)) (pg_name (i := 2) sc_output_numbered.nd rfl (Or.inl rfl))
      (pss_one (ps_if (pt_cmpR op_eq (pe_fldC T.clOutput T.nOutput_number (pv 2) rfl) (pv 1) (nomark _))
      (pss_one (ps_ret (pv 2)))
      pss_nil)))
      (pss_one (ps_ret pe_non))), ?_⟩
    walk_at "gf"
    refine ⟨⟨_, sU.seq hq⟩, for_list (K := K) (a := a) (xs := zs) (fun i σ H' => ∃ v2, σ = [some (.ref a), some (optV n), v2] ∧ H' = H ∧ oFindO (os.take i) n = none) ⟨_, rfl, rfl, by cases n <;> rfl⟩ (fun i σ H' _ ⟨_, _, e, _⟩ => by rw [e]; exact sU.seq hq) ?_ ?_⟩
    · rintro i z σ H' hi ⟨v2, rfl, rfl, hn⟩
      obtain ⟨o, ho, az⟩ := hz i z hi
      obtain ⟨b, dx, rfl, eb⟩ := az
      have ebH := sU _ _ eb
      walk_at "gf"
      have hlt : i < os.length := (List.getElem?_eq_some_iff.mp ho).1
      have htk : os.take (i + 1) = os.take i ++ [o] := by
        rw [List.take_succ_eq_append_getElem hlt]
        obtain ⟨_, e⟩ := List.getElem?_eq_some_iff.mp ho
        rw [e]
      cases n with
      | none =>
        refine ⟨rfl, _, rfl, ?_⟩
        refine if_f rfl ?_
        exact ⟨_, rfl, rfl, rfl⟩
      | some n =>
        refine ⟨rfl, _, rfl, ?_⟩
        have hn : oFind (os.take i) n = none := hn
        refine iteEq (fun c => ?_) (fun c => ?_)
        · walk_at "gf"
          refine q2 _ o ?_ ⟨b, dx, rfl, eb⟩
          show oFind os n = some o
          unfold oFind
          rw [show os = os.take (i + 1) ++ os.drop (i + 1) from (List.take_append_drop _ _).symm, List.find?_append, htk, List.find?_append]
          unfold oFind at hn
          rw [hn, Option.none_or, List.find?_cons, decide_eq_true c]; rfl
        · refine ⟨_, rfl, rfl, ?_⟩
          show oFind (os.take (i + 1)) n = none
          unfold oFind at hn ⊢
          rw [htk, List.find?_append, hn, Option.none_or, List.find?_cons, decide_eq_false c]; rfl
    · rintro σ H' ⟨v2, rfl, rfl, hn⟩
      rw [hl, List.take_length] at hn
      walk_at "gf"
      exact q1 hn
def sp__size_row (C : Addr) : Sp := fun vs H Q _ => ∃ (v : V) (o : Out), vs = [v] ∧ OutAt C H v o ∧ ∀ p, H p = none → Q (.ref p) (upd H p (.lst [.int o.w, .int o.h, .int o.s, .int o.t]))
theorem sc__size_row : FnScope ["output"] ["output"] (defScope s__size_row) := ⟨rfl, rfl, rfl, by decide +kernel, rfl, by decide +kernel, by decide +kernel⟩
theorem ok__size_row (T : Txt0 P K mg A) : FnOk P w K mg base CX0 1 A.f_size_row A.d_size_row ["output"] (sp__size_row A.COutput) := by
  refine T.F_size_row.ok sc__size_row (fun vs H Q E h => ?_) (fun cdv Ar outer st H vs Q E hr h => ?_)
  · obtain ⟨_, _, rfl, _⟩ := h
    rfl
  · obtain ⟨v, o, rfl, ⟨a, dx, rfl, e⟩, q⟩ := h
    refine ⟨_, (pss_one (ps_ret (pe_lst (pa_cons (pe_fldC T.clOutput T.nOutput_width (pv 0) rfl) (pa_cons (pe_fldC T.clOutput T.nOutput_height (pv 0) rfl) (pa_cons (pe_fldC T.clOutput T.nOutput_scale (pv 0) rfl) (pa_cons (pe_fldC T.clOutput T.nOutput_turn (pv 0) rfl) pa_nil))))))), ?_⟩
    walk_at "gf"
    exact q _ (by assumption)
theorem sc__law_size : FnScope ["output"] ["output"] (defScope s__law_size) := ⟨rfl, rfl, rfl, by decide +kernel, rfl, by decide +kernel, by decide +kernel⟩
theorem ok__law_size (T : Txt0 P K mg A) : FnOk P w K mg base CX0 1 A.f_law_size A.d_law_size ["output"] (sp__size_row A.COutput) := by
  refine T.F_law_size.ok sc__law_size (fun vs H Q E h => ?_) (fun cdv Ar outer st H vs Q E hr h => ?_)
  · obtain ⟨_, _, rfl, _⟩ := h
    rfl
  · obtain ⟨v, o, rfl, ⟨a, dx, rfl, e⟩, q⟩ := h
    refine ⟨_, (pss_one (ps_ret (pe_lst (pa_cons (pe_fldC T.clOutput T.nOutput_width (pv 0) rfl) (pa_cons (pe_fldC T.clOutput T.nOutput_height (pv 0) rfl) (pa_cons (pe_fldC T.clOutput T.nOutput_scale (pv 0) rfl) (pa_cons (pe_fldC T.clOutput T.nOutput_turn (pv 0) rfl) pa_nil))))))), ?_⟩
    walk_at "gf"
    exact q _ (by assumption)
def sp__global_number (C : Addr) : Sp := fun vs H Q _ => ∃ (v : V) (o : Out), vs = [v] ∧ OutAt C H v o ∧ Q (.int (16 + o.n)) H
theorem sc__global_number : FnScope ["output"] ["output"] (defScope s__global_number) := ⟨rfl, rfl, rfl, by decide +kernel, rfl, by decide +kernel, by decide +kernel⟩
theorem ok__global_number (T : Txt0 P K mg A) : FnOk P w K mg base CX0 1 A.f_global_number A.d_global_number ["output"] (sp__global_number A.COutput) := by
  refine T.F_global_number.ok sc__global_number (fun vs H Q E h => ?_) (fun cdv Ar outer st H vs Q E hr h => ?_)
  · obtain ⟨_, _, rfl, _⟩ := h
    rfl
  · obtain ⟨v, o, rfl, ⟨a, dx, rfl, e⟩, q⟩ := h
    refine ⟨_, (pss_one (ps_ret (pe_op op_add (pe_glob (v := .int (16)) rfl T.g_FIRST_OUTPUT ⟨_, rfl⟩) (pe_fldC T.clOutput T.nOutput_number (pv 0) rfl)))), ?_⟩
    walk_at "gf"
    exact q
def outR (r n x : Int) : Out := ⟨n, x, r % 7 - 3, 1 + r / 7 % 5, 1 + r / 35 % 4, 1 + r / 140 % 2, r / 280 % 8⟩
def sp__law_output (C : Addr) : Sp := fun vs H Q _ => ∃ (r n x : Int) (U : Hp), vs = [.int r, .int n, .int x] ∧ Same U H ∧ ∀ v U' H', Pu U H U' H' → OutAt C U' v (outR r n x) → Q v H'
theorem sc__law_output : FnScope ["row", "number", "x"] ["row", "number", "x"] (defScope s__law_output) := ⟨rfl, rfl, rfl, by decide +kernel, rfl, by decide +kernel, by decide +kernel⟩
theorem ok__law_output (T : Txt0 P K mg A) : FnOk P w K mg base CX0 3 A.f_law_output A.d_law_output ["row", "number", "x"] (sp__law_output A.COutput) := by
  refine T.F_law_output.ok sc__law_output (fun vs H Q E h => ?_) (fun cdv Ar outer st H vs Q E hr h => ?_)
  · obtain ⟨_, _, _, _, rfl, _⟩ := h
    rfl
  · obtain ⟨r, n, x, U, rfl, sU, q⟩ := h
    replace q := Hid.mk q
    refine ⟨_, (pss_one (ps_ret (pe_make T.MOutput (ok_Output___init__ T) (hr.mono (by decide)) rfl T.gOutput T.bOutput___init__ .nil pass0 (pa_cons (pv 1) (pa_cons (pv 2) (pa_cons (pe_op op_sub (pe_op op_mod (pe_callTy call_int1 (by rfl) T.int (by decide +kernel) (pa_cons (pv 0) pa_nil)) pe_int) pe_int) (pa_cons (pe_op op_add pe_int (pe_op op_mod (pe_callTy call_int1 (by rfl) T.int (by decide +kernel) (pa_cons (pe_op op_fdiv (pv 0) pe_int) pa_nil)) pe_int)) (pa_cons (pe_op op_add pe_int (pe_op op_mod (pe_callTy call_int1 (by rfl) T.int (by decide +kernel) (pa_cons (pe_op op_fdiv (pv 0) pe_int) pa_nil)) pe_int)) (pa_cons (pe_op op_add pe_int (pe_op op_mod (pe_callTy call_int1 (by rfl) T.int (by decide +kernel) (pa_cons (pe_op op_fdiv (pv 0) pe_int) pa_nil)) pe_int)) (pa_cons (pe_op op_mod (pe_callTy call_int1 (by rfl) T.int (by decide +kernel) (pa_cons (pe_op op_fdiv (pv 0) pe_int) pa_nil)) pe_int) pa_nil)))))))))), ?_⟩
    walk_at "gf"
    intro a dx ha hdx nd
    refine ⟨a, dx, outR r n x, rfl, upd_same, fun H2 e2 k2 => ⟨rfl, ?_⟩⟩
    refine q.go (.ref a) (upd U a (.ins A.COutput dx [("number", .int (outR r n x).n), ("x", .int (outR r n x).x), ("y", .int (outR r n x).y), ("width", .int (outR r n x).w), ("height", .int (outR r n x).h), ("scale", .int (outR r n x).s), ("turn", .int (outR r n x).t)])) H2 ⟨by walk_at "h", by walk_at "h", by walk_at "h", by walk_at "h", by walk_at "h"⟩ ⟨a, dx, rfl, upd_same⟩
/-! ### rows of globals -/
def glob6 : List (Int × Str) := [(1, "memory"), (2, "compositor"), (3, "joiner"), (4, "windows"), (5, "seat"), (6, "transfer")]
def rwD (r : Int × Str) : PyData := .tuple [.int r.1, .str r.2]
def rowsOf (os : List Out) : List (Int × Str) := glob6 ++ os.map fun o => ((16 + o.n : Int), ("output" : Str))
theorem sh_rw (r : Int × Str) (h : PyData.strOk r.2 = true) : Sh 1 (rwD r) := sh_tuple fun d hd => by
  simp only [List.mem_cons, List.not_mem_nil, or_false] at hd
  rcases hd with rfl | rfl
  · exact sh_int _
  · exact sh_str h
theorem rows_ok (os : List Out) : ∀ r ∈ rowsOf os, PyData.strOk r.2 = true := fun r hr => by
  rcases List.mem_append.mp hr with h | h
  · simp only [glob6, List.mem_cons, List.not_mem_nil, or_false] at h
    rcases h with rfl | rfl | rfl | rfl | rfl | rfl <;> decide +kernel
  · obtain ⟨o, _, rfl⟩ := List.mem_map.mp h
    show PyData.strOk "output" = true
    decide +kernel
theorem sh_rows (os : List Out) : Sh 2 (.list ((rowsOf os).map rwD)) := sh_list fun d hd => by
  obtain ⟨r, hr, rfl⟩ := List.mem_map.mp hd
  exact sh_rw r (rows_ok os r hr)
theorem dp_globs (T : Txt0 P K mg A) (H : Hp) : DpAll K H [.ref A.a_GLOBALS_0, .ref A.a_GLOBALS_1, .ref A.a_GLOBALS_2, .ref A.a_GLOBALS_3, .ref A.a_GLOBALS_4, .ref A.a_GLOBALS_5] (glob6.map rwD) :=
  .cons (.tup (T.w_GLOBALS_0 H) (.cons (.int _) (.cons (.str _) .nil))) (.cons (.tup (T.w_GLOBALS_1 H) (.cons (.int _) (.cons (.str _) .nil))) (.cons (.tup (T.w_GLOBALS_2 H) (.cons (.int _) (.cons (.str _) .nil))) (.cons (.tup (T.w_GLOBALS_3 H) (.cons (.int _) (.cons (.str _) .nil))) (.cons (.tup (T.w_GLOBALS_4 H) (.cons (.int _) (.cons (.str _) .nil))) (.cons (.tup (T.w_GLOBALS_5 H) (.cons (.int _) (.cons (.str _) .nil))) .nil)))))
def sp_global_rows (C : Addr) (K : PySem.W.Frag) : Sp := fun vs H Q _ => ∃ (v : V) (os : List Out) (U : Hp), vs = [v] ∧ OutsAt C K U v os ∧ Same U H ∧ ∀ p zs U' H', Pu U H U' H' → U' p = some (.lst zs) → DpAll K U' zs ((rowsOf os).map rwD) → Q (.ref p) H'
theorem sc_global_rows : FnScope ["outputs", "output"] ["outputs"] (defScope s_global_rows) := ⟨rfl, rfl, rfl, by decide +kernel, rfl, by decide +kernel, by decide +kernel⟩
theorem ok_global_rows (T : Txt0 P K mg A) : FnOk P w K mg base CX0 2 A.fglobal_rows A.dglobal_rows ["outputs"] (sp_global_rows A.COutput K) := by
  refine T.Fglobal_rows.ok sc_global_rows (fun vs H Q E h => ?_) (fun cdv Ar outer st H vs Q E hr h => ?_)
  · obtain ⟨_, _, _, rfl, _⟩ := h
    rfl
  · obtain ⟨v, os, U, rfl, O, sU, q⟩ := h
    replace q := Hid.mk q
    obtain ⟨a, zs, rfl, hq, hl, hm, hz, hok⟩ := O
    refine ⟨_, (pss_one (ps_ret (pe_op op_cat (pe_callTy call_list_of (by rfl) T.list (by decide +kernel) (pa_cons (pe_glob (v := .ref A.a_GLOBALS) rfl T.g_GLOBALS rfl) pa_nil)) (pe_lc (own := [("output", 1)]) (g := (gName 1)) (tt := tYes) rfl sc_global_rows.nd (pi_list (pv 0)) (blkOk_by (own := [("output", 1)]) (N := ["outputs", "output"]) (sc := defScope s_global_rows) (by decide +kernel)) (fun _ _ _ _ _ => (pg_name (i := 1) sc_global_rows.nd rfl (Or.inl rfl))) (fun _ _ _ _ _ => pts_nil) (fun _ _ _ _ _ => by exact (pe_tup (pa_cons (pe_call (ok__global_number T) (hr.mono (by decide)) rfl T.g_global_number T.k_global_number T.b_global_number .nil pass0 (pa_cons (pv 1) pa_nil)) (pa_cons pe_str pa_nil)))))))), ?_⟩
    refine ⟨A.a_GLOBALS, _, rfl, .inr (T.w_GLOBALS H), fun l hl2 => ?_⟩
    have P1 := Pu.new (o := .lst [.ref A.a_GLOBALS_0, .ref A.a_GLOBALS_1, .ref A.a_GLOBALS_2, .ref A.a_GLOBALS_3, .ref A.a_GLOBALS_4, .ref A.a_GLOBALS_5]) sU hl2
    have el : (upd U l (.lst [.ref A.a_GLOBALS_0, .ref A.a_GLOBALS_1, .ref A.a_GLOBALS_2, .ref A.a_GLOBALS_3, .ref A.a_GLOBALS_4, .ref A.a_GLOBALS_5])) l = some (.lst [.ref A.a_GLOBALS_0, .ref A.a_GLOBALS_1, .ref A.a_GLOBALS_2, .ref A.a_GLOBALS_3, .ref A.a_GLOBALS_4, .ref A.a_GLOBALS_5]) := upd_same
    generalize upd U l (.lst [.ref A.a_GLOBALS_0, .ref A.a_GLOBALS_1, .ref A.a_GLOBALS_2, .ref A.a_GLOBALS_3, .ref A.a_GLOBALS_4, .ref A.a_GLOBALS_5]) = U1 at P1 el
    generalize upd H l (.lst [.ref A.a_GLOBALS_0, .ref A.a_GLOBALS_1, .ref A.a_GLOBALS_2, .ref A.a_GLOBALS_3, .ref A.a_GLOBALS_4, .ref A.a_GLOBALS_5]) = H1 at P1 ⊢
    refine ⟨_, rfl, a, rfl, ⟨_, (P1.vv.trans P1.vh).seq hq⟩, fun D hD => ?_⟩
    refine lc_dp (walk_list (K := K) (a := a) (xs := zs)) (K := K) (V0 := U1) (H0 := H1) (fun i => (os[i]?).map fun o => rwD (16 + o.n, "output")) _ rfl P1.vh hD (by omega) (fun H' s => s.seq ((P1.vv.trans P1.vh).seq hq)) (fun i x H H' y => y.1) ?_ ?_
    · rintro n z U2 H4 hn' xx ⟨_, hz'⟩ Qy Qn hy hno
      obtain ⟨o, ho, az⟩ := hz n z hz'
      walk_at "gf"
      refine ⟨z, o, rfl, (az.to P1.vv).to (xx.vv.trans xx.vh), ?_⟩
      walk_at "gf"
      rename_i t ht
      exact hy _ _ _ _ (by rw [ho]; rfl) (Ext.new (o := .tup [.int (16 + o.n), .str "output"]) xx.vh ht) (.tup (SqT.of upd_same) (.cons (.int _) (.cons (.str _) .nil)))
    · rintro U2 H4 ws xx uD dA dl
      have e : fm (fun i => (os[i]?).map fun o => rwD (16 + o.n, "output")) zs.length = (os.map fun o => ((16 + o.n : Int), ("output" : Str))).map rwD := by
        rw [hl, fm_map, List.map_map]; rfl
      rw [e] at dA
      have hwl := dpall_len dA
      rw [List.length_map, List.length_map] at hwl
      refine ⟨l, D, _, _, rfl, rfl, xx.vh _ _ (xx.vv _ _ el), xx.vh _ _ uD, ?_, fun r hr2 => ?_⟩
      · rw [sizeLine_eq]; show 6 + ws.length ≤ _; omega
      have P2 := P1.trans xx.pu
      refine q.go r _ _ _ (P2.trans (Pu.new P2.vh hr2)) upd_same ?_
      unfold rowsOf
      rw [List.map_append]
      have sn : Same U2 (upd U2 r (.lst ([.ref A.a_GLOBALS_0, .ref A.a_GLOBALS_1, .ref A.a_GLOBALS_2, .ref A.a_GLOBALS_3, .ref A.a_GLOBALS_4, .ref A.a_GLOBALS_5] ++ ws))) := (Pu.new (o := .lst ([.ref A.a_GLOBALS_0, .ref A.a_GLOBALS_1, .ref A.a_GLOBALS_2, .ref A.a_GLOBALS_3, .ref A.a_GLOBALS_4, .ref A.a_GLOBALS_5] ++ ws)) P2.vh hr2).vv
      exact dpall_app ((dp_globs T U2).to sn) (dA.to sn)
/-- whether an object can be bound -/
def fits (n : Int) (s : Str) : Bool := decide (s = "output") || decide ((n, s) ∈ glob6)
theorem eqv_rw (r : Int × Str) (n : Int) (s : Str) : PyData.eqv (rwD r) (rwD (n, s)) = decide ((n, s) = r) := by
  unfold rwD
  simp only [PyData.eqv, PyData.eqvAll, Bool.and_true]
  obtain ⟨a, b⟩ := r
  by_cases h1 : a = n
  · by_cases h2 : b = s
    · subst h1; subst h2; simp
    · have : ¬ ((n, s) = (a, b)) := fun z => h2 (by injection z with _ z; exact z.symm)
      rw [decide_eq_false this]; simp [h2]
  · have : ¬ ((n, s) = (a, b)) := fun z => h1 (by injection z with z _; exact z.symm)
    rw [decide_eq_false this]; simp [h1]
theorem any_rw (n : Int) (s : Str) : ∀ rs : List (Int × Str), ((rs.map rwD).any fun z => PyData.eqv z (rwD (n, s))) = decide ((n, s) ∈ rs)
  | [] => rfl
  | r :: t => by
    rw [List.map_cons, List.any_cons, any_rw n s t, eqv_rw]
    by_cases h : (n, s) = r
    · simp [h]
    · simp [h]
theorem sh_globs : Sh 2 (.tuple (glob6.map rwD)) := sh_tuple fun d hd => by
  obtain ⟨r, hr, rfl⟩ := List.mem_map.mp hd
  exact sh_rw r (rows_ok [] r (List.mem_append_left _ hr))
def sp_bound_interface (K : PySem.W.Frag) : Sp := fun vs H Q _ => ∃ (n : Int) (s : Str), vs = [.int n, .str s] ∧ PyData.strOk s = true ∧ ∀ H', (∀ U, Same U H → Pu U H U H') → Q (.bl (fits n s)) H'
theorem sc_bound_interface : FnScope ["number", "name"] ["number", "name"] (defScope s_bound_interface) := ⟨rfl, rfl, rfl, by decide +kernel, rfl, by decide +kernel, by decide +kernel⟩
theorem ok_bound_interface (T : Txt0 P K mg A) : FnOk P w K mg base CX0 2 A.fbound_interface A.dbound_interface ["number", "name"] (sp_bound_interface K) := by
  refine T.Fbound_interface.ok sc_bound_interface (fun vs H Q E h => ?_) (fun cdv Ar outer st H vs Q E hr h => ?_)
  · obtain ⟨_, _, rfl, _⟩ := h
    rfl
  · obtain ⟨n, s, rfl, hs, q⟩ := h
    refine ⟨_, (pss_one (ps_ret (pe_or (pe_cmpR op_eq (pv 1) pe_str (nomark _)) (pe_one (pe_cmpR (op_inDT (room65 hr)) (pe_tup (pa_cons (pv 0) (pa_cons (pv 1) pa_nil))) (pe_glob (v := .ref A.a_GLOBALS) rfl T.g_GLOBALS rfl) (by rfl)))))), ?_⟩
    unfold fits at q
    by_cases c : s = "output"
    · subst c
      rw [decide_eq_true rfl, Bool.true_or] at q
      walk_at "gf"
      exact q H fun U s => Pu.refl s
    · rw [decide_eq_false c, Bool.false_or] at q
      refine ⟨_, rfl, rfl, _, rfl, if_f (decide_eq_false fun z => c (V.str.inj z)) ?_⟩
      walk_at "gf"
      rename_i t ht
      refine ⟨rwD (n, s), glob6.map rwD, .tup (SqT.of upd_same) (.cons (.int _) (.cons (.str _) .nil)), .tup (T.w_GLOBALS _) (dp_globs T _), (sh_rw _ hs).shaped, sh_globs.shaped, ?_⟩
      rw [any_rw]
      exact q _ fun U s => Pu.skip s ht
theorem outR_ok {r n x : Int} (h : 0 ≤ n ∧ n ≤ 20) : OutOk (outR r n x) := by
  unfold OutOk outR
  dsimp only
  omega
def sp__law_outputs (C : Addr) (K : PySem.W.Frag) : Sp := fun vs H Q _ => ∃ (r : Int) (m : Nat) (U : Hp), vs = [.int r, .int (m : Int)] ∧ m ≤ 4 ∧ Same U H ∧ ∀ v os U' H', Pu U H U' H' → OutsAt C K U' v os → (∀ o ∈ os, o.w ≤ 5) → Q v H'
theorem sc__law_outputs : FnScope ["row", "count", "outputs", "k", "number", "output"] ["row", "count"] (defScope s__law_outputs) := ⟨rfl, rfl, rfl, by decide +kernel, rfl, by decide +kernel, by decide +kernel⟩
theorem ok__law_outputs (T : Txt0 P K mg A) : FnOk P w K mg base CX0 4 A.f_law_outputs A.d_law_outputs ["row", "count"] (sp__law_outputs A.COutput K) := by
  refine T.F_law_outputs.ok sc__law_outputs (fun vs H Q E h => ?_) (fun cdv Ar outer st H vs Q E hr h => ?_)
  · obtain ⟨_, _, _, rfl, _⟩ := h
    rfl
  · obtain ⟨r, m, U, rfl, hm, sU, q⟩ := h
    replace q := Hid.mk q
    refine ⟨_, (pss_cons (ps_set (i := 2) sc__law_outputs.nd rfl (Or.inl rfl) (pe_lst pa_nil))
      (pss_cons (ps_for PassesOwn.never rfl (pi_range1 (by rfl) T.range (pa_cons (pv 1) pa_nil)) (pg_name (i := 3) sc__law_outputs.nd rfl (Or.inl rfl))
      (C8.pss_cut (ps_set (i := 4) sc__law_outputs.nd rfl (Or.inl rfl) (pe_op op_mod (pe_op op_add (pe_op op_mod (pe_callTy call_int1 (by rfl) T.int (by decide +kernel) (pa_cons (pe_op op_fdiv (pv 0) (pe_op op_add (pe_op op_mul pe_int (pv 3)) pe_int)) pa_nil)) pe_int) (pe_op op_mul pe_int (pv 3))) pe_int))
      (pss_one (ps_if (pt_cmpR op_notIn_seq (pv 4) (pe_lc (own := [("output", 5)]) (g := (gName 5)) (te := (tFld K (tVar 5) "number")) (tt := tYes) rfl sc__law_outputs.nd (pi_list (pv 2)) (blkOk_by (own := [("output", 5)]) (N := ["row", "count", "outputs", "k", "number", "output"]) (sc := defScope s__law_outputs) (by decide +kernel)) (fun _ _ _ _ _ => (pg_name (i := 5) sc__law_outputs.nd rfl (Or.inl rfl))) (fun _ _ _ _ _ => pts_nil) (fun _ _ _ _ _ => by exact (pe_fld (pv 5) rfl))) (by rfl))
      (pss_one (ps_expr (pe_bm PySem.F.plainAttrs_list PySem.F.slot_list_append PySem.F.type_list_append mt_append (pv 2) (pa_cons (pe_call (ok__law_output T) (hr.mono (by decide)) rfl T.g_law_output T.k_law_output T.b_law_output .nil pass0 (pa_cons (pe_op op_fdiv (pv 0) (pe_op op_add (pv 3) pe_int)) (pa_cons (pv 4) (pa_cons (pe_op op_mul pe_int (pv 3)) pa_nil)))) pa_nil))))
      pss_nil))))
      (pss_one (ps_ret (pv 2))))), ?_⟩
    walk_at "gx"
    rename_i pl hpl
    refine ⟨by omega, by omega, ?_⟩
    rw [Int.toNat_natCast]
    refine for_range (lo := 0) (fun i σ H' => ∃ (U' : Hp) (zs : List V) (os : List Out) (v3 v4 v5 : Option V), σ = [some (.int r), some (.int (m : Int)), some (.ref pl), v3, v4, v5] ∧ Ch U (upd H pl (.lst [])) U' H' [pl] ∧ H' pl = some (.lst zs) ∧ U' pl = none ∧ zs.length = os.length ∧ os.length ≤ i ∧ (∀ (i : Nat) (z : V), zs[i]? = some z → ∃ o, os[i]? = some o ∧ OutAt A.COutput U' z o) ∧ ∀ o ∈ os, OutOk o ∧ o.w ≤ 5)
      ⟨U, [], [], none, none, none, rfl, (Pu.refl (by walk_at "h")).ch _, upd_same, sU.free hpl, rfl, Nat.le_refl _, fun i z h => (by cases h), fun o h => (by cases h)⟩ ?_ ?_
    · rintro i σ H1 hi ⟨U1, zs, os, v3, v4, v5, rfl, c1, e1, u1, hl, hli, hz, hok⟩
      refine ⟨fun σ' H' => Stop (∃ n : Int, σ' = [some (.int r), some (.int (m : Int)), some (.ref pl), some (.int (0 + (i : Int))), some (.int n), v5] ∧ H' = H1 ∧ 0 ≤ n ∧ n ≤ 20), ?_, ?_⟩
      · walk_at "gx"
        exact stop ⟨_, rfl, rfl, by omega, by omega⟩
      rintro σ' H' ⟨⟨n, rfl, rfl, hn0, hn1⟩, -⟩
      walk_at "gf"
      refine ⟨⟨_, SqL.of e1⟩, fun D hD => ?_⟩
      refine lc_dp (walk_list (K := K) (a := pl) (xs := zs)) (K := K) (V0 := U1) (H0 := H') (fun i => (os[i]?).map fun o => PyData.int o.n) _ rfl c1.vh hD (by omega) (fun H' s => s.seq (SqL.of e1)) (fun i x H H' y => y.1) ?_ ?_
      · rintro k z U2 H4 hk xx ⟨_, hz'⟩ Qy Qn hy hno
        obtain ⟨o, ho, b, dx, rfl, eb⟩ := hz k z hz'
        have eb4 := xx.vh _ _ (xx.vv _ _ eb)
        walk_at "gf"
        refine ⟨b, A.COutput, dx, _, _, rfl, eb4, T.clOutput, T.nOutput_number, by walk_at "lk", ?_⟩
        exact hy _ _ _ _ (by rw [ho]; rfl) (Ext.refl xx.vh) (.int _)
      · rintro U2 H4 ws xx uD dA dl
        have e : fm (fun i => (os[i]?).map fun o => PyData.int o.n) zs.length = (os.map fun o => o.n).map PyData.int := by
          rw [hl, fm_map, List.map_map]; rfl
        rw [e] at dA
        obtain rfl := dp_intsV dA
        have p2 := xx.pu
        have eD := xx.vh _ _ uD
        have e2 : H4 pl = some (.lst zs) := xx.hh _ _ e1
        have u2 : U2 pl = none := p2.out pl u1 (by rw [e1]; exact fun z => by cases z)
        have c2 : Ch U (upd H pl (.lst [])) U2 H4 [pl] := c1.trans (p2.ch _)
        clear dl dA uD e
        refine ⟨D, _, rfl, .inl (SqL.of eD), rfl, ?_, ?_⟩
        · rw [List.all_map]; exact List.all_eq_true.mpr fun _ _ => rfl
        rw [if_pos rfl, inV_ints]
        refine ⟨_, rfl, ?_⟩
        by_cases hin : n ∈ os.map fun o => o.n
        · rw [decide_eq_true hin]
          refine if_f rfl ?_
          exact ⟨U2, zs, os, _, _, _, rfl, c2, e2, u2, hl, by omega, fun i z h => by obtain ⟨o, a, b⟩ := hz i z h; exact ⟨o, a, b.to xx.vv⟩, hok⟩
        · rw [decide_eq_false hin]
          refine if_t rfl ?_
          walk_at "gf"
          refine ⟨r / (0 + (i : Int) + 2), n, 10 * (0 + (i : Int)), U2, rfl, c2.vh, fun v U3 H5 p3 ov => ?_⟩
          have e5 : H5 pl = some (.lst zs) := (p3.kp pl (by rw [e2]; exact fun z => by cases z)).trans e2
          have u3 : U3 pl = none := p3.out pl u2 (by rw [e2]; exact fun z => by cases z)
          have c3 := c2.trans (p3.ch _)
          refine ⟨pl, _, _, rfl, rfl, e5, Nat.lt_of_lt_of_le (m := 100000) (by omega) (by decide), ?_⟩
          have vv := xx.vv.trans p3.vv
          refine ⟨U3, zs ++ [v], os ++ [outR (r / (0 + (i : Int) + 2)) n (10 * (0 + (i : Int)))], _, _, _, rfl, c3.trans (Ch.poke c3.vh u3 _ (List.mem_singleton.mpr rfl)), upd_same, u3, by rw [List.length_append, List.length_append, hl]; rfl, by rw [List.length_append]; show os.length + 1 ≤ _; omega, fun j z hj => ?_, fun o ho => ?_⟩
          · by_cases hlt : j < zs.length
            · rw [List.getElem?_append_left hlt] at hj
              obtain ⟨o, a, b⟩ := hz j z hj
              exact ⟨o, by rw [List.getElem?_append_left (by omega)]; exact a, b.to vv⟩
            · have hjl := (List.getElem?_eq_some_iff.mp hj).1
              rw [List.length_append] at hjl
              have hj2 : j = zs.length := by have : j < zs.length + 1 := hjl; omega
              subst hj2
              rw [List.getElem?_append_right (Nat.le_refl _), Nat.sub_self] at hj
              cases hj
              exact ⟨_, by rw [hl, List.getElem?_append_right (Nat.le_refl _), Nat.sub_self]; rfl, ov⟩
          · rcases List.mem_append.mp ho with h | h
            · exact hok o h
            · rw [List.mem_singleton] at h; subst h; exact ⟨outR_ok ⟨hn0, hn1⟩, by unfold outR; dsimp only; omega⟩
    · rintro σ H1 ⟨U1, zs, os, v3, v4, v5, rfl, c1, e1, u1, hl, hli, hz, hok⟩
      walk_at "gf"
      obtain ⟨c1a, c1b, c1c, c1d, c1e⟩ := c1
      have nv : Same U1 (upd U1 pl (.lst zs)) := by walk_at "h"
      refine q.go (.ref pl) os (upd U1 pl (.lst zs)) H1 ⟨by walk_at "h", by walk_at "h", ?_, ?_, ?_⟩ ⟨pl, zs, rfl, SqL.of upd_same, hl, by omega, fun i z h => by obtain ⟨o, a, b⟩ := hz i z h; exact ⟨o, a, b.to nv⟩, fun o ho => (hok o ho).1⟩ fun o ho => (hok o ho).2
      · walk_at "h"
      · walk_at "h"
      · intro b hb
        have hbp : b ≠ pl := fun z => hb (by rw [z]; exact hpl)
        rw [c1e b (by simpa using hbp) (by rw [upd_ne hbp]; exact hb), upd_ne hbp]
/-! ### registries -/
def goO (n : Int) (m : Int) : List Int := msgOcts n 1 (bodyOf [argU m])
def dnO (n t : Int) : List Int := msgOcts n 0 (bodyOf [argU t])
def thO (n : Int) (r : Int × Str) : List Int := msgOcts n 0 (bodyOf [argU r.1, argT r.2])
def szO (n : Int) (o : Out) : List Int := msgOcts n 0 (bodyOf [argU o.w, argU o.h, argU o.s, argU o.t])
structure Evs (C : Addr) (w : World) (K : PySem.W.Frag) : Prop where
  dn : EvRow C w K "callback" "done" 0 ["uint"]
  th : EvRow C w K "registry" "there" 0 ["uint", "text"]
  go : EvRow C w K "registry" "gone" 1 ["uint"]
  sz : EvRow C w K "output" "size" 0 ["uint", "uint", "uint", "uint"]
def num (n : Int) : Prop := 1 ≤ n ∧ n ≤ 4294967295
theorem Evs.dnE {C : Addr} {w : World} {K : PySem.W.Frag} (h : Evs C w K) {H : Hp} {va : Addr} {n t : Int} (hn : num n) (ht : u32 t) (e : H va = some (.lst [.int t])) : EvAt C w K H n "callback" "done" va (dnO n t) :=
  h.dn.evA [argU t] hn (by decide) rfl (by exact Nat.le_of_ble_eq_true rfl) e ⟨rfl, trivial⟩ ⟨okU ht, trivial⟩
theorem Evs.goE {C : Addr} {w : World} {K : PySem.W.Frag} (h : Evs C w K) {H : Hp} {va : Addr} {n m : Int} (hn : num n) (ht : u32 m) (e : H va = some (.lst [.int m])) : EvAt C w K H n "registry" "gone" va (goO n m) :=
  h.go.evA [argU m] hn (by decide) rfl (by exact Nat.le_of_ble_eq_true rfl) e ⟨rfl, trivial⟩ ⟨okU ht, trivial⟩
theorem Evs.szE {C : Addr} {w : World} {K : PySem.W.Frag} (h : Evs C w K) {H : Hp} {va : Addr} {n : Int} {o : Out} (hn : num n) (ho : OutOk o) (e : H va = some (.lst [.int o.w, .int o.h, .int o.s, .int o.t])) : EvAt C w K H n "output" "size" va (szO n o) := by
  unfold OutOk at ho
  exact h.sz.evA [argU o.w, argU o.h, argU o.s, argU o.t] hn (by decide) rfl (by exact Nat.le_of_ble_eq_true rfl) e ⟨rfl, rfl, rfl, rfl, trivial⟩ ⟨okU (by unfold u32; omega), okU (by unfold u32; omega), okU (by unfold u32; omega), okU (by unfold u32; omega), trivial⟩
def rowOk (r : Int × Str) : Prop := u32 r.1 ∧ isText r.2 = true ∧ r.2.length ≤ 50
theorem Evs.thE {C : Addr} {w : World} {K : PySem.W.Frag} (h : Evs C w K) {H : Hp} {va : Addr} {n : Int} {r : Int × Str} (hn : num n) (hr : rowOk r) (e : H va = some (.lst [.int r.1, .str r.2])) : EvAt C w K H n "registry" "there" va (thO n r) :=
  h.th.evA [argU r.1, argT r.2] hn (by decide) rfl (by exact Nat.le_of_ble_eq_true rfl) e ⟨rfl, ⟨rfl, by have := hr.2.2; omega⟩, trivial⟩ ⟨okU hr.1, okT hr.2.1 hr.2.2, trivial⟩
theorem rows_rowOk {os : List Out} (h : ∀ o ∈ os, OutOk o) : ∀ r ∈ rowsOf os, rowOk r := fun r hr => by
  rcases List.mem_append.mp hr with z | z
  · simp only [glob6, List.mem_cons, List.not_mem_nil, or_false] at z
    rcases z with rfl | rfl | rfl | rfl | rfl | rfl <;> exact ⟨by unfold u32; decide, by decide +kernel, by decide +kernel⟩
  · obtain ⟨o, ho, rfl⟩ := List.mem_map.mp z
    have := h o ho
    unfold OutOk at this
    exact ⟨by unfold u32; dsimp only; omega, (by decide +kernel : isText ("output" : Str) = true), (by decide +kernel : ("output" : Str).length ≤ 50)⟩
structure Rg (C : Addr) (U H : Hp) (rg lr d : Addr) (ls : List V) (kvs : List (Key × V)) (m : Nat) : Prop where
  ob : ∃ dx, U rg = some (.ins C dx [("_registries", .ref lr), ("_owners", .ref d)])
  l : H lr = some (.lst ls) ∧ ls.length ≤ m
  dd : H d = some (.dK kvs)
  ul : U lr = none
  ud : U d = none
  len : kvs.length ≤ m
theorem Rg.frame {C : Addr} {U H U' H' : Hp} {rg lr d : Addr} {ls : List V} {kvs : List (Key × V)} {m m' : Nat} (h : Rg C U H rg lr d ls kvs m) (hm : m ≤ m') (s : Same U U') (k : ∀ b, H b ≠ none → U b = none → (b = lr ∨ b = d) → U' b = none ∧ H' b = H b) : Rg C U' H' rg lr d ls kvs m' := by
  obtain ⟨dx, e⟩ := h.ob
  obtain ⟨e1, h1⟩ := h.l
  have e2 := h.dd
  have k1 := k lr (by rw [e1]; exact fun z => by cases z) h.ul (.inl rfl)
  have k2 := k d (by rw [e2]; exact fun z => by cases z) h.ud (.inr rfl)
  exact ⟨⟨dx, s _ _ e⟩, ⟨k1.2.trans e1, Nat.le_trans h1 hm⟩, k2.2.trans e2, k1.1, k2.1, Nat.le_trans h.len hm⟩
def sp_Reply_end (C : Addr) (K : PySem.W.Frag) : Sp := fun vs H Q _ => ∃ (o lt le lw : Addr) (n : Int) (ts : List (List Int)) (es : List Int) (ws : List PyData) (U : Hp), vs = [.ref o, .int n] ∧ Same U H ∧ Rp C K U H o lt le lw ts es ws ∧ es.length ≤ 1000 ∧
  ∀ H', Ch U H U H' [le] → Rp C K U H' o lt le lw ts (es ++ [n]) ws → Q .non H'
theorem sc_Reply_end : FnScope ["self", "number"] ["self", "number"] (defScope s_Reply_end) := ⟨rfl, rfl, rfl, by decide +kernel, rfl, by decide +kernel, by decide +kernel⟩
theorem ok_Reply_end (T : Txt0 P K mg A) : FnOk P w K mg base CX0 1 A.fReply_end A.dReply_end ["self", "number"] (sp_Reply_end A.CReply K) := by
  refine T.FReply_end.ok sc_Reply_end (fun vs H Q E h => ?_) (fun cdv Ar outer s H vs Q E hr h => ?_)
  · obtain ⟨_, _, _, _, _, _, _, _, _, rfl, _⟩ := h
    rfl
  · obtain ⟨o, lt, le, lw, n, ts, es, ws, U, rfl, sU, R, hl, q⟩ := h
    obtain ⟨dx, wa, e1⟩ := R.ob
    have e3 := R.e
    refine ⟨_, (pss_one (ps_expr (pe_bm PySem.F.plainAttrs_list PySem.F.slot_list_append PySem.F.type_list_append mt_append (pe_fldC T.clReply T.nReply_ended (pv 0) rfl) (pa_cons (pv 1) pa_nil)))), ?_⟩
    walk_at "gf"
    refine ⟨le, _, _, rfl, rfl, e3, Nat.lt_of_lt_of_le (m := 100000) (by rw [List.length_map]; omega) (by decide), ?_⟩
    have no : o ≠ le := ne_of e1 e3 (by intro z; cases z)
    obtain ⟨yt, e2, d2⟩ := R.t
    obtain ⟨yw, e4, d4⟩ := R.w
    exact q _ (Ch.poke sU R.ue _ (List.mem_singleton.mpr rfl)) ⟨⟨dx, wa, by rw [upd_ne no]; exact e1⟩, R.uo, R.ut, R.ue, R.uw, R.n1, R.n2, R.n3, ⟨yt, by rw [upd_ne R.n1]; exact e2, d2⟩, by rw [upd_same, List.map_append]; rfl, ⟨yw, by rw [upd_ne R.n3.symm]; exact e4, d4⟩⟩
def sp__tell_size (CE : Addr) (w : World) (C CO : Addr) (K : PySem.W.Frag) : Sp := fun vs H Q _ => ∃ (v : V) (o : Out) (r lt le lw : Addr) (n : Int) (ts : List (List Int)) (es : List Int) (ws : List PyData) (U : Hp), vs = [.int n, v, .ref r] ∧ Same U H ∧ Evs CE w K ∧ num n ∧ OutAt CO U v o ∧ OutOk o ∧ Rp C K U H r lt le lw ts es ws ∧ ts.length ≤ 1000 ∧
  ∀ U' H', Ch U H U' H' [lt] → Rp C K U' H' r lt le lw (ts ++ [szO n o]) es ws → Q .non H'
theorem sc__tell_size : FnScope ["number", "output", "reply"] ["number", "output", "reply"] (defScope s__tell_size) := ⟨rfl, rfl, rfl, by decide +kernel, rfl, by decide +kernel, by decide +kernel⟩
theorem ok__tell_size (T : Txt0 P K mg A) : FnOk P w K mg base CX0 10 A.f_tell_size A.d_tell_size ["number", "output", "reply"] (sp__tell_size A.a_EVENTS w A.CReply A.COutput K) := by
  refine T.F_tell_size.ok sc__tell_size (fun vs H Q E h => ?_) (fun cdv Ar outer s H vs Q E hr h => ?_)
  · obtain ⟨_, _, _, _, _, _, _, _, _, _, _, rfl, _⟩ := h
    rfl
  · obtain ⟨v, o, r, lt, le, lw, n, ts, es, ws, U, rfl, sU, ev, hn, ov, ok, R, hl, q⟩ := h
    replace q := Hid.mk q
    obtain ⟨dx, wa, e1⟩ := R.ob
    refine ⟨_, (pss_one (ps_expr (pe_meth (pv 2) T.clReply T.mReply_tell (ok_Reply_tell T) (hr.mono (by decide)) T.bReply_tell .nil pass0 (pa_cons (pv 0) (pa_cons pe_str (pa_cons pe_str (pa_cons (pe_call (ok__size_row T) (hr.mono (by decide)) rfl T.g_size_row T.k_size_row T.b_size_row .nil pass0 (pa_cons (pv 1) pa_nil)) pa_nil))))))), ?_⟩
    walk_at "gf"
    refine ⟨v, o, rfl, ov.to sU, fun p hp => ?_⟩
    have p1 := Pu.skip (o := .lst [.int o.w, .int o.h, .int o.s, .int o.t]) sU hp
    walk_at "gf"
    walk_at "nl"
    obtain ⟨p1a, p1b, p1c, p1d, p1e⟩ := p1
    have uo := R.uo
    refine ⟨r, lt, le, lw, p, n, "output", "size", ts, es, ws, szO n o, U, rfl, p1b, R.frame (Same.refl _) (by walk_at "h"), ev.szE hn ok upd_same, hl, fun U4 H4 v4 s4 o4 m4 k4 R4 => ?_⟩
    exact q.go U4 H4 ⟨v4, s4, by walk_at "h", by walk_at "h", by walk_at "h"⟩ R4
def sp_Registries___init__ (C : Addr) : Sp := fun vs H Q _ => ∃ (o dx : Addr), vs = [.ref o] ∧ H o = some (.ins C dx []) ∧ ∀ (lr d : Addr) (H' : Hp), H lr = none → H d = none → lr ≠ d → H' o = some (.ins C dx [("_registries", .ref lr), ("_owners", .ref d)]) → H' lr = some (.lst []) → H' d = some (.dK []) → (∀ b, b ≠ o → H b ≠ none → H' b = H b) → (∀ b, H' b = none → H b = none) → Q .non H'
theorem sc_Registries___init__ : FnScope ["self"] ["self"] (defScope s_Registries___init__) := ⟨rfl, rfl, rfl, by decide +kernel, rfl, by decide +kernel, by decide +kernel⟩
theorem ok_Registries___init__ (T : Txt0 P K mg A) : FnOk P w K mg base CX0 1 A.fRegistries___init__ A.dRegistries___init__ ["self"] (sp_Registries___init__ A.CRegistries) := by
  refine T.FRegistries___init__.ok sc_Registries___init__ (fun vs H Q E h => ?_) (fun cdv Ar outer st H vs Q E hr h => ?_)
  · obtain ⟨_, _, rfl, _⟩ := h
    rfl
  · obtain ⟨o, dx, rfl, ho, q⟩ := h
    replace q := Hid.mk q
    refine ⟨_, (pss_cons (ps_fldC T.clRegistries T.nRegistries__registries (pv 0) (pe_lst pa_nil) rfl)
      (pss_one (ps_fldC T.clRegistries T.nRegistries__owners (pv 0) pe_dnewK rfl))), ?_⟩
    refine ⟨len_line (by show 0 ≤ 100000; decide), fun p hp => ?_⟩
    have e1 : (upd H p (.lst [])) o = some (.ins A.CRegistries dx []) := by walk_at "h"
    walk_at "gf"
    intro H1 f1 k1 p2 hp2
    have e2 : (upd H1 p2 (.dK [])) o = some (.ins A.CRegistries dx [("_registries", .ref p)]) := by walk_at "h"
    walk_at "gf"
    intro H2 f2 k2
    have np : p ≠ p2 := by walk_at "h"
    exact q.go p p2 H2 hp (by walk_at "h") np f2 (by walk_at "h") (by walk_at "h") (by walk_at "h") (by walk_at "h")
def sp__open_registry (CE : Addr) (w : World) (A : Adr) (K : PySem.W.Frag) : Sp := fun vs H Q _ => ∃ (rg lr d o lt le lw : Addr) (n : Int) (vo : V) (os : List Out) (ls : List V) (kvs : List (Key × V)) (m : Nat) (ws : List PyData) (U : Hp), vs = [.ref rg, .int n, vo, .ref o] ∧ Same U H ∧ Evs CE w K ∧ num n ∧ OutsAt A.COutput K U vo os ∧ Rg A.CRegistries U H rg lr d ls kvs m ∧ m ≤ 1000 ∧ Rp A.CReply K U H o lt le lw [] [] ws ∧ lr ≠ lt ∧ lr ≠ le ∧ lr ≠ lw ∧
  ∀ U' H', Ch U H U' H' [lt, lr] → Rg A.CRegistries U' H' rg lr d (ls ++ [.int n]) kvs (m + 1) → Rp A.CReply K U' H' o lt le lw ((rowsOf os).map (thO n)) [] ws → Q .non H'
theorem sc_Registries__open_registry : FnScope ["self", "number", "outputs", "reply", "row"] ["self", "number", "outputs", "reply"] (defScope s_Registries__open_registry) := ⟨rfl, rfl, rfl, by decide +kernel, rfl, by decide +kernel, by decide +kernel⟩
theorem ok_Registries__open_registry (T : Txt0 P K mg A) : FnOk P w K mg base CX0 10 A.fRegistries__open_registry A.dRegistries__open_registry ["self", "number", "outputs", "reply"] (sp__open_registry A.a_EVENTS w A K) := by
  refine T.FRegistries__open_registry.ok sc_Registries__open_registry (fun vs H Q E h => ?_) (fun cdv Ar outer s H vs Q E hr h => ?_)
  · obtain ⟨_, _, _, _, _, _, _, _, _, _, _, _, _, _, _, rfl, _⟩ := h
    rfl
  · obtain ⟨rg, lr, d, o, lt, le, lw, n, vo, os, ls, kvs, m, ws, U, rfl, sU, ev, hn, O, G, hm, R, n1, n2, n3, q⟩ := h
    replace q := Hid.mk q
    obtain ⟨dx, e1⟩ := G.ob
    have e1H := sU _ _ e1
    obtain ⟨e2, hls⟩ := G.l
    have ed := G.dd
    have ul := G.ul
    have ud := G.ud
    have nld : lr ≠ d := ne_of e2 ed (by intro z; cases z)
    obtain ⟨dxr, wa, eo⟩ := R.ob
    have nlo : lr ≠ o := ne_of e2 eo (by intro z; cases z)
    refine ⟨_, (pss_cons (ps_expr (pe_bm PySem.F.plainAttrs_list PySem.F.slot_list_append PySem.F.type_list_append mt_append (pe_fldC T.clRegistries T.nRegistries__registries (pv 0) rfl) (pa_cons (pv 1) pa_nil)))
      (pss_one (ps_for PassesOwn.never rfl (pi_list (pe_call (ok_global_rows T) (hr.mono (by decide)) rfl T.gglobal_rows T.kglobal_rows T.bglobal_rows .nil pass0 (pa_cons (pv 2) pa_nil))) (pg_name (i := 4) sc_Registries__open_registry.nd rfl (Or.inl rfl))
      (pss_one (ps_expr (pe_meth (pv 3) T.clReply T.mReply_tell (ok_Reply_tell T) (hr.mono (by decide)) T.bReply_tell .nil pass0 (pa_cons (pv 1) (pa_cons pe_str (pa_cons pe_str (pa_cons (pe_callTy call_list_of (by rfl) T.list (by decide +kernel) (pa_cons (pv 4) pa_nil)) pa_nil)))))))))), ?_⟩
    walk_at "gf"
    refine ⟨lr, _, _, rfl, rfl, e2, Nat.lt_of_lt_of_le (m := 100000) (by omega) (by decide), ?_⟩
    have c1 : Ch U H U (upd H lr (.lst (ls ++ [.int n]))) [lt, lr] := Ch.poke sU ul _ (by simp)
    have G1 : Rg A.CRegistries U (upd H lr (.lst (ls ++ [.int n]))) rg lr d (ls ++ [.int n]) kvs (m + 1) := ⟨⟨dx, e1⟩, ⟨upd_same, by rw [List.length_append]; show ls.length + 1 ≤ _; omega⟩, by rw [upd_ne nld.symm]; exact ed, ul, ud, by have := G.len; omega⟩
    have R1 : Rp A.CReply K U (upd H lr (.lst (ls ++ [.int n]))) o lt le lw [] [] ws := R.frame (Same.refl _) (by walk_at "h")
    generalize upd H lr (.lst (ls ++ [.int n])) = H1 at c1 G1 R1 ⊢
    have okr := rows_rowOk (os := os) (by obtain ⟨_, _, _, _, _, _, _, h⟩ := O; exact h)
    have hrl : (rowsOf os).length ≤ 26 := by
      obtain ⟨_, _, _, _, _, h, _, _⟩ := O
      unfold rowsOf
      rw [List.length_append, List.length_map]
      show 6 + os.length ≤ 26
      omega
    walk_at "gf"
    refine ⟨vo, os, U, rfl, O, c1.vh, fun p zs U2 H2 p2 ep dz => ?_⟩
    have c2 := c1.trans (p2.ch _)
    obtain ⟨p2a, p2b, p2c, p2d, p2e⟩ := p2
    have G2 : Rg A.CRegistries U2 H2 rg lr d (ls ++ [.int n]) kvs (m + 1) := G1.frame (Nat.le_refl _) p2a (by walk_at "h")
    have R2 : Rp A.CReply K U2 H2 o lt le lw [] [] ws := R1.frame p2a (by walk_at "h")
    clear p2b p2c p2d p2e G1 R1 c1
    have hzl := dpall_len dz
    rw [List.length_map] at hzl
    refine ⟨p, rfl, ⟨_, SqL.of (c2.vh _ _ ep)⟩, for_list (K := K) (a := p) (xs := zs) (fun i σ H' => ∃ (U' : Hp) (v4 : Option V), σ = [some (.ref rg), some (.int n), some vo, some (.ref o), v4] ∧ Same U2 U' ∧ Ch U H U' H' [lt, lr] ∧ Rg A.CRegistries U' H' rg lr d (ls ++ [.int n]) kvs (m + 1) ∧ Rp A.CReply K U' H' o lt le lw (((rowsOf os).take i).map (thO n)) [] ws)
      ⟨U2, _, rfl, Same.refl _, c2, G2, R2⟩ (fun i σ H' _ ⟨U', _, _, a1, a2, _⟩ => SqL.of (a2.vh _ _ (a1 _ _ ep))) ?_ ?_⟩
    · rintro i z σ H5 hi ⟨U5, v4, rfl, v5, c5, G5, R5⟩
      obtain ⟨dd, hd, dv⟩ := dpall_get dz hi
      rw [List.getElem?_map] at hd
      obtain ⟨r, hr', rfl⟩ := Option.map_eq_some_iff.mp hd
      obtain ⟨t, xs, rfl, qt, dw⟩ := dp_tuple dv
      have hri := okr r (List.mem_of_getElem? hr')
      cases dw with
      | cons d1 d2 => cases d2 with
        | cons d2 d3 =>
          cases d3
          obtain rfl := dp_int d1
          obtain rfl := dp_str d2
          obtain ⟨dxr5, wa5, eo5⟩ := R5.ob
          have qt5 := c5.vh.sqt (v5.sqt qt)
          walk_at "gf"
          intro l hl
          walk_at "gf"
          walk_at "nl"
          have s5 := c5.vh
          have p6 := Pu.skip (o := .lst [.int r.1, .str r.2]) s5 hl
          obtain ⟨p6a, p6b, p6c, p6d, p6e⟩ := p6
          have uo5 := R5.uo
          refine ⟨o, lt, le, lw, l, n, "registry", "there", _, [], ws, thO n r, U5, rfl, p6b, R5.frame (Same.refl _) (by walk_at "h"), ev.thE hn hri upd_same, ?_, fun U6 H6 v6 s6 o6 m6 k6 R6 => ?_⟩
          · rw [List.length_map, List.length_take]; omega
          have c6 : Ch U5 H5 U6 H6 [lt, lr] := ⟨v6, s6, by walk_at "h", by walk_at "h", fun b hb hn' => by
            have hbl : b ≠ lt := fun z => hb (by rw [z]; simp)
            rw [k6 b hbl (by rw [p6e b hn']; exact hn'), p6e b hn']⟩
          have nlt : lt ≠ d := by
            obtain ⟨yt, et, _⟩ := R5.t
            exact ne_of et G5.dd (by intro z; cases z)
          refine ⟨U6, _, rfl, v5.trans v6, c5.trans c6, G5.frame (Nat.le_refl _) v6 (fun b hb hu hx => ⟨c6.out b hu hb, ?_⟩), ?_⟩
          · have hbl : b ≠ lt := (hx.elim (fun z => by rw [z]; exact n1) (fun z => by rw [z]; exact nlt.symm))
            rw [k6 b hbl (by rw [p6e b hb]; exact hb), p6e b hb]
          · obtain ⟨ha, hb⟩ := List.getElem?_eq_some_iff.mp hr'
            rw [List.take_succ_eq_append_getElem ha, List.map_append, hb]; exact R6
    · rintro σ H5 ⟨U5, v4, rfl, v5, c5, G5, R5⟩
      rw [hzl, List.take_length] at R5
      exact q.go U5 H5 c5 G5 R5
/-! ### bind, serve -/
def ownV : Option Out → V
  | none => .non
  | some o => .int o.n
def ownT (n : Int) : Option Out → List (List Int)
  | none => []
  | some o => [szO n o]
structure Rq (C : Addr) (H : Hp) (r : Addr) (n : Int) (i m : Str) (va : V) : Prop where
  ob : ∃ dx e, H r = some (.ins C dx [("number", .int n), ("interface", .str i), ("name", .str m), ("arguments", va), ("ends", .bl e)])
def sp__bind (CE : Addr) (w : World) (A : Adr) (K : PySem.W.Frag) : Sp := fun vs H Q E => ∃ (rg lr d r la bt o lt le lw : Addr) (n0 place made : Int) (i m nm : Str) (vo : V) (os : List Out) (ls : List V) (kvs : List (Key × V)) (k : Nat) (ws : List PyData) (U : Hp), vs = [.ref rg, .ref r, vo, .ref o] ∧ Same U H ∧ Evs CE w K ∧ num made ∧ OutsAt A.COutput K U vo os ∧ Rg A.CRegistries U H rg lr d ls kvs k ∧ k ≤ 1000 ∧ Rp A.CReply K U H o lt le lw [] [] ws ∧ lr ≠ lt ∧
  Rq A.CRequest H r n0 i m (.ref la) ∧ H la = some (.lst [.int place, .ref bt]) ∧ H bt = some (.tup [.str nm, .int made]) ∧ PyData.strOk nm = true ∧
  (fits place nm = false → ∀ dd H', H dd = none → H' dd = some (.xd (ffF n0 8 "no such global")) → (∀ b, H b ≠ none → H' b = H b) → (∀ b, b ≠ dd → H' b = none → H b = none) → E (.ref A.CFault) (some dd) H') ∧
  (fits place nm = true → nm ≠ "output" → ∀ H', Pu U H U H' → Q .non H') ∧
  (nm = "output" → ∀ U' H', Ch U H U' H' [lt, d] → Rg A.CRegistries U' H' rg lr d ls (putK kvs (.inl made) (ownV (oFind os (place - 16)))) (k + 1) → Rp A.CReply K U' H' o lt le lw (ownT made (oFind os (place - 16))) [] ws → Q .non H')
theorem fits_out (p : Int) : fits p "output" = true := by unfold fits; rw [decide_eq_true rfl]; rfl
theorem sc_Registries__bind : FnScope ["self", "request", "outputs", "reply", "place", "bound", "name", "number", "output"] ["self", "request", "outputs", "reply"] (defScope s_Registries__bind) := ⟨rfl, rfl, rfl, by decide +kernel, rfl, by decide +kernel, by decide +kernel⟩
theorem ok_Registries__bind (T : Txt0 P K mg A) : FnOk P w K mg base (L2.CX P w) 11 A.fRegistries__bind A.dRegistries__bind ["self", "request", "outputs", "reply"] (sp__bind A.a_EVENTS w A K) := by
  refine T.FRegistries__bind.okX sc_Registries__bind (fun vs H Q E h => ?_) (fun cdv Ar outer st H vs Q E hr h => ?_)
  · obtain ⟨_, _, _, _, _, _, _, _, _, _, _, _, _, _, _, _, _, _, _, _, _, _, _, rfl, _⟩ := h
    rfl
  · obtain ⟨rg, lr, d, r, la, bt, o, lt, le, lw, n0, place, made, i, m, nm, vo, os, ls, kvs, k, ws, U, rfl, sU, ev, hn, O, G, hk, R, n1, ⟨dxq, eq, erq⟩, ela, ebt, hs, qE, q1, q2⟩ := h
    replace q1 := Hid.mk q1
    replace q2 := Hid.mk q2
    replace qE := Hid.mk qE
    refine ⟨_, (pss_cons (ps_asg (pe_fldC T.clRequest T.nRequest_arguments (pv 1) rfl) (pg_unl rfl (pgs_cons (pg_name (i := 4) sc_Registries__bind.nd rfl (Or.inl rfl)) (pgs_cons (pg_name (i := 5) sc_Registries__bind.nd rfl (Or.inl rfl)) pgs_nil))))
      (pss_cons (ps_asg (pv 5) (pg_tup rfl (pgs_cons (pg_name (i := 6) sc_Registries__bind.nd rfl (Or.inl rfl)) (pgs_cons (pg_name (i := 7) sc_Registries__bind.nd rfl (Or.inl rfl)) pgs_nil))))
      (pss_cons (ps_if (pt_not (pt_val (pe_call (ok_bound_interface T) (hr.mono (by decide)) rfl T.gbound_interface T.kbound_interface T.bbound_interface .nil pass0 (pa_cons (pv 4) (pa_cons (pv 6) pa_nil)))))
      (pss_one (ps_raise rfl (takes_of rfl rfl rfl rfl) (pmk_oex T.oFault T.MFault T.TFault (ok_Fault___init__ T) (hr.mono (by decide)) T.bFault___init__ .nil pass0 (by rfl) T.gFault (pa_cons (pe_fldC T.clRequest T.nRequest_number (pv 1) rfl) (pa_cons pe_int (pa_cons pe_str pa_nil))))))
      pss_nil)
      (pss_cons (ps_if (pt_cmpR op_ne (pv 6) pe_str (nomark _))
      (pss_one ps_retN)
      pss_nil)
      (pss_cons (ps_set (i := 8) sc_Registries__bind.nd rfl (Or.inl rfl) (pe_call (ok_output_numbered T) (hr.mono (by decide)) rfl T.goutput_numbered T.koutput_numbered T.boutput_numbered .nil pass0 (pa_cons (pv 2) (pa_cons (pe_op op_sub (pv 4) (pe_glob (v := .int (16)) rfl T.g_FIRST_OUTPUT ⟨_, rfl⟩)) pa_nil))))
      (pss_cons (ps_dput (hu_of hr) (pe_fldC T.clRegistries T.nRegistries__owners (pv 0) rfl) (pv 7) (pe_ifExp (pt_cmpR op_isN (pv 8) pe_non (nomark _)) pe_non (pe_fldC T.clOutput T.nOutput_number (pv 8) rfl)) rfl)
      (pss_one (ps_if (pt_cmpR op_notN (pv 8) pe_non (nomark _))
      (pss_one (ps_expr (pe_call (ok__tell_size T) (hr.mono (by decide)) rfl T.g_tell_size T.k_tell_size T.b_tell_size .nil pass0 (pa_cons (pv 7) (pa_cons (pv 8) (pa_cons (pv 3) pa_nil))))))
      pss_nil)))))))), ?_⟩
    walk_at "gf"
    refine ⟨hs, fun H1 p1 => ?_⟩
    have P1 := p1 U sU
    clear p1
    obtain ⟨P1a, P1b, P1c, P1d, P1e⟩ := P1
    have erq1 : H1 r = some _ := (P1e r (by rw [erq]; exact fun z => by cases z)).trans erq
    walk_at "gf"
    cases hf : fits place nm with
    | false =>
      refine if_t rfl ?_
      walk_at "gf"
      refine ⟨by show 3 ≤ 1000; decide, fault_go (fun dd H' h1 h2 h3 h4 => ?_)⟩
      exact qE.go hf dd H' (by walk_at "h") h2 (fun b hb => by rw [h3 b (by rw [P1e b hb]; exact hb), P1e b hb]) (fun b hb hz => P1d b (h4 b hb hz))
    | true =>
      refine if_f rfl ?_
      by_cases hno : nm = "output"
      · subst hno
        walk_at "gf"
        have G1 : Rg A.CRegistries U H1 rg lr d ls kvs k := G.frame (Nat.le_refl _) (Same.refl _) (by walk_at "h")
        have R1 : Rp A.CReply K U H1 o lt le lw [] [] ws := R.frame (Same.refl _) (by walk_at "h")
        obtain ⟨dxg, eg⟩ := G1.ob
        have egH := P1b _ _ eg
        have ed := G1.dd
        have ud := G1.ud
        have hlen := G1.len
        obtain ⟨elr, hls⟩ := G1.l
        have nld : lr ≠ d := ne_of elr ed (by intro z; cases z)
        obtain ⟨dxo, wa, eo⟩ := R1.ob
        have nod : o ≠ d := ne_of eo ed (by intro z; cases z)
        obtain ⟨yt, et, _⟩ := R1.t
        have ntd : lt ≠ d := ne_of et ed (by intro z; cases z)
        have elE := R1.e
        have nled : le ≠ d := ne_of elE ed (by intro z; cases z)
        obtain ⟨yw, ewl, _⟩ := R1.w
        have nwd : lw ≠ d := ne_of ewl ed (by intro z; cases z)
        have step : ∀ v : V, Ch U H1 U (upd H1 d (.dK (putK kvs (.inl made) v))) [lt, d] ∧ Rg A.CRegistries U (upd H1 d (.dK (putK kvs (.inl made) v))) rg lr d ls (putK kvs (.inl made) v) (k + 1) ∧ Rp A.CReply K U (upd H1 d (.dK (putK kvs (.inl made) v))) o lt le lw [] [] ws := fun v =>
          ⟨Ch.poke P1b ud _ (by simp), ⟨⟨dxg, eg⟩, ⟨by rw [upd_ne nld]; exact elr, by omega⟩, upd_same, G1.ul, ud, by have := length_putK kvs (.inl made) v; omega⟩, R1.frame (Same.refl _) (by walk_at "h")⟩
        have cP : Ch U H U H1 [lt, d] := ⟨P1a, P1b, P1c, P1d, fun b _ h => P1e b h⟩
        refine ⟨vo, os, some (place - 16), U, rfl, O, P1b, fun hno => ?_, fun z ob hso oz => ?_⟩
        · have hno : oFind os (place - 16) = none := hno
          rw [hno] at q2
          walk_at "gf"
          refine ⟨d, _, rfl, DPut.k (k := .inl made) ed (Nat.lt_of_lt_of_le (m := 100000) (by omega) (by decide)), ?_⟩
          obtain ⟨s1, s2, s3⟩ := step .non
          walk_at "gf"
          exact q2.go rfl U _ (cP.trans s1) s2 s3
        · have hso : oFind os (place - 16) = some ob := hso
          rw [hso] at q2
          obtain ⟨zb, dxz, rfl, ez⟩ := oz
          have ez1 := P1b _ _ ez
          walk_at "gf"
          refine ⟨d, _, rfl, DPut.k (k := .inl made) ed (Nat.lt_of_lt_of_le (m := 100000) (by omega) (by decide)), ?_⟩
          obtain ⟨s1, s2, s3⟩ := step (.int ob.n)
          walk_at "gf"
          have hok : OutOk ob := by
            obtain ⟨_, _, _, _, _, _, _, h⟩ := O
            exact h ob (List.mem_of_find?_eq_some hso)
          refine ⟨.ref zb, ob, o, lt, le, lw, made, [], [], ws, U, rfl, s1.vh, ev, hn, ⟨zb, dxz, rfl, ez⟩, hok, s3, by decide, fun U' H' c R' => ?_⟩
          obtain ⟨ca, cb, cc, cd, ce⟩ := c
          exact q2.go rfl U' H' (cP.trans (s1.trans (Ch.mono ⟨ca, cb, cc, cd, ce⟩ (by simp)))) (s2.frame (Nat.le_refl _) ca (fun b hb hu hx => ⟨cc b hu hb, ce b (by
            rw [List.mem_singleton]
            exact hx.elim (fun z => by rw [z]; exact n1) (fun z => by rw [z]; exact ntd.symm)) hb⟩)) R'
      · walk_at "gf"
        refine if_t (by rw [decide_eq_false (fun z => hno (V.str.inj z))]; rfl) ?_
        walk_at "gf"
        exact q1.go hf hno H1 ⟨P1a, P1b, P1c, P1d, P1e⟩
def SvSync (CE : Addr) (w : World) (A : Adr) (K : PySem.W.Frag) : Sp := fun vs H Q _ => ∃ (rg lr d r la o lt le lw : Addr) (n0 cb t : Int) (vo : V) (ls : List V) (kvs : List (Key × V)) (k : Nat) (ws : List PyData) (U : Hp), vs = [.ref rg, .ref r, vo, .int t, .ref o] ∧ Same U H ∧ Evs CE w K ∧ num cb ∧ Rg A.CRegistries U H rg lr d ls kvs k ∧ Rp A.CReply K U H o lt le lw [] [] ws ∧ lr ≠ lt ∧ lr ≠ le ∧
  Rq A.CRequest H r n0 "display" "sync" (.ref la) ∧ H la = some (.lst [.int cb]) ∧ la ≠ lt ∧ la ≠ le ∧ ∀ U' H', Ch U H U' H' [lt, le] → Rg A.CRegistries U' H' rg lr d ls kvs k → Rp A.CReply K U' H' o lt le lw [dnO cb (t % 4294967296)] [cb] ws → Q .non H'
def SvReg (CE : Addr) (w : World) (A : Adr) (K : PySem.W.Frag) : Sp := fun vs H Q E => ∃ (rg r la o : Addr) (n0 n t dxg lr d : _) (vo : V), vs = [.ref rg, .ref r, vo, .int t, .ref o] ∧ H rg = some (.ins A.CRegistries dxg [("_registries", .ref lr), ("_owners", .ref d)]) ∧
  Rq A.CRequest H r n0 "display" "registry" (.ref la) ∧ H la = some (.lst [.int n]) ∧ sp__open_registry CE w A K [.ref rg, .int n, vo, .ref o] H Q E
def SvBind (CE : Addr) (w : World) (A : Adr) (K : PySem.W.Frag) : Sp := fun vs H Q E => ∃ (rg r la o : Addr) (n0 t dxg lr d : _) (vo : V), vs = [.ref rg, .ref r, vo, .int t, .ref o] ∧ H rg = some (.ins A.CRegistries dxg [("_registries", .ref lr), ("_owners", .ref d)]) ∧
  Rq A.CRequest H r n0 "registry" "bind" (.ref la) ∧ sp__bind CE w A K [.ref rg, .ref r, vo, .ref o] H Q E
def sp_Registries_serve (CE : Addr) (w : World) (A : Adr) (K : PySem.W.Frag) : Sp := fun vs H Q E => SvSync CE w A K vs H Q E ∨ SvReg CE w A K vs H Q E ∨ SvBind CE w A K vs H Q E
theorem ifs_t {x y : Str} {A B : Prop} (e : decide (V.str x = V.str y) = true) (h : A) : if decide (V.str x = V.str y) = true then A else B := by rw [if_pos e]; exact h
theorem ifs_f {x y : Str} {A B : Prop} (e : decide (V.str x = V.str y) = false) (h : B) : if decide (V.str x = V.str y) = true then A else B := by rw [e]; exact iteF h
theorem sc_Registries_serve : FnScope ["self", "request", "outputs", "time", "reply", "callback"] ["self", "request", "outputs", "time", "reply"] (defScope s_Registries_serve) := ⟨rfl, rfl, rfl, by decide +kernel, rfl, by decide +kernel, by decide +kernel⟩
theorem ok_Registries_serve (T : Txt0 P K mg A) : FnOk P w K mg base (L2.CX P w) 12 A.fRegistries_serve A.dRegistries_serve ["self", "request", "outputs", "time", "reply"] (sp_Registries_serve A.a_EVENTS w A K) := by
  refine T.FRegistries_serve.okX sc_Registries_serve (fun vs H Q E h => ?_) (fun cdv Ar outer st H vs Q E hr h => ?_)
  · rcases h with ⟨_, _, _, _, _, _, _, _, _, _, _, _, _, _, _, _, _, _, rfl, _⟩ | ⟨_, _, _, _, _, _, _, _, _, _, _, rfl, _⟩ | ⟨_, _, _, _, _, _, _, _, _, _, rfl, _⟩ <;> rfl
  · refine ⟨_, (pss_one (ps_if (PW.pt (pw_and (pt_cmpR op_eq (pe_fldC T.clRequest T.nRequest_interface (pv 1) rfl) pe_str (nomark _)) (pw_and1 (pt_cmpR op_eq (pe_fldC T.clRequest T.nRequest_name (pv 1) rfl) pe_str (nomark _)))))
      (pss_cons (ps_set (i := 5) sc_Registries_serve.nd rfl (Or.inl rfl) (pe_ix (r := rIxL K) ix_list (pe_fldC T.clRequest T.nRequest_arguments (pv 1) rfl) pe_int (fun _ _ => rfl)))
      (pss_cons (ps_expr (pe_meth (pv 4) T.clReply T.mReply_tell (ok_Reply_tell T) (hr.mono (by decide)) T.bReply_tell .nil pass0 (pa_cons (pv 5) (pa_cons pe_str (pa_cons pe_str (pa_cons (pe_lst (pa_cons (pe_op op_mod (pv 3) (pe_op op_pow pe_int pe_int)) pa_nil)) pa_nil))))))
      (pss_one (ps_expr (pe_meth (pv 4) T.clReply T.mReply_end (ok_Reply_end T) (hr.mono (by decide)) T.bReply_end .nil pass0 (pa_cons (pv 5) pa_nil))))))
      (pss_one (ps_if (PW.pt (pw_and (pt_cmpR op_eq (pe_fldC T.clRequest T.nRequest_interface (pv 1) rfl) pe_str (nomark _)) (pw_and1 (pt_cmpR op_eq (pe_fldC T.clRequest T.nRequest_name (pv 1) rfl) pe_str (nomark _)))))
      (pss_one (ps_expr (pe_meth (pv 0) T.clRegistries T.mRegistries__open_registry (ok_Registries__open_registry T) (hr.mono (by decide)) T.bRegistries__open_registry .nil pass0 (pa_cons (pe_ix (r := rIxL K) ix_list (pe_fldC T.clRequest T.nRequest_arguments (pv 1) rfl) pe_int (fun _ _ => rfl)) (pa_cons (pv 2) (pa_cons (pv 4) pa_nil))))))
      (pss_one (ps_if (PW.pt (pw_and (pt_cmpR op_eq (pe_fldC T.clRequest T.nRequest_interface (pv 1) rfl) pe_str (nomark _)) (pw_and1 (pt_cmpR op_eq (pe_fldC T.clRequest T.nRequest_name (pv 1) rfl) pe_str (nomark _)))))
      (pss_one (ps_expr (pe_meth (pv 0) T.clRegistries T.mRegistries__bind (ok_Registries__bind T) (hr.mono (by decide)) T.bRegistries__bind .nil (passes_call (takes_of rfl rfl rfl rfl) (fun _ _ _ _ h => h)) (pa_cons (pv 1) (pa_cons (pv 2) (pa_cons (pv 4) pa_nil))))))
      pss_nil)))))), ?_⟩
    rcases h with ⟨rg, lr, d, r, la, o, lt, le, lw, n0, cb, t, vo, ls, kvs, k, ws, U, rfl, sU, ev, hn, G, R, n1, n2, ⟨dxq, eq, erq⟩, ela, n3, n4, q⟩ | ⟨rg, r, la, o, n0, n, t, dxg, lr, d, vo, rfl, eg, ⟨dxq, eq, erq⟩, ela, q⟩ | ⟨rg, r, la, o, n0, t, dxg, lr, d, vo, rfl, eg, ⟨dxq, eq, erq⟩, q⟩
    · replace q := Hid.mk q
      obtain ⟨dxo, wa, eo⟩ := R.ob
      obtain ⟨dxg, eg⟩ := G.ob
      have egH := sU _ _ eg
      walk_at "gf"
      refine ⟨⟨by decide, by decide, by decide⟩, ?_⟩
      have e32 : (2 : Int) ^ (32 : Int).toNat = 4294967296 := by decide
      refine ⟨_, _, rfl, rfl, by show (0 : Int) < 2 ^ (32 : Int).toNat; decide, ?_⟩
      walk_at "gf"
      rename_i va hva
      walk_at "nl"
      rw [e32]
      have uo := R.uo
      have p1 := Pu.skip (o := .lst [.int (t % 4294967296)]) sU hva
      obtain ⟨p1a, p1b, p1c, p1d, p1e⟩ := p1
      refine ⟨o, lt, le, lw, va, cb, "callback", "done", [], [], ws, dnO cb (t % 4294967296), U, rfl, p1b, R.frame (Same.refl _) (by walk_at "h"), ev.dnE hn (by unfold u32; omega) upd_same, by decide, fun U4 H4 v4 s4 o4 m4 k4 R4 => ?_⟩
      obtain ⟨dxo4, wa4, eo4⟩ := R4.ob
      walk_at "gf"
      refine ⟨o, lt, le, lw, cb, _, [], ws, U4, rfl, s4, R4, by decide, fun H5 c5 R5 => ?_⟩
      obtain ⟨c5a, c5b, c5c, c5d, c5e⟩ := c5
      have ul := G.ul
      obtain ⟨els, hls⟩ := G.l
      have ed := G.dd
      obtain ⟨yt, et, _⟩ := R.t
      have nlt : lt ≠ d := ne_of et ed (by intro z; cases z)
      have nle : le ≠ d := ne_of R.e ed (by intro z; cases z)
      have kk : ∀ b, b ≠ lt → b ≠ le → H b ≠ none → H5 b = H b := fun b h1 h2 h3 => by
        have e1 : H4 b = H b := by rw [k4 b h1 (by rw [p1e b h3]; exact h3), p1e b h3]
        rw [c5e b (by simpa using h2) (by rw [e1]; exact h3), e1]
      refine q.go U4 H5 ⟨v4.trans c5a, c5b, by walk_at "h", by walk_at "h", fun b hb h => kk b (fun z => hb (by rw [z]; simp)) (fun z => hb (by rw [z]; simp)) h⟩ (G.frame (Nat.le_refl _) (v4.trans c5a) (fun b hb hu hx => ⟨by walk_at "h", hx.elim (fun z => by rw [z]; exact kk lr n1 n2 (by rw [els]; exact fun z => by cases z)) (fun z => by rw [z]; exact kk d nlt.symm nle.symm (by rw [ed]; exact fun z => by cases z))⟩)) R5
    · walk_at "gf"
      exact q
    · walk_at "gf"
      exact q
/-! ### what changes -/
def miss (os xs : List Out) : List Out := xs.filter fun o => (oFind os o.n).isNone
theorem OutsAt.sub {C : Addr} {K : PySem.W.Frag} {U : Hp} {v : V} {os : List Out} (h : OutsAt C K U v os) : ∃ a zs, v = .ref a ∧ SqL K U a zs ∧ zs.length = os.length := by
  obtain ⟨a, zs, e, e1, e2, _⟩ := h
  exact ⟨a, zs, e, e1, e2⟩
theorem fm_filter {α : Type} (f : α → V) (p : α → Bool) : ∀ (zs : List V) (os : List α) (n : Nat), True := fun _ _ _ => trivial
/-- a comprehension that keeps some of a list's items (refs to what stands in the view): by a relation -/
structure KeepI (C : Addr) (V0 H0 : Hp) (D : Addr) (os : List Out) (ws : List V) (H : Hp) : Prop where
  ex : ∃ U, Pu V0 H0 U H ∧ U D = none ∧ H D = some (.lst ws) ∧ ws.length = os.length ∧ ∀ (i : Nat) (z : V), ws[i]? = some z → ∃ o, os[i]? = some o ∧ OutAt C U z o
theorem keep_lc {C : Addr} {K : PySem.W.Frag} {a : Addr} {zs : List V} {os : List Out} {V0 H0 : Hp} {D : Addr} {g : TG} {tt : TT} {te : TE} {vs : List Nat} {σ : St} {Qd : Hp → Prop} (p : Out → Bool) (σ0 : St) (hσ : wipe σ vs = σ0) (s0 : Same V0 H0) (hD : H0 D = none) (hl : zs.length = os.length) (hn : os.length < 100000) (hS : SqL K V0 a zs)
    (hz : ∀ (i : Nat) (z : V), zs[i]? = some z → ∃ o, os[i]? = some o ∧ OutAt C V0 z o)
    (hs : ∀ (i : Nat) (z : V) (o : Out) (U H : Hp), zs[i]? = some z → os[i]? = some o → OutAt C U z o → Same V0 U → Same U H → ∀ (Qy : VK) (Qn : Hp → Prop), (∀ U' H', Pu U H U' H' → p o = true → Qy z H') → (∀ U' H', Pu U H U' H' → p o = false → Qn H') →
      g z σ0 H fun σ2 H2 => wipe σ2 vs = σ0 ∧ tt σ2 H2 fun b H3 => if b = true then te σ2 H3 Qy else Qn H3)
    (hd : ∀ (U H : Hp) (ws : List V), Pu V0 H0 U H → U D = some (.lst ws) → ws.length = (os.filter p).length → (∀ (i : Nat) (z : V), ws[i]? = some z → ∃ o, (os.filter p)[i]? = some o ∧ OutAt C U z o) → Qd H) :
    ∃ W : Nat → Nat → Hp → Prop, (∃ m, W 0 m (upd H0 D (.lst []))) ∧ ∀ i m H, W i m H →
      ((Itl K a).stop i H ∧ Qd H) ∨ ((Itl K a).go i H ∧ ∃ Nx : Hp → Prop, (∀ H', Nx H' → ∃ m', m' < m ∧ W (i + 1) m' H') ∧ ∀ x H', (Itl K a).yld i H x H' → g x (wipe σ vs) H' fun σ2 H2 => wipe σ2 vs = wipe σ vs ∧ tt σ2 H2 fun b H3 =>
        if b = true then te σ2 H3 fun y H4 => ∃ acc, H4 D = some (.lst acc) ∧ acc.length < sizeLine ∧ Nx (upd H4 D (.lst (acc ++ [y]))) else Nx H3) := by
  subst hσ
  refine lc_it (walk_list (K := K) (a := a) (xs := zs)) (fun i H => ∃ ws, KeepI C V0 H0 D ((os.take i).filter p) ws H) ⟨[], V0, ⟨Same.refl V0, by walk_at "h", fun _ h _ => h, by walk_at "h", by walk_at "h"⟩, s0.free hD, upd_same, rfl, fun i z h => by cases h⟩ (fun i H _ ⟨ws, h⟩ => ?_) (fun i x H H' hi ⟨ws, h⟩ y => ?_) (fun H ⟨ws, h⟩ => ?_)
  · obtain ⟨U, pu, _⟩ := h.ex
    exact (pu.vv.trans pu.vh).seq hS
  · obtain ⟨U, pu, hU, eD, hwl, hw⟩ := h.ex
    obtain ⟨rfl, hx⟩ := y
    obtain ⟨o, ho, oz⟩ := hz i x hx
    have htk : os.take (i + 1) = os.take i ++ [o] := by
      obtain ⟨h1, h2⟩ := List.getElem?_eq_some_iff.mp ho
      rw [List.take_succ_eq_append_getElem h1, h2]
    refine hs i x o U H' hx ho (oz.to pu.vv) pu.vv pu.vh _ _ (fun U' H4 p2 hp => ?_) (fun U' H4 p2 hp => ?_)
    · have e4 : H4 D = some (.lst ws) := (p2.kp D (by rw [eD]; exact fun z => by cases z)).trans eD
      have u4 : U' D = none := p2.out D hU (by rw [eD]; exact fun z => by cases z)
      have hle : ws.length ≤ os.length := by
        rw [hwl]
        refine Nat.le_trans (List.length_filter_le _ _) ?_
        rw [List.length_take]; omega
      refine ⟨ws, e4, lt_line (by omega), ws ++ [x], ?_⟩
      rw [htk, List.filter_append, List.filter_cons_of_pos hp]
      have pp := pu.trans p2
      have v4 := p2.vv
      refine ⟨U', ⟨pp.vv, ?_, pp.out, ?_, ?_⟩, u4, upd_same, by rw [List.length_append, List.length_append, hwl]; rfl, fun j z hj => ?_⟩
      · have := pp.vh; walk_at "h"
      · intro b hb
        by_cases hbD : b = D
        · rw [hbD]; exact hD
        · rw [upd_ne hbD] at hb; exact pp.nn b hb
      · intro b hb
        have hbD : b ≠ D := fun z => hb (by rw [z]; exact hD)
        rw [upd_ne hbD]; exact pp.kp b hb
      · by_cases hlt : j < ws.length
        · rw [List.getElem?_append_left hlt] at hj
          obtain ⟨o', a1, a2⟩ := hw j z hj
          exact ⟨o', by rw [List.getElem?_append_left (by omega)]; exact a1, a2.to v4⟩
        · have hjl := (List.getElem?_eq_some_iff.mp hj).1
          rw [List.length_append] at hjl
          have hj2 : j = ws.length := by have : j < ws.length + 1 := hjl; omega
          subst hj2
          rw [List.getElem?_append_right (Nat.le_refl _), Nat.sub_self] at hj
          cases hj
          exact ⟨o, by rw [hwl, List.getElem?_append_right (Nat.le_refl _), Nat.sub_self]; rfl, (oz.to pu.vv).to v4⟩
    · have e4 : H4 D = some (.lst ws) := (p2.kp D (by rw [eD]; exact fun z => by cases z)).trans eD
      have u4 : U' D = none := p2.out D hU (by rw [eD]; exact fun z => by cases z)
      refine ⟨ws, U', pu.trans p2, u4, e4, ?_, ?_⟩
      · rw [htk, List.filter_append, List.filter_cons_of_neg (by rw [hp]; exact fun z => by cases z), List.filter_nil, List.append_nil]; exact hwl
      · rw [htk, List.filter_append, List.filter_cons_of_neg (by rw [hp]; exact fun z => by cases z), List.filter_nil, List.append_nil]
        exact fun j z hj => by obtain ⟨o', a1, a2⟩ := hw j z hj; exact ⟨o', a1, a2.to p2.vv⟩
  · obtain ⟨U, pu, hU, eD, hwl, hw⟩ := h.ex
    rw [hl, List.take_length] at hwl hw
    have s1 := pu.vh
    have sn : Same U (upd U D (.lst ws)) := by walk_at "h"
    refine hd (upd U D (.lst ws)) H ws ⟨pu.vv.trans sn, by walk_at "h", ?_, pu.nn, pu.kp⟩ upd_same hwl (fun j z hj => by obtain ⟨o', a1, a2⟩ := hw j z hj; exact ⟨o', a1, a2.to sn⟩)
    intro b hb hn
    have hbD : b ≠ D := fun z => hn (by rw [z]; exact hD)
    rw [upd_ne hbD]; exact pu.out b hb hn
def sp__missing_in (C : Addr) (K : PySem.W.Frag) : Sp := fun vs H Q _ => ∃ (v u : V) (os xs : List Out) (U : Hp), vs = [v, u] ∧ OutsAt C K U v os ∧ OutsAt C K U u xs ∧ Same U H ∧ ∀ z U' H', Pu U H U' H' → OutsAt C K U' z (miss os xs) → Q z H'
theorem sc__missing_in : FnScope ["outputs", "others", "other"] ["outputs", "others"] (defScope s__missing_in) := ⟨rfl, rfl, rfl, by decide +kernel, rfl, by decide +kernel, by decide +kernel⟩
theorem ok__missing_in (T : Txt0 P K mg A) : FnOk P w K mg base CX0 2 A.f_missing_in A.d_missing_in ["outputs", "others"] (sp__missing_in A.COutput K) := by
  refine T.F_missing_in.ok sc__missing_in (fun vs H Q E h => ?_) (fun cdv Ar outer st H vs Q E hr h => ?_)
  · obtain ⟨_, _, _, _, _, rfl, _⟩ := h
    rfl
  · obtain ⟨v, u, os, xs, U, rfl, O, X, sU, q⟩ := h
    replace q := Hid.mk q
    obtain ⟨a, zs, rfl, hq, hl, hm, hz, hok⟩ := X
    refine ⟨_, (pss_one (ps_ret (pe_lc (own := [("other", 2)]) (g := (gName 2)) (tt := tTest (tOp (fun x y H Q => y = V.non ∧ Q (V.bl (decide (x = V.non))) H) (tCall (sp_output_numbered A.COutput K) [] E0 (tCons (tVar 0) (tCons (tFld K (tVar 2) "number") tNil))) (tC .non))) rfl sc__missing_in.nd (pi_list (pv 1)) (blkOk_by (own := [("other", 2)]) (N := ["outputs", "others", "other"]) (sc := defScope s__missing_in) (by decide +kernel)) (fun _ _ _ _ _ => (pg_name (i := 2) sc__missing_in.nd rfl (Or.inl rfl))) (fun _ _ _ _ _ => by exact (pts_one (pt_cmpR op_isN (pe_call (ok_output_numbered (P := P) (w := w) (base := base) T) (hr.mono (by decide)) rfl T.goutput_numbered T.koutput_numbered T.boutput_numbered .nil pass0 (pa_cons (pv 0) (pa_cons (pe_fld (pv 2) rfl) pa_nil))) pe_non (nomark _)))) (fun _ _ _ _ _ => by exact (pv 2))))), ?_⟩
    refine ⟨_, rfl, a, rfl, ⟨_, sU.seq hq⟩, fun D hD => ?_⟩
    refine keep_lc (C := A.COutput) (K := K) (fun o => (oFind os o.n).isNone) _ rfl sU hD hl (by omega) hq hz ?_ ?_
    · intro i z o U2 H2 hzi hoi oz v2 s2 Qy Qn hy hno
      obtain ⟨b, dx, rfl, eb⟩ := oz
      have ebH := s2 _ _ eb
      walk_at "gf"
      refine ⟨b, A.COutput, dx, _, _, rfl, ebH, T.clOutput, T.nOutput_number, by walk_at "lk", ?_⟩
      refine ⟨v, os, some o.n, U2, rfl, O.to v2, s2, fun hf => ?_, fun z' o' hf oz' => ?_⟩
      · walk_at "gf"
        exact hy U2 _ (Pu.refl s2) (by rw [show oFind os o.n = none from hf]; rfl)
      · obtain ⟨b', dx', rfl, _⟩ := oz'
        refine ⟨rfl, _, rfl, ?_⟩
        exact if_f rfl (hno U2 _ (Pu.refl s2) (by rw [show oFind os o.n = some o' from hf]; rfl))
    · intro U2 H2 ws pu eD hwl hw
      exact q.go (.ref D) U2 H2 pu ⟨D, ws, rfl, SqL.of eD, hwl, Nat.le_trans (List.length_filter_le _ _) hm, hw, fun o ho => hok o (List.mem_filter.mp ho).1⟩
/-! ### changed -/
def szRow (o : Out) : List Int := [o.w, o.h, o.s, o.t]
def sizeT (before after : List Out) (p : Int × Option Int) : List (List Int) := match oFindO before p.2, oFindO after p.2 with
  | some o, some o' => if szRow o = szRow o' then [] else [szO p.1 o']
  | _, _ => []
def regT (before after : List Out) (r : Int) : List (List Int) := ((miss after before).map fun o => goO r (16 + o.n)) ++ (miss before after).map fun o => thO r (16 + o.n, "output")
def toldC (before after : List Out) (rs : List Int) (ow : List (Int × Option Int)) : List (List Int) := rs.flatMap (regT before after) ++ ow.flatMap (sizeT before after)
def ownK (ow : List (Int × Option Int)) : List (Key × V) := ow.map fun p => (.inl p.1, optV p.2)
theorem fl_bound {α β : Type} (F : α → List β) (c : Nat) (h : ∀ r, (F r).length ≤ c) : ∀ rs : List α, (rs.flatMap F).length ≤ c * rs.length
  | [] => Nat.zero_le _
  | r :: t => by
    rw [List.flatMap_cons, List.length_append, List.length_cons, Nat.mul_succ]
    have := fl_bound F c h t
    have := h r
    omega
theorem regT_len {b a : List Out} (hb : b.length ≤ 20) (ha : a.length ≤ 20) (r : Int) : (regT b a r).length ≤ 40 := by
  unfold regT miss
  rw [List.length_append, List.length_map, List.length_map]
  have := List.length_filter_le (fun o => (oFind a o.n).isNone) b
  have := List.length_filter_le (fun o => (oFind b o.n).isNone) a
  omega
theorem sizeT_len (b a : List Out) (p : Int × Option Int) : (sizeT b a p).length ≤ 1 := by
  unfold sizeT
  split
  · split <;> simp
  · simp
theorem oFindO_mem {os : List Out} {w : Option Int} {o : Out} (h : oFindO os w = some o) : o ∈ os := by
  cases w with
  | none => cases h
  | some n => exact List.mem_of_find?_eq_some h
theorem szRow_sh (o : Out) : Sh 1 (pInts (szRow o)) := sh_ints _
theorem eqv_intsA : ∀ a b : List Int, PyData.eqvAll (a.map PyData.int) (b.map PyData.int) = decide (a = b)
  | [], [] => rfl
  | [], _ :: _ => rfl
  | _ :: _, [] => rfl
  | x :: a, y :: b => by
    rw [List.map_cons, List.map_cons]
    show ((x == y) && PyData.eqvAll (a.map PyData.int) (b.map PyData.int)) = _
    rw [eqv_intsA a b]
    by_cases h1 : x = y
    · by_cases h2 : a = b
      · simp [h1, h2]
      · simp [h1, h2]
    · simp [h1]
theorem eqv_pInts (a b : List Int) : PyData.eqv (pInts a) (pInts b) = decide (a = b) := eqv_intsA a b
def sp_Registries_changed (CE : Addr) (w : World) (A : Adr) (K : PySem.W.Frag) : Sp := fun vs H Q _ => ∃ (rg lr d o lt le lw : Addr) (vb va : V) (before after : List Out) (rs : List Int) (ow : List (Int × Option Int)) (m : Nat) (ws : List PyData) (U : Hp), vs = [.ref rg, vb, va, .ref o] ∧ Same U H ∧ Evs CE w K ∧ OutsAt A.COutput K U vb before ∧ OutsAt A.COutput K U va after ∧ Rg A.CRegistries U H rg lr d (rs.map V.int) (ownK ow) m ∧ rs.length ≤ 10 ∧ ow.length ≤ 10 ∧ (∀ r ∈ rs, num r) ∧ (∀ p ∈ ow, num p.1) ∧ Rp A.CReply K U H o lt le lw [] [] ws ∧ lr ≠ lt ∧
  ∀ U' H', Ch U H U' H' [lt] → Rg A.CRegistries U' H' rg lr d (rs.map V.int) (ownK ow) m → Rp A.CReply K U' H' o lt le lw (toldC before after rs ow) [] ws → Q .non H'
theorem sc_Registries_changed : FnScope ["self", "before", "after", "reply", "gone", "new", "registry", "output", "number", "owner", "old", "present"] ["self", "before", "after", "reply"] (defScope s_Registries_changed) := ⟨rfl, rfl, rfl, by decide +kernel, rfl, by decide +kernel, by decide +kernel⟩
theorem ok_Registries_changed (T : Txt0 P K mg A) : FnOk P w K mg base CX0 11 A.fRegistries_changed A.dRegistries_changed ["self", "before", "after", "reply"] (sp_Registries_changed A.a_EVENTS w A K) := by
  refine T.FRegistries_changed.ok sc_Registries_changed (fun vs H Q E h => ?_) (fun cdv Ar outer st H vs Q E hr h => ?_)
  · obtain ⟨_, _, _, _, _, _, _, _, _, _, _, _, _, _, _, _, rfl, _⟩ := h
    rfl
  · obtain ⟨rg, lr, d, o, lt, le, lw, vb, va, before, after, rs, ow, m, ws, U, rfl, sU, ev, OB, OA, G, hrs, how, hnr, hno, R, n1, q⟩ := h
    replace q := Hid.mk q
    have hbl : before.length ≤ 20 := by obtain ⟨_, _, _, _, _, h, _⟩ := OB; exact h
    have hal : after.length ≤ 20 := by obtain ⟨_, _, _, _, _, h, _⟩ := OA; exact h
    have hFl := fl_bound (regT before after) 40 (regT_len hbl hal) rs
    refine ⟨_, (pss_cons (ps_set (i := 4) sc_Registries_changed.nd rfl (Or.inl rfl) (pe_call (ok__missing_in T) (hr.mono (by decide)) rfl T.g_missing_in T.k_missing_in T.b_missing_in .nil pass0 (pa_cons (pv 2) (pa_cons (pv 1) pa_nil))))
      (pss_cons (ps_set (i := 5) sc_Registries_changed.nd rfl (Or.inl rfl) (pe_call (ok__missing_in T) (hr.mono (by decide)) rfl T.g_missing_in T.k_missing_in T.b_missing_in .nil pass0 (pa_cons (pv 1) (pa_cons (pv 2) pa_nil))))
      (pss_cons (ps_for PassesOwn.never rfl (pi_list (pe_fldC T.clRegistries T.nRegistries__registries (pv 0) rfl)) (pg_name (i := 6) sc_Registries_changed.nd rfl (Or.inl rfl))
      (pss_cons (ps_for PassesOwn.never rfl (pi_list (pv 4)) (pg_name (i := 7) sc_Registries_changed.nd rfl (Or.inl rfl))
      (pss_one (ps_expr (pe_meth (pv 3) T.clReply T.mReply_tell (ok_Reply_tell T) (hr.mono (by decide)) T.bReply_tell .nil pass0 (pa_cons (pv 6) (pa_cons pe_str (pa_cons pe_str (pa_cons (pe_lst (pa_cons (pe_call (ok__global_number T) (hr.mono (by decide)) rfl T.g_global_number T.k_global_number T.b_global_number .nil pass0 (pa_cons (pv 7) pa_nil)) pa_nil)) pa_nil))))))))
      (pss_one (ps_for PassesOwn.never rfl (pi_list (pv 5)) (pg_name (i := 7) sc_Registries_changed.nd rfl (Or.inl rfl))
      (pss_one (ps_expr (pe_meth (pv 3) T.clReply T.mReply_tell (ok_Reply_tell T) (hr.mono (by decide)) T.bReply_tell .nil pass0 (pa_cons (pv 6) (pa_cons pe_str (pa_cons pe_str (pa_cons (pe_lst (pa_cons (pe_call (ok__global_number T) (hr.mono (by decide)) rfl T.g_global_number T.k_global_number T.b_global_number .nil pass0 (pa_cons (pv 7) pa_nil)) (pa_cons pe_str pa_nil))) pa_nil)))))))))))
      (pss_one (ps_lock (ps_for PassesOwn.never rfl (pi_items (pe_fldC T.clRegistries T.nRegistries__owners (pv 0) rfl)) (pg_tup rfl (pgs_cons (pg_name (i := 8) sc_Registries_changed.nd rfl (Or.inl rfl)) (pgs_cons (pg_name (i := 9) sc_Registries_changed.nd rfl (Or.inl rfl)) pgs_nil)))
      (pss_cons (ps_set (i := 10) sc_Registries_changed.nd rfl (Or.inl rfl) (pe_call (ok_output_numbered T) (hr.mono (by decide)) rfl T.goutput_numbered T.koutput_numbered T.boutput_numbered .nil pass0 (pa_cons (pv 1) (pa_cons (pv 9) pa_nil))))
      (pss_cons (ps_set (i := 11) sc_Registries_changed.nd rfl (Or.inl rfl) (pe_call (ok_output_numbered T) (hr.mono (by decide)) rfl T.goutput_numbered T.koutput_numbered T.boutput_numbered .nil pass0 (pa_cons (pv 2) (pa_cons (pv 9) pa_nil))))
      (pss_one (ps_if (PW.pt (pw_and (pt_cmpR op_notN (pv 10) pe_non (nomark _)) (pw_and (pt_cmpR op_notN (pv 11) pe_non (nomark _)) (pw_and1 (pt_cmpR (op_neD hr.units) (pe_call (ok__size_row T) (hr.mono (by decide)) rfl T.g_size_row T.k_size_row T.b_size_row .nil pass0 (pa_cons (pv 10) pa_nil)) (pe_call (ok__size_row T) (hr.mono (by decide)) rfl T.g_size_row T.k_size_row T.b_size_row .nil pass0 (pa_cons (pv 11) pa_nil)) (nomark _))))))
      (pss_one (ps_expr (pe_call (ok__tell_size T) (hr.mono (by decide)) rfl T.g_tell_size T.k_tell_size T.b_tell_size .nil pass0 (pa_cons (pv 8) (pa_cons (pv 11) (pa_cons (pv 3) pa_nil))))))
      pss_nil)))))))))), ?_⟩
    walk_at "gf"
    refine ⟨va, vb, after, before, U, rfl, OA, OB, sU, fun vg U1 H1 p1 GO => ?_⟩
    walk_at "gf"
    refine ⟨vb, va, before, after, U1, rfl, OB.to p1.vv, OA.to p1.vv, p1.vh, fun vn U2 H2 p2 NE => ?_⟩
    have P2 := p1.trans p2
    have GO2 := GO.to p2.vv
    have G2 : Rg A.CRegistries U2 H2 rg lr d (rs.map V.int) (ownK ow) m := G.frame (Nat.le_refl _) P2.vv (fun b hb hu _ => ⟨P2.out b hu hb, P2.kp b hb⟩)
    have R2 : Rp A.CReply K U2 H2 o lt le lw [] [] ws := R.frame P2.vv (fun b hb hu _ => ⟨P2.out b hu hb, P2.kp b hb⟩)
    have OB2 := OB.to P2.vv
    have OA2 := OA.to P2.vv
    have C2 := P2.ch [lt]
    clear p1 p2 P2 GO OB OA G R
    obtain ⟨ga, gz, rfl, gq, gl, gm, gw, gok⟩ := GO2
    obtain ⟨na, nz, rfl, nq, nl, nm, nw, nok⟩ := NE
    obtain ⟨dxg, eg⟩ := G2.ob
    have ed2 := G2.dd
    have elr2 := G2.l.1
    obtain ⟨yt2, et2, _⟩ := R2.t
    have ntd : lt ≠ d := ne_of et2 ed2 (by intro z; cases z)
    have egH2 := C2.vh _ _ eg
    walk_at "gf"
    have step : ∀ {U5 H5 U6 H6 : Hp}, Same U5 H5 → Rg A.CRegistries U5 H5 rg lr d (rs.map V.int) (ownK ow) m → Ch U5 H5 U6 H6 [lt] → Rg A.CRegistries U6 H6 rg lr d (rs.map V.int) (ownK ow) m := fun s5 G5 c => G5.frame (Nat.le_refl _) c.vv (fun b hb hu hx => ⟨c.out b hu hb, c.kp b (by
      rw [List.mem_singleton]
      exact hx.elim (fun z => by rw [z]; exact n1) (fun z => by rw [z]; exact ntd.symm)) hb⟩)
    refine ⟨⟨_, SqL.of elr2⟩, for_list (K := K) (a := lr) (xs := rs.map V.int) (fun i σ H' => ∃ (U' : Hp) (v6 v7 : Option V), σ = [some (.ref rg), some vb, some va, some (.ref o), some (.ref ga), some (.ref na), v6, v7, none, none, none, none] ∧ Same U2 U' ∧ Ch U H U' H' [lt] ∧ Rg A.CRegistries U' H' rg lr d (rs.map V.int) (ownK ow) m ∧ Rp A.CReply K U' H' o lt le lw ((rs.take i).flatMap (regT before after)) [] ws)
      ⟨U2, _, _, rfl, Same.refl _, C2, G2, R2⟩ (fun i σ H' _ ⟨U', _, _, _, a1, a2, a3, _⟩ => SqL.of a3.l.1) ?_ ?_⟩
    · rintro i z σ H5 hi ⟨U5, v6, v7, rfl, v5, c5, G5, R5⟩
      rw [List.getElem?_map] at hi
      obtain ⟨r, hri, rfl⟩ := Option.map_eq_some_iff.mp hi
      have hnum := hnr r (List.mem_of_getElem? hri)
      have hts : ((rs.take i).flatMap (regT before after)).length ≤ 400 := by
        have := fl_le' (regT before after) rs i
        have : 40 * rs.length ≤ 40 * 10 := Nat.mul_le_mul_left _ hrs
        omega
      walk_at "gf"
      refine ⟨⟨_, c5.vh.seq (v5.seq gq)⟩, for_list (K := K) (a := ga) (xs := gz) (fun j σ H' => ∃ (U' : Hp) (v7 : Option V), σ = [some (.ref rg), some vb, some va, some (.ref o), some (.ref ga), some (.ref na), some (.int r), v7, none, none, none, none] ∧ Same U2 U' ∧ Ch U H U' H' [lt] ∧ Rg A.CRegistries U' H' rg lr d (rs.map V.int) (ownK ow) m ∧ Rp A.CReply K U' H' o lt le lw ((rs.take i).flatMap (regT before after) ++ ((miss after before).take j).map fun o => goO r (16 + o.n)) [] ws)
        ⟨U5, _, rfl, v5, c5, G5, by rw [List.take_zero, List.map_nil, List.append_nil]; exact R5⟩ (fun j σ H' _ ⟨U', _, _, a1, a2, _⟩ => a2.vh.seq (a1.seq gq)) ?_ ?_⟩
      · rintro j z σ H6 hj ⟨U6, v7, rfl, v6, c6, G6, R6⟩
        obtain ⟨ob, hob, oz⟩ := gw j z hj
        have okb := gok ob (List.mem_of_getElem? hob)
        unfold OutOk at okb
        obtain ⟨dxo, wa, eo⟩ := R6.ob
        have hlt : j < (miss after before).length := (List.getElem?_eq_some_iff.mp hob).1
        walk_at "gf"
        refine ⟨z, ob, rfl, (oz.to v6).to c6.vh, ?_⟩
        walk_at "gf"
        rename_i va' hva
        walk_at "nl"
        have p6 := Pu.skip (o := .lst [.int (16 + ob.n)]) c6.vh hva
        refine ⟨o, lt, le, lw, va', r, "registry", "gone", _, [], ws, goO r (16 + ob.n), U6, rfl, p6.vh, R6.frame (Same.refl _) (fun b hb hu _ => ⟨hu, p6.kp b hb⟩), ev.goE hnum (by unfold u32; omega) upd_same, ?_, fun U7 H7 v7 s7 o7 m7 k7 R7 => ?_⟩
        · rw [List.length_append, List.length_map, List.length_take]; omega
        obtain ⟨p6a, p6b, p6c, p6d, p6e⟩ := p6
        have c7 : Ch U6 H6 U7 H7 [lt] := ⟨v7, s7, by walk_at "h", by walk_at "h", fun b hb hn' => by rw [k7 b (by simpa using hb) (by rw [p6e b hn']; exact hn'), p6e b hn']⟩
        refine ⟨U7, _, rfl, v6.trans v7, c6.trans c7, step c6.vh G6 c7, ?_⟩
        obtain ⟨ha, hb⟩ := List.getElem?_eq_some_iff.mp hob
        rw [List.take_succ_eq_append_getElem ha, List.map_append, ← List.append_assoc, hb]; exact R7
      · rintro σ H6 ⟨U6, v7, rfl, v6, c6, G6, R6⟩
        rw [gl, List.take_length] at R6
        walk_at "gf"
        refine ⟨⟨_, c6.vh.seq (v6.seq nq)⟩, for_list (K := K) (a := na) (xs := nz) (fun j σ H' => ∃ (U' : Hp) (v7 : Option V), σ = [some (.ref rg), some vb, some va, some (.ref o), some (.ref ga), some (.ref na), some (.int r), v7, none, none, none, none] ∧ Same U2 U' ∧ Ch U H U' H' [lt] ∧ Rg A.CRegistries U' H' rg lr d (rs.map V.int) (ownK ow) m ∧ Rp A.CReply K U' H' o lt le lw ((rs.take i).flatMap (regT before after) ++ ((miss after before).map fun o => goO r (16 + o.n)) ++ ((miss before after).take j).map fun o => thO r (16 + o.n, "output")) [] ws)
          ⟨U6, _, rfl, v6, c6, G6, by rw [List.take_zero, List.map_nil, List.append_nil]; exact R6⟩ (fun j σ H' _ ⟨U', _, _, a1, a2, _⟩ => a2.vh.seq (a1.seq nq)) ?_ ?_⟩
        · rintro j z σ H7 hj ⟨U7, v7, rfl, v7', c7, G7, R7⟩
          obtain ⟨ob, hob, oz⟩ := nw j z hj
          have okb := nok ob (List.mem_of_getElem? hob)
          unfold OutOk at okb
          obtain ⟨dxo, wa, eo⟩ := R7.ob
          have hlt : j < (miss before after).length := (List.getElem?_eq_some_iff.mp hob).1
          walk_at "gf"
          refine ⟨z, ob, rfl, (oz.to v7').to c7.vh, ?_⟩
          walk_at "gf"
          rename_i va' hva
          walk_at "nl"
          have p6 := Pu.skip (o := .lst [.int (16 + ob.n), .str "output"]) c7.vh hva
          refine ⟨o, lt, le, lw, va', r, "registry", "there", _, [], ws, thO r (16 + ob.n, "output"), U7, rfl, p6.vh, R7.frame (Same.refl _) (fun b hb hu _ => ⟨hu, p6.kp b hb⟩), ev.thE (r := (16 + ob.n, "output")) hnum ⟨by unfold u32; dsimp only; omega, (by decide +kernel : isText ("output" : Str) = true), (by decide +kernel : ("output" : Str).length ≤ 50)⟩ upd_same, ?_, fun U8 H8 v8 s8 o8 m8 k8 R8 => ?_⟩
          · rw [List.length_append, List.length_append, List.length_map, List.length_map, List.length_take]; omega
          obtain ⟨p6a, p6b, p6c, p6d, p6e⟩ := p6
          have c8 : Ch U7 H7 U8 H8 [lt] := ⟨v8, s8, by walk_at "h", by walk_at "h", fun b hb hn' => by rw [k8 b (by simpa using hb) (by rw [p6e b hn']; exact hn'), p6e b hn']⟩
          refine ⟨U8, _, rfl, v7'.trans v8, c7.trans c8, step c7.vh G7 c8, ?_⟩
          obtain ⟨ha, hb⟩ := List.getElem?_eq_some_iff.mp hob
          rw [List.take_succ_eq_append_getElem ha, List.map_append, ← List.append_assoc, hb]; exact R8
        · rintro σ H7 ⟨U7, v7, rfl, v7', c7, G7, R7⟩
          rw [nl, List.take_length, List.append_assoc] at R7
          refine ⟨U7, _, _, rfl, v7', c7, G7, ?_⟩
          rw [fl_take' (regT before after) rs i r hri]
          exact R7
    · rintro σ H5 ⟨U5, v6, v7, rfl, v5, c5, G5, R5⟩
      rw [List.length_map, List.take_length] at R5
      have ed5 := G5.dd
      have ud5 := G5.ud
      have s5 := c5.vh
      obtain ⟨dxg5, eg5⟩ := G5.ob
      refine ⟨d, _, ed5, trivial, fun od => ?_⟩
      have sF : Same U5 (upd H5 d (.frz od (.dK (ownK ow)))) := by walk_at "h"
      have eF : (upd H5 d (.frz od (.dK (ownK ow)))) d = some (.frz od (.dK (ownK ow))) := upd_same
      have kF : ∀ b, b ≠ d → (upd H5 d (.frz od (.dK (ownK ow)))) b = H5 b := fun b hb => upd_ne hb
      obtain ⟨yt5, et5, _⟩ := R5.t
      have nod : o ≠ d := by
        obtain ⟨dxo, wa, eo⟩ := R5.ob
        exact ne_of eo ed5 (by intro z; cases z)
      have nled : le ≠ d := ne_of R5.e ed5 (by intro z; cases z)
      have nlwd : lw ≠ d := by
        obtain ⟨yw, ew, _⟩ := R5.w
        exact ne_of ew ed5 (by intro z; cases z)
      have RF : Rp A.CReply K U5 (upd H5 d (.frz od (.dK (ownK ow)))) o lt le lw (rs.flatMap (regT before after)) [] ws := R5.frame (Same.refl _) (fun b hb hu hx => ⟨hu, kF b (by rcases hx with rfl | rfl | rfl | rfl <;> assumption)⟩)
      generalize hHF : upd H5 d (.frz od (.dK (ownK ow))) = HF at sF eF kF RF ⊢
      have egF := sF _ _ eg5
      walk_at "gf"
      refine ⟨d, od, ownK ow, rfl, eF, for_it (walk_items (d := d) (o := od) (kvs := ownK ow)) (fun i σ H' => ∃ (U' : Hp) (v8 v9 v10 v11 : Option V), σ = [some (.ref rg), some vb, some va, some (.ref o), some (.ref ga), some (.ref na), v6, v7, v8, v9, v10, v11] ∧ Ch U5 HF U' H' [lt] ∧ H' d = some (.frz od (.dK (ownK ow))) ∧ Rp A.CReply K U' H' o lt le lw (rs.flatMap (regT before after) ++ (ow.take i).flatMap (sizeT before after)) [] ws)
        ⟨U5, _, _, _, _, rfl, (Pu.refl sF).ch _, eF, by rw [List.take_zero, List.flatMap_nil, List.append_nil]; exact RF⟩ (fun i σ H' _ ⟨_, _, _, _, _, _, _, e, _⟩ => e) ?_ ?_⟩
      · rintro i x σ H6 H7 hi ⟨U6, v8, v9, v10, v11, rfl, c6, e6, R6⟩ ⟨t, kx, vx, rfl, ht, rfl, hk, hv⟩
        have hoi : ∃ p, ow[i]? = some p := by
          have : i < ow.length := by rw [show (ownK ow).length = ow.length from List.length_map ..] at hi; exact hi
          exact ⟨_, List.getElem?_eq_getElem this⟩
        obtain ⟨p, hp⟩ := hoi
        have hkv : (ownK ow)[i]? = some (.inl p.1, optV p.2) := by unfold ownK; rw [List.getElem?_map, hp]; rfl
        dsimp only at hk hv
        rw [hkv] at hk hv
        obtain rfl : V.int p.1 = kx := Option.some.inj hk
        obtain rfl : optV p.2 = vx := Option.some.inj hv
        have hpn := hno p (List.mem_of_getElem? hp)
        have p7 := Pu.skip (o := .tup [.int p.1, optV p.2]) c6.vh ht
        have et : (upd H6 t (.tup [.int p.1, optV p.2])) t = some (.tup [.int p.1, optV p.2]) := upd_same
        have e7 : (upd H6 t (.tup [.int p.1, optV p.2])) d = some (.frz od (.dK (ownK ow))) := (p7.kp d (by rw [e6]; exact fun z => by cases z)).trans e6
        have R7 : Rp A.CReply K U6 (upd H6 t (.tup [.int p.1, optV p.2])) o lt le lw (rs.flatMap (regT before after) ++ (ow.take i).flatMap (sizeT before after)) [] ws := R6.frame (Same.refl _) (fun b hb hu _ => ⟨hu, p7.kp b hb⟩)
        have c7 := c6.trans (p7.ch [lt])
        generalize upd H6 t (.tup [.int p.1, optV p.2]) = H7 at p7 et e7 R7 c7 ⊢
        clear R6 c6 e6 p7 ht
        have vv6 := (c5.vv.trans c7.vv)
        have OB6 : OutsAt A.COutput K U6 vb before := OB2.to (v5.trans c7.vv)
        have OA6 : OutsAt A.COutput K U6 va after := OA2.to (v5.trans c7.vv)
        have hts : (rs.flatMap (regT before after) ++ (ow.take i).flatMap (sizeT before after)).length ≤ 500 := by
          rw [List.length_append]
          have h1 := fl_le' (sizeT before after) ow i
          have h2 := fl_bound (sizeT before after) 1 (sizeT_len before after) ow
          have : 40 * rs.length ≤ 40 * 10 := Nat.mul_le_mul_left _ hrs
          omega
        have nx : ∀ (U8 H8 : Hp) (w8 w9 w10 w11 : Option V), Ch U6 H7 U8 H8 [lt] → Rp A.CReply K U8 H8 o lt le lw (rs.flatMap (regT before after) ++ (ow.take i).flatMap (sizeT before after) ++ sizeT before after p) [] ws →
            ∃ (U' : Hp) (v8 v9 v10 v11 : Option V), [some (.ref rg), some vb, some va, some (.ref o), some (.ref ga), some (.ref na), v6, v7, w8, w9, w10, w11] = [some (.ref rg), some vb, some va, some (.ref o), some (.ref ga), some (.ref na), v6, v7, v8, v9, v10, v11] ∧ Ch U5 HF U' H8 [lt] ∧ H8 d = some (.frz od (.dK (ownK ow))) ∧ Rp A.CReply K U' H8 o lt le lw (rs.flatMap (regT before after) ++ (ow.take (i + 1)).flatMap (sizeT before after)) [] ws := fun U8 H8 w8 w9 w10 w11 c8 R8 =>
          ⟨U8, _, _, _, _, rfl, c7.trans c8, (c8.kp d (by rw [List.mem_singleton]; exact ntd.symm) (by rw [e7]; exact fun z => by cases z)).trans e7, by rw [fl_take' (sizeT before after) ow i p hp, ← List.append_assoc]; exact R8⟩
        have nilx : sizeT before after p = [] → Rp A.CReply K U6 H7 o lt le lw (rs.flatMap (regT before after) ++ (ow.take i).flatMap (sizeT before after) ++ sizeT before after p) [] ws := fun h => by
          rw [h, List.append_nil]; exact R7
        walk_at "gf"
        refine ⟨vb, before, p.2, U6, rfl, OB6, c7.vh, fun h0 => ?_, fun z ob hob oz => ?_⟩
        · walk_at "gf"
          refine ⟨va, after, p.2, U6, rfl, OA6, c7.vh, fun h1 => ?_, fun z1 ob1 hob1 oz1 => ?_⟩
          · walk_at "gf"
            exact nx U6 H7 _ _ _ _ ((Pu.refl c7.vh).ch _) (nilx (by unfold sizeT; rw [h0]))
          · walk_at "gf"
            exact nx U6 H7 _ _ _ _ ((Pu.refl c7.vh).ch _) (nilx (by unfold sizeT; rw [h0]))
        · obtain ⟨zb, dxb, rfl, ezb⟩ := oz
          walk_at "gf"
          refine ⟨va, after, p.2, U6, rfl, OA6, c7.vh, fun h1 => ?_, fun z1 ob1 hob1 oz1 => ?_⟩
          · walk_at "gf"
            exact nx U6 H7 _ _ _ _ ((Pu.refl c7.vh).ch _) (nilx (by unfold sizeT; rw [hob, h1]))
          · have ok1 : OutOk ob1 := by
              obtain ⟨_, _, _, _, _, _, _, h⟩ := OA6
              exact h ob1 (oFindO_mem hob1)
            have oz1' := oz1
            obtain ⟨zb1, dxb1, rfl, ezb1⟩ := oz1
            walk_at "gf"
            refine ⟨.ref zb, ob, rfl, ⟨zb, dxb, rfl, c7.vh _ _ ezb⟩, fun q1 hq1 => ?_⟩
            have p8 := Pu.new (o := .lst [.int ob.w, .int ob.h, .int ob.s, .int ob.t]) c7.vh hq1
            walk_at "gf"
            refine ⟨.ref zb1, ob1, rfl, ⟨zb1, dxb1, rfl, p8.vh _ _ (p8.vv _ _ ezb1)⟩, fun q2 hq2 => ?_⟩
            have p9 := p8.trans (Pu.new (o := .lst [.int ob1.w, .int ob1.h, .int ob1.s, .int ob1.t]) p8.vh hq2)
            have eq1 : (upd (upd H7 q1 (.lst [.int ob.w, .int ob.h, .int ob.s, .int ob.t])) q2 (.lst [.int ob1.w, .int ob1.h, .int ob1.s, .int ob1.t])) q1 = some (.lst ((szRow ob).map V.int)) := (same_upd hq2) _ _ upd_same
            have eq2 : (upd (upd H7 q1 (.lst [.int ob.w, .int ob.h, .int ob.s, .int ob.t])) q2 (.lst [.int ob1.w, .int ob1.h, .int ob1.s, .int ob1.t])) q2 = some (.lst ((szRow ob1).map V.int)) := upd_same
            generalize upd (upd U6 q1 (.lst [.int ob.w, .int ob.h, .int ob.s, .int ob.t])) q2 (.lst [.int ob1.w, .int ob1.h, .int ob1.s, .int ob1.t]) = U9 at p9
            generalize upd (upd H7 q1 (.lst [.int ob.w, .int ob.h, .int ob.s, .int ob.t])) q2 (.lst [.int ob1.w, .int ob1.h, .int ob1.s, .int ob1.t]) = H9 at p9 eq1 eq2 ⊢
            refine t_ne (dp_ints (SqL.of eq1)) (dp_ints (SqL.of eq2)) (sh_ints _).shaped (sh_ints _).shaped ?_
            rw [eqv_pInts]
            have R9 : Rp A.CReply K U9 H9 o lt le lw (rs.flatMap (regT before after) ++ (ow.take i).flatMap (sizeT before after)) [] ws := R7.frame p9.vv (fun b hb hu _ => ⟨p9.out b hu hb, p9.kp b hb⟩)
            refine ⟨_, rfl, ?_⟩
            by_cases hsz : szRow ob = szRow ob1
            · refine if_f (by rw [decide_eq_true hsz]; rfl) ?_
              exact nx U9 H9 _ _ _ _ (p9.ch _) (by rw [show sizeT before after p = [] by unfold sizeT; rw [hob, hob1]; exact if_pos hsz, List.append_nil]; exact R9)
            · refine if_t (by rw [decide_eq_false hsz]; rfl) ?_
              walk_at "gf"
              refine ⟨.ref zb1, ob1, o, lt, le, lw, p.1, _, [], ws, U9, rfl, p9.vh, ev, hpn, ⟨zb1, dxb1, rfl, p9.vv _ _ ezb1⟩, ok1, R9, by omega, fun U' H' c R' => ?_⟩
              exact nx U' H' _ _ _ _ ((p9.ch _).trans c) (by rw [show sizeT before after p = [szO p.1 ob1] by unfold sizeT; rw [hob, hob1]; exact if_neg hsz]; exact R')
      · rintro σ H6 ⟨U6, v8, v9, v10, v11, rfl, c6, e6, R6⟩
        rw [show (ownK ow).length = ow.length from List.length_map .., List.take_length] at R6
        refine ⟨e6, ?_⟩
        have u6d : U6 d = none := c6.out d ud5 (by rw [eF]; exact fun z => by cases z)
        have s6 := c6.vh
        have c7 : Ch U H U6 (upd H6 d (.dK (ownK ow))) [lt] := by
          obtain ⟨a1, a2, a3, a4, a5⟩ := c5
          obtain ⟨b1, b2, b3, b4, b5⟩ := c6
          refine ⟨a1.trans b1, by walk_at "h", ?_, ?_, ?_⟩
          · intro b hb hn
            refine b3 b (a3 b hb hn) ?_
            by_cases hbd : b = d
            · rw [hbd, eF]; exact fun z => by cases z
            · rw [kF b hbd]; exact fun z => hn (a4 b z)
          · intro b hb
            by_cases hbd : b = d
            · rw [hbd, upd_same] at hb; cases hb
            · rw [upd_ne hbd] at hb
              have := b4 b hb
              rw [kF b hbd] at this
              exact a4 b this
          · intro b hb hn
            by_cases hbd : b = d
            · rw [hbd, upd_same, ← G5.dd]
              rw [hbd] at hb hn
              exact a5 d hb hn
            · have h5 := a5 b hb hn
              rw [upd_ne hbd, b5 b hb (by rw [kF b hbd, h5]; exact hn), kF b hbd, h5]
        have G7 : Rg A.CRegistries U6 (upd H6 d (.dK (ownK ow))) rg lr d (rs.map V.int) (ownK ow) m := by
          obtain ⟨e1, e2⟩ := G5.l
          have nld : lr ≠ d := ne_of e1 ed5 (by intro z; cases z)
          refine ⟨⟨dxg5, c6.vv _ _ eg5⟩, ⟨?_, e2⟩, upd_same, c6.out lr G5.ul (by rw [kF lr nld, e1]; exact fun z => by cases z), u6d, G5.len⟩
          rw [upd_ne nld, c6.kp lr (by rw [List.mem_singleton]; exact n1) (by rw [kF lr nld, e1]; exact fun z => by cases z), kF lr nld, e1]
        exact q.go U6 _ c7 G7 (R6.frame (Same.refl _) (fun b hb hu hx => ⟨hu, upd_ne (by rcases hx with rfl | rfl | rfl | rfl <;> assumption)⟩))
/-! ### forget -/
theorem dropK_own (n : Int) : ∀ ow : List (Int × Option Int), dropK (ownK ow) (.inl n) = ownK (ow.filter fun p => decide (p.1 ≠ n))
  | [] => rfl
  | p :: r => by
    have ih := dropK_own n r
    unfold dropK ownK at ih ⊢
    rw [List.map_cons, List.filter_cons, List.filter_cons, ih]
    by_cases h : p.1 = n
    · have h1 : decide ((Sum.inl p.1 : Key) ≠ Sum.inl n) = false := decide_eq_false (fun z => z (by rw [h]))
      have h2 : decide (p.1 ≠ n) = false := decide_eq_false (fun z => z h)
      rw [h2]; dsimp only; rw [h1]; rfl
    · have h1 : decide ((Sum.inl p.1 : Key) ≠ Sum.inl n) = true := decide_eq_true (fun z => h (by injection z))
      have h2 : decide (p.1 ≠ n) = true := decide_eq_true h
      rw [h2]; dsimp only; rw [h1]; rfl
theorem valV_own_none (n : Int) : ∀ ow : List (Int × Option Int), valV (ownK ow) (.inl n) = none → (ow.filter fun p => decide (p.1 ≠ n)) = ow
  | [], _ => rfl
  | p :: r, h => by
    unfold ownK at h
    rw [List.map_cons] at h
    by_cases hp : p.1 = n
    · rw [valV_pos (by rw [hp])] at h; cases h
    · rw [valV_neg (fun z => hp (by injection z))] at h
      rw [List.filter_cons_of_pos (by exact decide_eq_true hp), valV_own_none n r h]
def sp_Registries_forget (A : Adr) : Sp := fun vs H Q _ => ∃ (rg lr d : Addr) (n : Int) (rs : List Int) (ow : List (Int × Option Int)) (m : Nat) (U : Hp), vs = [.ref rg, .int n] ∧ Same U H ∧ Rg A.CRegistries U H rg lr d (rs.map V.int) (ownK ow) m ∧ rs.Nodup ∧
  ∀ H', Ch U H U H' [lr, d] → Rg A.CRegistries U H' rg lr d ((rs.filter fun r => decide (r ≠ n)).map V.int) (ownK (ow.filter fun p => decide (p.1 ≠ n))) m → Q .non H'
theorem sc_Registries_forget : FnScope ["self", "number"] ["self", "number"] (defScope s_Registries_forget) := ⟨rfl, rfl, rfl, by decide +kernel, rfl, by decide +kernel, by decide +kernel⟩
theorem ok_Registries_forget (T : Txt0 P K mg A) : FnOk P w K mg base CX0 1 A.fRegistries_forget A.dRegistries_forget ["self", "number"] (sp_Registries_forget A) := by
  refine T.FRegistries_forget.ok sc_Registries_forget (fun vs H Q E h => ?_) (fun cdv Ar outer st H vs Q E hr h => ?_)
  · obtain ⟨_, _, _, _, _, _, _, _, rfl, _⟩ := h
    rfl
  · obtain ⟨rg, lr, d, n, rs, ow, m, U, rfl, sU, G, hnd, q⟩ := h
    replace q := Hid.mk q
    obtain ⟨dxg, eg⟩ := G.ob
    have egH := sU _ _ eg
    obtain ⟨el, hlen⟩ := G.l
    have ed := G.dd
    have ul := G.ul
    have ud := G.ud
    have nld : lr ≠ d := ne_of el ed (by intro z; cases z)
    refine ⟨_, (C8.pss_cut (ps_if (pt_cmpR op_in_seq (pv 1) (pe_fldC T.clRegistries T.nRegistries__registries (pv 0) rfl) (by rfl))
      (pss_one (ps_expr (pe_bm PySem.F.plainAttrs_list PySem.F.slot_list_remove PySem.F.type_list_remove mt_remove (pe_fldC T.clRegistries T.nRegistries__registries (pv 0) rfl) (pa_cons (pv 1) pa_nil))))
      pss_nil)
      (pss_one (ps_if (pt_cmp (pc_din (hu_of hr) (pv 1) (pe_fldC T.clRegistries T.nRegistries__owners (pv 0) rfl)))
      (pss_one (ps_ddel (pe_fldC T.clRegistries T.nRegistries__owners (pv 0) rfl) (pv 1)))
      pss_nil))), ?_⟩
    refine ⟨fun σ H' => Stop (σ = [some (.ref rg), some (.int n)] ∧ Ch U H U H' [lr, d] ∧ H' lr = some (.lst ((rs.filter fun r => decide (r ≠ n)).map V.int)) ∧ H' d = some (.dK (ownK ow))), ?_, ?_⟩
    · walk_at "gf"
      refine ⟨?_, ?_⟩
      · rw [List.all_map]; exact List.all_eq_true.mpr fun _ _ => rfl
      rw [if_neg Bool.false_ne_true, inV_ints]
      by_cases hin : n ∈ rs
      · rw [decide_eq_true hin]
        refine ⟨_, rfl, if_t rfl ?_⟩
        walk_at "gf"
        obtain ⟨j, h1, h2, h3, h4⟩ := first_at hin
        refine ⟨lr, rs, n, j, rfl, rfl, el, h2, h3, ?_⟩
        have ee : rs.eraseIdx j = rs.filter fun r => decide (r ≠ n) := by
          rw [h4, hnd.erase_eq_filter]
          congr 1
          funext p
          by_cases c : p = n
          · subst c; simp
          · simp [c]
        rw [ee]
        exact stop ⟨rfl, Ch.poke sU ul _ (by simp), upd_same, by rw [upd_ne nld.symm]; exact ed⟩
      · rw [decide_eq_false hin]
        refine ⟨_, rfl, if_f rfl ?_⟩
        have ee : (rs.filter fun r => decide (r ≠ n)) = rs := List.filter_eq_self.mpr fun x hx => decide_eq_true (fun z => hin (by rw [← z]; exact hx))
        refine stop ⟨rfl, (Pu.refl sU).ch _, ?_, ed⟩
        rw [ee]; exact el
    rintro σ H1 ⟨⟨rfl, c1, el1, ed1⟩, -⟩
    have eg1 := c1.vh _ _ eg
    have hfl : (rs.filter fun r => decide (r ≠ n)).length ≤ rs.length := List.length_filter_le _ _
    rw [List.length_map] at hlen
    walk_at "gf"
    refine ⟨d, _, rfl, DGet.k (k := .inl n) ed1, ?_⟩
    cases hv : valV (ownK ow) (.inl n) with
    | none =>
      refine ⟨_, rfl, if_f rfl ?_⟩
      refine q.go H1 c1 ⟨⟨dxg, eg⟩, ⟨el1, by rw [List.length_map]; omega⟩, ?_, ul, ud, ?_⟩
      · rw [valV_own_none n ow hv]; exact ed1
      · rw [valV_own_none n ow hv]; exact G.len
    | some v =>
      refine ⟨_, rfl, if_t rfl ?_⟩
      walk_at "gf"
      refine ⟨d, ownK ow, .inl n, rfl, ed1, rfl, by rw [hv]; rfl, ?_⟩
      rw [dropK_own]
      refine q.go _ (c1.trans (Ch.poke c1.vh ud _ (by simp))) ⟨⟨dxg, eg⟩, ⟨by rw [upd_ne nld]; exact el1, by rw [List.length_map]; omega⟩, upd_same, ul, ud, ?_⟩
      have h1 := G.len
      unfold ownK at h1 ⊢
      rw [List.length_map] at h1 ⊢
      have := List.length_filter_le (fun p : Int × Option Int => decide (p.1 ≠ n)) ow
      omega
/-! ### the law's own list of what is due -/
structure Du (K : PySem.W.Frag) (U H : Hp) (pd : Addr) (ts : List (List Int)) : Prop where
  u : U pd = none
  e : ∃ ys, H pd = some (.lst ys) ∧ DpAll K U ys (ts.map pInts)
theorem Du.pu {K : PySem.W.Frag} {U H U' H' : Hp} {pd : Addr} {ts : List (List Int)} (h : Du K U H pd ts) (p : Pu U H U' H') : Du K U' H' pd ts := by
  obtain ⟨ys, e, d⟩ := h.e
  have hn : H pd ≠ none := by rw [e]; exact fun z => by cases z
  exact ⟨p.out _ h.u hn, ys, (p.kp _ hn).trans e, d.to p.vv⟩
theorem Du.push {K : PySem.W.Frag} {U H H' : Hp} {pd p : Addr} {ts : List (List Int)} {os : List Int} (h : Du K U H pd ts) (s : Same U H) (n : NewL H H' p (os.map V.int)) :
    ∃ ys, H' pd = some (.lst ys) ∧ ys.length = ts.length ∧ ∃ U', Ch U H U' (upd H' pd (.lst (ys ++ [.ref p]))) [pd] ∧ Du K U' (upd H' pd (.lst (ys ++ [.ref p]))) pd (ts ++ [os]) := by
  obtain ⟨ys, e, d⟩ := h.e
  have nn_ := n.new
  have ns := n.same
  have na := n.at_
  have hu := h.u
  have hl := dpall_len d
  rw [List.length_map] at hl
  have e' := ns _ _ e
  have npd : p ≠ pd := fun z => by rw [z, e] at nn_; cases nn_
  have sv : Same U (upd U p (.lst (os.map V.int))) := by walk_at "h"
  refine ⟨ys, e', hl, upd U p (.lst (os.map V.int)), ⟨sv, by walk_at "h", by walk_at "h", by walk_at "h", ?_⟩, ⟨by rw [upd_ne npd.symm]; exact hu, _, upd_same, ?_⟩⟩
  · intro b hb hn
    have : b ≠ pd := by simpa using hb
    rw [upd_ne this]
    walk_at "h"
  · rw [List.map_append]
    exact dpall_app (d.to sv) (.cons (dp_ints (SqL.of upd_same)) .nil)
def sp__law_numbers (C : Addr) (K : PySem.W.Frag) : Sp := fun vs H Q _ => ∃ (v : V) (os : List Out) (U : Hp), vs = [v] ∧ OutsAt C K U v os ∧ Same U H ∧ ∀ p H', Pu U H U H' → H' p = some (.lst ((os.map fun o => o.n).map V.int)) → Q (.ref p) H'
theorem sc__law_numbers : FnScope ["outputs", "output"] ["outputs"] (defScope s__law_numbers) := ⟨rfl, rfl, rfl, by decide +kernel, rfl, by decide +kernel, by decide +kernel⟩
theorem ok__law_numbers (T : Txt0 P K mg A) : FnOk P w K mg base CX0 1 A.f_law_numbers A.d_law_numbers ["outputs"] (sp__law_numbers A.COutput K) := by
  refine T.F_law_numbers.ok sc__law_numbers (fun vs H Q E h => ?_) (fun cdv Ar outer st H vs Q E hr h => ?_)
  · obtain ⟨_, _, _, rfl, _⟩ := h
    rfl
  · obtain ⟨v, os, U, rfl, O, sU, q⟩ := h
    replace q := Hid.mk q
    obtain ⟨a, zs, rfl, hq, hl, hm, hz, hok⟩ := O
    refine ⟨_, (pss_one (ps_ret (pe_lc (own := [("output", 1)]) (g := (gName 1)) (te := (tFld K (tVar 1) "number")) (tt := tYes) rfl sc__law_numbers.nd (pi_list (pv 0)) (blkOk_by (own := [("output", 1)]) (N := ["outputs", "output"]) (sc := defScope s__law_numbers) (by decide +kernel)) (fun _ _ _ _ _ => (pg_name (i := 1) sc__law_numbers.nd rfl (Or.inl rfl))) (fun _ _ _ _ _ => pts_nil) (fun _ _ _ _ _ => by exact (pe_fld (pv 1) rfl))))), ?_⟩
    refine ⟨_, rfl, a, rfl, ⟨_, sU.seq hq⟩, fun D hD => ?_⟩
    refine lc_dp (walk_list (K := K) (a := a) (xs := zs)) (K := K) (V0 := U) (H0 := H) (fun i => (os[i]?).map fun o => PyData.int o.n) _ rfl sU hD (by omega) (fun H' s => s.seq (sU.seq hq)) (fun i x H H' y => y.1) ?_ ?_
    · rintro k z U2 H4 hk xx ⟨_, hz'⟩ Qy Qn hy hno
      obtain ⟨o, ho, b, dx, rfl, eb⟩ := hz k z hz'
      have eb4 := xx.vh _ _ (xx.vv _ _ eb)
      walk_at "gf"
      refine ⟨b, A.COutput, dx, _, _, rfl, eb4, T.clOutput, T.nOutput_number, by walk_at "lk", ?_⟩
      exact hy _ _ _ _ (by rw [ho]; rfl) (Ext.refl xx.vh) (.int _)
    · rintro U2 H4 ws xx uD dA dl
      have e : fm (fun i => (os[i]?).map fun o => PyData.int o.n) zs.length = (os.map fun o => o.n).map PyData.int := by
        rw [hl, fm_map, List.map_map]; rfl
      rw [e] at dA
      obtain rfl := dp_intsV dA
      have hh := xx.hh
      have sH : Same U H4 := by walk_at "h"
      exact q.go D H4 ⟨Same.refl U, sH, fun _ h _ => h, by walk_at "h", by walk_at "h"⟩ (xx.vh _ _ uD)
def sp__law_by (C : Addr) (K : PySem.W.Frag) : Sp := fun vs H Q _ => ∃ (v : V) (os : List Out) (n : Int) (U : Hp), vs = [v, .int n] ∧ OutsAt C K U v os ∧ Same U H ∧ ∀ z U' H', Pu U H U' H' → OutsAt C K U' z (os.filter fun o => decide (o.n = n)) → Q z H'
theorem sc__law_by : FnScope ["outputs", "number", "output"] ["outputs", "number"] (defScope s__law_by) := ⟨rfl, rfl, rfl, by decide +kernel, rfl, by decide +kernel, by decide +kernel⟩
theorem ok__law_by (T : Txt0 P K mg A) : FnOk P w K mg base CX0 2 A.f_law_by A.d_law_by ["outputs", "number"] (sp__law_by A.COutput K) := by
  refine T.F_law_by.ok sc__law_by (fun vs H Q E h => ?_) (fun cdv Ar outer st H vs Q E hr h => ?_)
  · obtain ⟨_, _, _, _, rfl, _⟩ := h
    rfl
  · obtain ⟨v, os, n, U, rfl, O, sU, q⟩ := h
    replace q := Hid.mk q
    obtain ⟨a, zs, rfl, hq, hl, hm, hz, hok⟩ := O
    refine ⟨_, (pss_one (ps_ret (pe_lc (own := [("output", 2)]) (g := (gName 2)) (tt := tTest (tOp rEq (tFld K (tVar 2) "number") (tVar 1))) rfl sc__law_by.nd (pi_list (pv 0)) (blkOk_by (own := [("output", 2)]) (N := ["outputs", "number", "output"]) (sc := defScope s__law_by) (by decide +kernel)) (fun _ _ _ _ _ => (pg_name (i := 2) sc__law_by.nd rfl (Or.inl rfl))) (fun _ _ _ _ _ => by exact (pts_one (pt_cmpR op_eq (pe_fld (pv 2) rfl) (pv 1) (nomark _)))) (fun _ _ _ _ _ => by exact (pv 2))))), ?_⟩
    refine ⟨_, rfl, a, rfl, ⟨_, sU.seq hq⟩, fun D hD => ?_⟩
    refine keep_lc (C := A.COutput) (K := K) (fun o => decide (o.n = n)) _ rfl sU hD hl (by omega) hq hz ?_ ?_
    · intro i z o U2 H2 hzi hoi oz v2 s2 Qy Qn hy hno
      obtain ⟨b, dx, rfl, eb⟩ := oz
      have ebH := s2 _ _ eb
      walk_at "gf"
      refine ⟨b, A.COutput, dx, _, _, rfl, ebH, T.clOutput, T.nOutput_number, by walk_at "lk", ?_⟩
      walk_at "gf"
      refine iteEq (fun c => ?_) (fun c => ?_)
      · exact ⟨_, rfl, hy U2 _ (Pu.refl s2) (decide_eq_true c)⟩
      · exact hno U2 _ (Pu.refl s2) (decide_eq_false c)
    · intro U2 H2 ws pu eD hwl hw
      exact q.go (.ref D) U2 H2 pu ⟨D, ws, rfl, SqL.of eD, hwl, Nat.le_trans (List.length_filter_le _ _) hm, hw, fun o ho => hok o (List.mem_filter.mp ho).1⟩
/-! ### _law_due -/
theorem oFind_iff (os : List Out) (n : Int) : (oFind os n).isNone = decide (n ∉ os.map fun o => o.n) := by
  induction os with
  | nil => rfl
  | cons o r ih =>
    unfold oFind at ih ⊢
    rw [List.find?_cons]
    by_cases h : o.n = n
    · rw [decide_eq_true h]
      have : ¬ (n ∉ (o :: r).map fun o => o.n) := fun z => z (by rw [List.map_cons, h]; exact List.mem_cons_self)
      rw [decide_eq_false this]; rfl
    · rw [decide_eq_false h]
      show (r.find? _).isNone = _
      rw [ih]
      apply decide_eq_decide.mpr
      rw [List.map_cons, List.mem_cons, not_or]
      exact ⟨fun z => ⟨fun q => h q.symm, z⟩, fun z => z.2⟩
theorem head_oFind (os : List Out) (n : Int) : (os.filter fun o => decide (o.n = n)).head? = oFind os n := List.head?_filter
def dueD (before after : List Out) (rs : List Int) (sh : List (Int × Int)) : List (List Int) := rs.flatMap (regT before after) ++ sh.flatMap fun s => sizeT before after (s.1, some s.2)
def shD (s : Int × Int) : PyData := .tuple [.int s.1, .int s.2]
theorem filter_take {α : Type} (p : α → Bool) (xs : List α) (j : Nat) (x : α) (h : xs[j]? = some x) : (xs.take (j + 1)).filter p = (xs.take j).filter p ++ (if p x then [x] else []) := by
  obtain ⟨h1, h2⟩ := List.getElem?_eq_some_iff.mp h
  rw [List.take_succ_eq_append_getElem h1, List.filter_append, h2]
  congr 1
  by_cases c : p x
  · rw [if_pos c, List.filter_cons_of_pos c]; rfl
  · rw [if_neg c, List.filter_cons_of_neg c]; rfl
def sp__law_due (CE : Addr) (w : World) (A : Adr) (K : PySem.W.Frag) : Sp := fun vs H Q _ => ∃ (vb va : V) (pr ps : Addr) (before after : List Out) (rs : List Int) (zs : List V) (sh : List (Int × Int)) (U : Hp), vs = [vb, va, .ref pr, .ref ps] ∧ Same U H ∧ Evs CE w K ∧ OutsAt A.COutput K U vb before ∧ OutsAt A.COutput K U va after ∧ SqL K H pr (rs.map V.int) ∧ SqL K H ps zs ∧ DpAll K U zs (sh.map shD) ∧ rs.length ≤ 10 ∧ sh.length ≤ 10 ∧ (∀ r ∈ rs, num r) ∧ (∀ p ∈ sh, num p.1) ∧
  ∀ p ys U' H', Pu U H U' H' → U' p = some (.lst ys) → DpAll K U' ys ((dueD before after rs sh).map pInts) → Q (.ref p) H'
theorem sc__law_due : FnScope ["before", "after", "registries", "shown", "due", "registry", "output", "made", "number", "old", "new"] ["before", "after", "registries", "shown"] (defScope s__law_due) := ⟨rfl, rfl, rfl, by decide +kernel, rfl, by decide +kernel, by decide +kernel⟩
theorem ok__law_due (T : Txt0 P K mg A) : FnOk P w K mg base CX0 9 A.f_law_due A.d_law_due ["before", "after", "registries", "shown"] (sp__law_due A.a_EVENTS w A K) := by
  refine T.F_law_due.ok sc__law_due (fun vs H Q E h => ?_) (fun cdv Ar outer st H vs Q E hr h => ?_)
  · obtain ⟨_, _, _, _, _, _, _, _, _, _, rfl, _⟩ := h
    rfl
  · obtain ⟨vb, va, pr, ps, before, after, rs, zs, sh, U, rfl, sU, ev, OB, OA, hpr, hps, dsh, hrs, hsh, hnr, hns, q⟩ := h
    replace q := Hid.mk q
    have hbl : before.length ≤ 20 := by obtain ⟨_, _, _, _, _, h, _⟩ := OB; exact h
    have hal : after.length ≤ 20 := by obtain ⟨_, _, _, _, _, h, _⟩ := OA; exact h
    have hFl := fl_bound (regT before after) 40 (regT_len hbl hal) rs
    have hzl := dpall_len dsh
    rw [List.length_map] at hzl
    obtain ⟨ab, zb, rfl, qb, lb, mb, wb, okb⟩ := id OB
    obtain ⟨aa, za, rfl, qa, la, ma, wa, oka⟩ := id OA
    refine ⟨_, (pss_cons (ps_set (i := 4) sc__law_due.nd rfl (Or.inl rfl) (pe_lst pa_nil))
      (pss_cons (ps_for PassesOwn.never rfl (pi_list (pv 2)) (pg_name (i := 5) sc__law_due.nd rfl (Or.inl rfl))
      (pss_cons (ps_for PassesOwn.never rfl (pi_list (pv 0)) (pg_name (i := 6) sc__law_due.nd rfl (Or.inl rfl))
      (pss_one (ps_if (pt_cmpR op_notIn_seq (pe_fldC T.clOutput T.nOutput_number (pv 6) rfl) (pe_call (ok__law_numbers T) (hr.mono (by decide)) rfl T.g_law_numbers T.k_law_numbers T.b_law_numbers .nil pass0 (pa_cons (pv 1) pa_nil)) (by rfl))
      (pss_one (ps_expr (pe_bm PySem.F.plainAttrs_list PySem.F.slot_list_append PySem.F.type_list_append mt_append (pv 4) (pa_cons (pe_call (ok_event_octets T) (hr.mono (by decide)) rfl T.gevent_octets T.kevent_octets T.bevent_octets .nil passL (pa_cons (pv 5) (pa_cons pe_str (pa_cons pe_str (pa_cons (pe_lst (pa_cons (pe_op op_add (pe_fldC T.clOutput T.nOutput_number (pv 6) rfl) pe_int) pa_nil)) pa_nil))))) pa_nil))))
      pss_nil)))
      (pss_one (ps_for PassesOwn.never rfl (pi_list (pv 1)) (pg_name (i := 6) sc__law_due.nd rfl (Or.inl rfl))
      (pss_one (ps_if (pt_cmpR op_notIn_seq (pe_fldC T.clOutput T.nOutput_number (pv 6) rfl) (pe_call (ok__law_numbers T) (hr.mono (by decide)) rfl T.g_law_numbers T.k_law_numbers T.b_law_numbers .nil pass0 (pa_cons (pv 0) pa_nil)) (by rfl))
      (pss_one (ps_expr (pe_bm PySem.F.plainAttrs_list PySem.F.slot_list_append PySem.F.type_list_append mt_append (pv 4) (pa_cons (pe_call (ok_event_octets T) (hr.mono (by decide)) rfl T.gevent_octets T.kevent_octets T.bevent_octets .nil passL (pa_cons (pv 5) (pa_cons pe_str (pa_cons pe_str (pa_cons (pe_lst (pa_cons (pe_op op_add (pe_fldC T.clOutput T.nOutput_number (pv 6) rfl) pe_int) (pa_cons pe_str pa_nil))) pa_nil))))) pa_nil))))
      pss_nil))))))
      (pss_cons (ps_for PassesOwn.never rfl (pi_list (pv 3)) (pg_tup rfl (pgs_cons (pg_name (i := 7) sc__law_due.nd rfl (Or.inl rfl)) (pgs_cons (pg_name (i := 8) sc__law_due.nd rfl (Or.inl rfl)) pgs_nil)))
      (pss_cons (ps_set (i := 9) sc__law_due.nd rfl (Or.inl rfl) (pe_call (ok__law_by T) (hr.mono (by decide)) rfl T.g_law_by T.k_law_by T.b_law_by .nil pass0 (pa_cons (pv 0) (pa_cons (pv 8) pa_nil))))
      (pss_cons (ps_set (i := 10) sc__law_due.nd rfl (Or.inl rfl) (pe_call (ok__law_by T) (hr.mono (by decide)) rfl T.g_law_by T.k_law_by T.b_law_by .nil pass0 (pa_cons (pv 1) (pa_cons (pv 8) pa_nil))))
      (pss_one (ps_if (PW.pt (pw_and (pt_cmpR (op_neNil hr.units) (pv 9) (pe_lst pa_nil) (nomark _)) (pw_and (pt_cmpR (op_neNil hr.units) (pv 10) (pe_lst pa_nil) (nomark _)) (pw_and1 (pt_cmpR (op_neD hr.units) (pe_call (ok__law_size T) (hr.mono (by decide)) rfl T.g_law_size T.k_law_size T.b_law_size .nil pass0 (pa_cons (pe_ix (r := rIxL K) ix_list (pv 9) pe_int (fun _ _ => rfl)) pa_nil)) (pe_call (ok__law_size T) (hr.mono (by decide)) rfl T.g_law_size T.k_law_size T.b_law_size .nil pass0 (pa_cons (pe_ix (r := rIxL K) ix_list (pv 10) pe_int (fun _ _ => rfl)) pa_nil)) (nomark _))))))
      (pss_one (ps_expr (pe_bm PySem.F.plainAttrs_list PySem.F.slot_list_append PySem.F.type_list_append mt_append (pv 4) (pa_cons (pe_call (ok_event_octets T) (hr.mono (by decide)) rfl T.gevent_octets T.kevent_octets T.bevent_octets .nil passL (pa_cons (pv 7) (pa_cons pe_str (pa_cons pe_str (pa_cons (pe_call (ok__law_size T) (hr.mono (by decide)) rfl T.g_law_size T.k_law_size T.b_law_size .nil pass0 (pa_cons (pe_ix (r := rIxL K) ix_list (pv 10) pe_int (fun _ _ => rfl)) pa_nil)) pa_nil))))) pa_nil))))
      pss_nil)))))
      (pss_one (ps_ret (pv 4)))))), ?_⟩
    walk_at "gf"
    rename_i pd hpd
    have p0 := Pu.skip (o := .lst []) sU hpd
    have D0 : Du K U (upd H pd (.lst [])) pd [] := ⟨sU.free hpd, [], upd_same, .nil⟩
    have C0 : Ch U (upd H pd (.lst [])) U (upd H pd (.lst [])) [pd] := (Pu.refl p0.vh).ch _
    have hpr1 := (same_upd (o := .lst []) hpd).seq hpr
    have hps1 := (same_upd (o := .lst []) hpd).seq hps
    have kpr : ∀ {H' : Hp} {U' : Hp}, Ch U (upd H pd (.lst [])) U' H' [pd] → Same H H' := fun {H'} {U'} c => by
      obtain ⟨_, _, _, _, e⟩ := c
      intro b u hb
      have hbp : b ≠ pd := fun z => by rw [z, hpd] at hb; cases hb
      rw [e b (by simpa using hbp) (by rw [upd_ne hbp, hb]; exact fun z => by cases z), upd_ne hbp, hb]
    walk_at "gf"
    refine ⟨⟨_, hpr1⟩, for_list (K := K) (a := pr) (xs := rs.map V.int) (fun i σ H' => ∃ (U' : Hp) (v5 v6 : Option V), σ = [some (.ref ab), some (.ref aa), some (.ref pr), some (.ref ps), some (.ref pd), v5, v6, none, none, none, none] ∧ Ch U (upd H pd (.lst [])) U' H' [pd] ∧ Du K U' H' pd ((rs.take i).flatMap (regT before after)))
      ⟨U, _, _, rfl, C0, D0⟩ (fun i σ H' _ ⟨U', _, _, _, a1, _⟩ => (kpr a1).seq hpr) ?_ ?_⟩
    · rintro i z σ H5 hi ⟨U5, v5, v6, rfl, c5, D5⟩
      rw [List.getElem?_map] at hi
      obtain ⟨r, hri, rfl⟩ := Option.map_eq_some_iff.mp hi
      have hnum := hnr r (List.mem_of_getElem? hri)
      have hts : ((rs.take i).flatMap (regT before after)).length ≤ 400 := by
        have := fl_le' (regT before after) rs i
        have : 40 * rs.length ≤ 40 * 10 := Nat.mul_le_mul_left _ hrs
        omega
      walk_at "gf"
      refine ⟨⟨_, c5.vh.seq (c5.vv.seq qb)⟩, for_list (K := K) (a := ab) (xs := zb) (fun j σ H' => ∃ (U' : Hp) (v6 : Option V), σ = [some (.ref ab), some (.ref aa), some (.ref pr), some (.ref ps), some (.ref pd), some (.int r), v6, none, none, none, none] ∧ Ch U (upd H pd (.lst [])) U' H' [pd] ∧ Du K U' H' pd ((rs.take i).flatMap (regT before after) ++ (((before.take j).filter fun o => (oFind after o.n).isNone).map fun o => goO r (16 + o.n))))
        ⟨U5, _, rfl, c5, by rw [List.take_zero, List.filter_nil, List.map_nil, List.append_nil]; exact D5⟩ (fun j σ H' _ ⟨U', _, _, a1, _⟩ => a1.vh.seq (a1.vv.seq qb)) ?_ ?_⟩
      · rintro j z σ H6 hj ⟨U6, v6, rfl, c6, D6⟩
        obtain ⟨ob, hob, b, dx, rfl, eb⟩ := wb j z hj
        have okob := okb ob (List.mem_of_getElem? hob)
        unfold OutOk at okob
        have eb6 := c6.vh _ _ (c6.vv _ _ eb)
        walk_at "gf"
        refine ⟨.ref aa, after, U6, rfl, OA.to c6.vv, c6.vh, fun pn H7 p7 e7 => ?_⟩
        refine ⟨pn, _, rfl, .inl (SqL.of e7), rfl, ?_, ?_⟩
        · rw [List.all_map]; exact List.all_eq_true.mpr fun _ _ => rfl
        rw [if_pos rfl, inV_ints]
        have D7 := D6.pu p7
        have c7 := c6.trans (p7.ch [pd])
        have hfl : ((before.take j).filter fun o => (oFind after o.n).isNone).length ≤ 20 := by
          have := List.length_filter_le (fun o => (oFind after o.n).isNone) (before.take j)
          rw [List.length_take] at this; omega
        rw [filter_take (fun o => (oFind after o.n).isNone) before j ob hob]
        refine ⟨_, rfl, ?_⟩
        by_cases hin : ob.n ∈ after.map fun o => o.n
        · refine if_f (by rw [decide_eq_true hin]; rfl) ?_
          have hno : (oFind after ob.n).isNone = false := by rw [oFind_iff]; exact decide_eq_false (fun z => z hin)
          refine ⟨U6, _, rfl, c7, ?_⟩
          rw [hno]; simp only [Bool.false_eq_true, if_false, List.append_nil]; exact D7
        · refine if_t (by rw [decide_eq_false hin]; rfl) ?_
          have hno : (oFind after ob.n).isNone = true := by rw [oFind_iff]; exact decide_eq_true hin
          obtain ⟨ys7, ey7, _⟩ := D7.e
          have eb7 := (p7.kp b (by rw [eb6]; exact fun z => by cases z)).trans eb6
          walk_at "gf"
          rename_i va' hva
          walk_at "nl"
          have p8 := Pu.skip (o := .lst [.int (ob.n + 16)]) p7.vh hva
          have D8 := D7.pu p8
          refine (ev.goE hnum (by unfold u32; omega) upd_same).go fun pp H9 n9 => ?_
          obtain ⟨ys, ey, hyl, U9, c9, D9⟩ := D8.push p8.vh n9
          refine ⟨pd, _, _, rfl, rfl, ey, Nat.lt_of_lt_of_le (m := 100000) (by rw [hyl, List.length_append, List.length_map]; omega) (by decide), ?_⟩
          refine ⟨U9, _, rfl, (c7.trans (p8.ch _)).trans c9, ?_⟩
          rw [hno]; simp only [if_true, List.map_append, List.map_cons, List.map_nil]
          rw [← List.append_assoc, Int.add_comm 16 ob.n]; exact D9
      · rintro σ H6 ⟨U6, v6, rfl, c6, D6⟩
        rw [lb, List.take_length] at D6
        have hml : (miss after before).length ≤ 20 := Nat.le_trans (List.length_filter_le _ _) hbl
        walk_at "gf"
        refine ⟨⟨_, c6.vh.seq (c6.vv.seq qa)⟩, for_list (K := K) (a := aa) (xs := za) (fun j σ H' => ∃ (U' : Hp) (v6 : Option V), σ = [some (.ref ab), some (.ref aa), some (.ref pr), some (.ref ps), some (.ref pd), some (.int r), v6, none, none, none, none] ∧ Ch U (upd H pd (.lst [])) U' H' [pd] ∧ Du K U' H' pd ((rs.take i).flatMap (regT before after) ++ ((miss after before).map fun o => goO r (16 + o.n)) ++ (((after.take j).filter fun o => (oFind before o.n).isNone).map fun o => thO r (16 + o.n, "output"))))
          ⟨U6, _, rfl, c6, by rw [List.take_zero, List.filter_nil, List.map_nil, List.append_nil]; exact D6⟩ (fun j σ H' _ ⟨U', _, _, a1, _⟩ => a1.vh.seq (a1.vv.seq qa)) ?_ ?_⟩
        · rintro j z σ H7 hj ⟨U7, v6, rfl, c7, D7⟩
          obtain ⟨ob, hob, b, dx, rfl, eb⟩ := wa j z hj
          have okob := oka ob (List.mem_of_getElem? hob)
          unfold OutOk at okob
          have eb7 := c7.vh _ _ (c7.vv _ _ eb)
          walk_at "gf"
          refine ⟨.ref ab, before, U7, rfl, OB.to c7.vv, c7.vh, fun pn H8 p8 e8 => ?_⟩
          refine ⟨pn, _, rfl, .inl (SqL.of e8), rfl, ?_, ?_⟩
          · rw [List.all_map]; exact List.all_eq_true.mpr fun _ _ => rfl
          rw [if_pos rfl, inV_ints]
          have D8 := D7.pu p8
          have c8 := c7.trans (p8.ch [pd])
          have hfl : ((after.take j).filter fun o => (oFind before o.n).isNone).length ≤ 20 := by
            have := List.length_filter_le (fun o => (oFind before o.n).isNone) (after.take j)
            rw [List.length_take] at this; omega
          rw [filter_take (fun o => (oFind before o.n).isNone) after j ob hob]
          refine ⟨_, rfl, ?_⟩
          by_cases hin : ob.n ∈ before.map fun o => o.n
          · refine if_f (by rw [decide_eq_true hin]; rfl) ?_
            have hno : (oFind before ob.n).isNone = false := by rw [oFind_iff]; exact decide_eq_false (fun z => z hin)
            refine ⟨U7, _, rfl, c8, ?_⟩
            rw [hno]; simp only [Bool.false_eq_true, if_false, List.append_nil]; exact D8
          · refine if_t (by rw [decide_eq_false hin]; rfl) ?_
            have hno : (oFind before ob.n).isNone = true := by rw [oFind_iff]; exact decide_eq_true hin
            obtain ⟨ys7, ey7, _⟩ := D8.e
            have eb8 := (p8.kp b (by rw [eb7]; exact fun z => by cases z)).trans eb7
            walk_at "gf"
            rename_i va' hva
            walk_at "nl"
            have p9 := Pu.skip (o := .lst [.int (ob.n + 16), .str "output"]) p8.vh hva
            have D9 := D8.pu p9
            refine (ev.thE (r := (ob.n + 16, "output")) hnum ⟨by unfold u32; dsimp only; omega, (by decide +kernel : isText ("output" : Str) = true), (by decide +kernel : ("output" : Str).length ≤ 50)⟩ upd_same).go fun pp H10 n10 => ?_
            obtain ⟨ys, ey, hyl, U10, c10, D10⟩ := D9.push p9.vh n10
            refine ⟨pd, _, _, rfl, rfl, ey, Nat.lt_of_lt_of_le (m := 100000) (by rw [hyl, List.length_append, List.length_append, List.length_map, List.length_map]; omega) (by decide), ?_⟩
            refine ⟨U10, _, rfl, (c8.trans (p9.ch _)).trans c10, ?_⟩
            rw [hno]; simp only [if_true, List.map_append, List.map_cons, List.map_nil]
            rw [← List.append_assoc, Int.add_comm 16 ob.n]; exact D10
        · rintro σ H7 ⟨U7, v6, rfl, c7, D7⟩
          rw [la, List.take_length, List.append_assoc] at D7
          refine ⟨U7, _, _, rfl, c7, ?_⟩
          rw [fl_take' (regT before after) rs i r hri]
          exact D7
    · rintro σ H5 ⟨U5, v5, v6, rfl, c5, D5⟩
      rw [List.length_map, List.take_length] at D5
      walk_at "gf"
      refine ⟨⟨_, (kpr c5).seq hps⟩, for_list (K := K) (a := ps) (xs := zs) (fun i σ H' => ∃ (U' : Hp) (v7 v8 v9 v10 : Option V), σ = [some (.ref ab), some (.ref aa), some (.ref pr), some (.ref ps), some (.ref pd), v5, v6, v7, v8, v9, v10] ∧ Ch U (upd H pd (.lst [])) U' H' [pd] ∧ Du K U' H' pd (rs.flatMap (regT before after) ++ (sh.take i).flatMap fun s => sizeT before after (s.1, some s.2)))
        ⟨U5, _, _, _, _, rfl, c5, by rw [List.take_zero, List.flatMap_nil, List.append_nil]; exact D5⟩ (fun i σ H' _ ⟨U', _, _, _, _, _, a1, _⟩ => (kpr a1).seq hps) ?_ ?_⟩
      · rintro i z σ H6 hi ⟨U6, v7, v8, v9, v10, rfl, c6, D6⟩
        obtain ⟨dd, hd, dv⟩ := dpall_get dsh hi
        rw [List.getElem?_map] at hd
        obtain ⟨s, hs, rfl⟩ := Option.map_eq_some_iff.mp hd
        obtain ⟨t, xs, rfl, qt, dw⟩ := dp_tuple dv
        have hnum := hns s (List.mem_of_getElem? hs)
        have hts : (rs.flatMap (regT before after) ++ (sh.take i).flatMap fun s => sizeT before after (s.1, some s.2)).length ≤ 500 := by
          rw [List.length_append]
          have h1 := fl_le' (fun s : Int × Int => sizeT before after (s.1, some s.2)) sh i
          have h2 := fl_bound (fun s : Int × Int => sizeT before after (s.1, some s.2)) 1 (fun s => sizeT_len before after _) sh
          have : 40 * rs.length ≤ 40 * 10 := Nat.mul_le_mul_left _ hrs
          omega
        have nx : ∀ (U8 H8 : Hp) (w7 w8 w9 w10 : Option V), Ch U (upd H pd (.lst [])) U8 H8 [pd] → Du K U8 H8 pd (rs.flatMap (regT before after) ++ ((sh.take i).flatMap fun s => sizeT before after (s.1, some s.2)) ++ sizeT before after (s.1, some s.2)) →
            ∃ (U' : Hp) (v7 v8 v9 v10 : Option V), [some (.ref ab), some (.ref aa), some (.ref pr), some (.ref ps), some (.ref pd), v5, v6, w7, w8, w9, w10] = [some (.ref ab), some (.ref aa), some (.ref pr), some (.ref ps), some (.ref pd), v5, v6, v7, v8, v9, v10] ∧ Ch U (upd H pd (.lst [])) U' H8 [pd] ∧ Du K U' H8 pd (rs.flatMap (regT before after) ++ (sh.take (i + 1)).flatMap fun s => sizeT before after (s.1, some s.2)) := fun U8 H8 w7 w8 w9 w10 c8 D8 =>
          ⟨U8, _, _, _, _, rfl, c8, by rw [fl_take' (fun s : Int × Int => sizeT before after (s.1, some s.2)) sh i s hs, ← List.append_assoc]; exact D8⟩
        cases dw with
        | cons d1 d2 => cases d2 with
          | cons d2 d3 =>
            cases d3
            obtain rfl := dp_int d1
            obtain rfl := dp_int d2
            have qt6 := c6.vh.sqt (c6.vv.sqt qt)
            walk_at "gf"
            refine ⟨.ref ab, before, s.2, U6, rfl, OB.to c6.vv, c6.vh, fun vo U7 H7 p7 O7 => ?_⟩
            walk_at "gf"
            refine ⟨.ref aa, after, s.2, U7, rfl, OA.to (c6.vv.trans p7.vv), p7.vh, fun vn U8 H8 p8 N8 => ?_⟩
            have P8 := p7.trans p8
            have c8 := c6.trans (P8.ch [pd])
            have D8 := D6.pu P8
            have O8 := O7.to p8.vv
            clear D6 c6 p7 p8 P8 O7
            obtain ⟨ao, zo, rfl, qo, lo, mo, wo, oko⟩ := O8
            obtain ⟨an, zn, rfl, qn, ln, mn, wn, okn⟩ := N8
            have ho := head_oFind before s.2
            have hn := head_oFind after s.2
            generalize (before.filter fun o => decide (o.n = s.2)) = lo' at lo mo wo oko ho
            generalize (after.filter fun o => decide (o.n = s.2)) = ln' at ln mn wn okn hn
            have hsz : sizeT before after (s.1, some s.2) = match lo'.head?, ln'.head? with
              | some o, some o' => if szRow o = szRow o' then [] else [szO s.1 o']
              | _, _ => [] := by
              unfold sizeT
              rw [ho, hn]; rfl
            walk_at "gf"
            rename_i pe hpe
            have p9 := Pu.skip (o := .lst []) c8.vh hpe
            refine ⟨ao, pe, zo, rfl, rfl, p9.vh.seq qo, SqL.of upd_same, ?_⟩
            have D9 := D8.pu p9
            have c9 := c8.trans (p9.ch [pd])
            generalize upd H8 pe (.lst []) = H9 at p9 D9 c9 ⊢
            cases lo' with
            | nil =>
              have : zo = [] := List.length_eq_zero_iff.mp lo
              subst this
              refine ⟨_, rfl, if_f rfl ?_⟩
              refine if_f rfl ?_
              exact nx U8 H9 _ _ _ _ c9 (by rw [hsz]; simp only [List.head?_nil, List.append_nil]; exact D9)
            | cons o lo' =>
              obtain ⟨zh, zo, rfl⟩ : ∃ a r, zo = a :: r := by
                cases zo with
                | nil => cases lo
                | cons a r => exact ⟨a, r, rfl⟩
              refine ⟨_, rfl, if_t rfl ?_⟩
              walk_at "gf"
              rename_i pf hpf
              have p10 := Pu.skip (o := .lst []) p9.vh hpf
              refine ⟨an, pf, zn, rfl, rfl, p10.vh.seq qn, SqL.of upd_same, ?_⟩
              have D10 := D9.pu p10
              have c10 := c9.trans (p10.ch [pd])
              generalize upd H9 pf (.lst []) = H10 at p10 D10 c10 ⊢
              cases ln' with
              | nil =>
                have : zn = [] := List.length_eq_zero_iff.mp ln
                subst this
                refine ⟨_, rfl, if_f rfl ?_⟩
                refine if_f rfl ?_
                exact nx U8 H10 _ _ _ _ c10 (by rw [hsz]; show Du K U8 H10 pd (_ ++ ([] : List (List Int))); rw [List.append_nil]; exact D10)
              | cons o' ln' =>
                obtain ⟨zh', zn, rfl⟩ : ∃ a r, zn = a :: r := by
                  cases zn with
                  | nil => cases ln
                  | cons a r => exact ⟨a, r, rfl⟩
                refine ⟨_, rfl, if_t rfl ?_⟩
                have oz : OutAt A.COutput U8 zh o := by obtain ⟨x, hx, oz⟩ := wo 0 zh rfl; cases hx; exact oz
                have oz' : OutAt A.COutput U8 zh' o' := by obtain ⟨x, hx, oz⟩ := wn 0 zh' rfl; cases hx; exact oz
                have okn' := okn o' List.mem_cons_self
                have qo10 := p10.vh.seq qo
                have qn10 := p10.vh.seq qn
                walk_at "gf"
                refine ⟨zh, o, rfl, oz.to p10.vh, fun q1 hq1 => ?_⟩
                have p11 := Pu.new (o := .lst [.int o.w, .int o.h, .int o.s, .int o.t]) p10.vh hq1
                have qn11 := p11.vh.seq (p11.vv.seq qn)
                walk_at "gf"
                refine ⟨zh', o', rfl, oz'.to (p11.vv.trans p11.vh), fun q2 hq2 => ?_⟩
                have p12 := p11.trans (Pu.new (o := .lst [.int o'.w, .int o'.h, .int o'.s, .int o'.t]) p11.vh hq2)
                have eq1 : (upd (upd H10 q1 (.lst [.int o.w, .int o.h, .int o.s, .int o.t])) q2 (.lst [.int o'.w, .int o'.h, .int o'.s, .int o'.t])) q1 = some (.lst ((szRow o).map V.int)) := (same_upd hq2) _ _ upd_same
                have eq2 : (upd (upd H10 q1 (.lst [.int o.w, .int o.h, .int o.s, .int o.t])) q2 (.lst [.int o'.w, .int o'.h, .int o'.s, .int o'.t])) q2 = some (.lst ((szRow o').map V.int)) := upd_same
                generalize upd (upd U8 q1 (.lst [.int o.w, .int o.h, .int o.s, .int o.t])) q2 (.lst [.int o'.w, .int o'.h, .int o'.s, .int o'.t]) = U12 at p12
                generalize upd (upd H10 q1 (.lst [.int o.w, .int o.h, .int o.s, .int o.t])) q2 (.lst [.int o'.w, .int o'.h, .int o'.s, .int o'.t]) = H12 at p12 eq1 eq2 ⊢
                refine t_ne (dp_ints (SqL.of eq1)) (dp_ints (SqL.of eq2)) (sh_ints _).shaped (sh_ints _).shaped ?_
                rw [eqv_pInts]
                have D12 := D10.pu p12
                have c12 := c10.trans (p12.ch [pd])
                refine ⟨_, rfl, ?_⟩
                by_cases hz : szRow o = szRow o'
                · refine if_f (by rw [decide_eq_true hz]; rfl) ?_
                  exact nx U12 H12 _ _ _ _ c12 (by rw [hsz]; show Du K U12 H12 pd (_ ++ (if szRow o = szRow o' then ([] : List (List Int)) else [szO s.1 o'])); rw [if_pos hz, List.append_nil]; exact D12)
                · refine if_t (by rw [decide_eq_false hz]; rfl) ?_
                  obtain ⟨ys12, ey12, _⟩ := D12.e
                  have qn12 := p12.vh.seq (p12.vv.seq qn)
                  walk_at "gf"
                  refine ⟨zh', o', rfl, oz'.to (p12.vv.trans p12.vh), fun q3 hq3 => ?_⟩
                  have p13 := Pu.skip (o := .lst [.int o'.w, .int o'.h, .int o'.s, .int o'.t]) p12.vh hq3
                  have D13 := D12.pu p13
                  walk_at "nl"
                  refine (ev.szE hnum okn' upd_same).go fun pp H14 n14 => ?_
                  obtain ⟨ys, ey, hyl, U14, c14, D14⟩ := D13.push p13.vh n14
                  refine ⟨pd, _, _, rfl, rfl, ey, Nat.lt_of_lt_of_le (m := 100000) (by rw [hyl]; omega) (by decide), ?_⟩
                  exact nx U14 _ _ _ _ _ ((c12.trans (p13.ch _)).trans c14) (by rw [hsz]; show Du K U14 _ pd (_ ++ (if szRow o = szRow o' then ([] : List (List Int)) else [szO s.1 o'])); rw [if_neg hz]; exact D14)
      · rintro σ H6 ⟨U6, v7, v8, v9, v10, rfl, c6, D6⟩
        rw [hzl, List.take_length] at D6
        walk_at "gf"
        obtain ⟨ys, ey, dy⟩ := D6.e
        have ud := D6.u
        have s6 := c6.vh
        have sv : Same U6 (upd U6 pd (.lst ys)) := by walk_at "h"
        refine q.go pd ys (upd U6 pd (.lst ys)) H6 ⟨c6.vv.trans sv, by walk_at "h", ?_, ?_, ?_⟩ upd_same (dy.to sv)
        · intro b hb hn
          have hbp : b ≠ pd := fun z => hn (by rw [z]; exact hpd)
          rw [upd_ne hbp]
          exact c6.out b hb (by rw [upd_ne hbp]; exact hn)
        · intro b hb
          by_cases hbp : b = pd
          · rw [hbp]; exact hpd
          · have := c6.nn b hb
            rw [upd_ne hbp] at this; exact this
        · intro b hn
          have hbp : b ≠ pd := fun z => hn (by rw [z]; exact hpd)
          rw [c6.kp b (by simpa using hbp) (by rw [upd_ne hbp]; exact hn), upd_ne hbp]
/-! ### _law_other -/
theorem cutVf {xs : List V} {i : Nat} (h : i ≤ xs.length) : cutV xs (some (i : Int)) none = xs.drop i := by
  unfold cutV
  rw [HT.sIx_nat, HT.sIx_none, Nat.min_eq_left h]
  exact List.take_of_length_le (by rw [List.length_drop]; exact Nat.le_refl _)
theorem cutVt {xs : List V} {j : Nat} (h : j ≤ xs.length) : cutV xs none (some (j : Int)) = xs.take j := by
  unfold cutV
  rw [HT.sIx_nat, HT.sIx_none, Nat.min_eq_left h]; rfl
def sp__law_other (C : Addr) (K : PySem.W.Frag) : Sp := fun vs H Q _ => ∃ (v : V) (row B : Int) (os : List Out) (U : Hp), vs = [v, .int row] ∧ OutsAt C K U v os ∧ Same U H ∧ 5 ≤ B ∧ B ≤ 500 ∧ (∀ o ∈ os, o.w ≤ B) ∧ ∀ z os' U' H', Pu U H U' H' → OutsAt C K U' z os' → (∀ o ∈ os', o.w ≤ B + 1) → Q z H'
theorem sc__law_other : FnScope ["outputs", "row", "place", "old", "case", "new"] ["outputs", "row"] (defScope s__law_other) := ⟨rfl, rfl, rfl, by decide +kernel, rfl, by decide +kernel, by decide +kernel⟩
theorem ok__law_other (T : Txt0 P K mg A) : FnOk P w K mg base CX0 5 A.f_law_other A.d_law_other ["outputs", "row"] (sp__law_other A.COutput K) := by
  refine T.F_law_other.ok sc__law_other (fun vs H Q E h => ?_) (fun cdv Ar outer st H vs Q E hr h => ?_)
  · obtain ⟨_, _, _, _, _, rfl, _⟩ := h
    rfl
  · obtain ⟨v, row, B, os, U, rfl, O, sU, hB, hB2, hw, q⟩ := h
    replace q := Hid.mk q
    obtain ⟨a, zs, rfl, hq, hl, hm, hz, hok⟩ := id O
    have hqH := sU.seq hq
    refine ⟨_, (pss_cons (ps_if (PW.pt (pw_or (pt_cmpR op_eq (pe_op op_mod (pe_callTy call_int1 (by rfl) T.int (by decide +kernel) (pa_cons (pv 1) pa_nil)) pe_int) pe_int (nomark _)) (pw_or1 (pt_cmpR (op_eqNil hr.units) (pv 0) (pe_lst pa_nil) (nomark _)))))
      (pss_one (ps_ret (pe_call (ok__law_outputs T) (hr.mono (by decide)) rfl T.g_law_outputs T.k_law_outputs T.b_law_outputs .nil pass0 (pa_cons (pe_op op_fdiv (pv 1) pe_int) (pa_cons (pe_op op_mod (pe_callTy call_int1 (by rfl) T.int (by decide +kernel) (pa_cons (pe_op op_fdiv (pv 1) pe_int) pa_nil)) pe_int) pa_nil)))))
      pss_nil)
      (pss_cons (ps_set (i := 2) sc__law_other.nd rfl (Or.inl rfl) (pe_op op_mod (pe_callTy call_int1 (by rfl) T.int (by decide +kernel) (pa_cons (pe_op op_fdiv (pv 1) pe_int) pa_nil)) (pe_callB call_len_seq (by rfl) T.len PySem.boot_len (pa_cons (pv 0) pa_nil))))
      (pss_cons (ps_set (i := 3) sc__law_other.nd rfl (Or.inl rfl) (pe_ix (r := rIxL K) ix_list (pv 0) (pv 2) (fun _ _ => rfl)))
      (pss_cons (ps_set (i := 4) sc__law_other.nd rfl (Or.inl rfl) (pe_op op_mod (pe_callTy call_int1 (by rfl) T.int (by decide +kernel) (pa_cons (pe_op op_fdiv (pv 1) pe_int) pa_nil)) pe_int))
      (pss_cons (ps_set (i := 5) sc__law_other.nd rfl (Or.inl rfl) (pe_make T.MOutput (ok_Output___init__ T) (hr.mono (by decide)) rfl T.gOutput T.bOutput___init__ .nil pass0 (pa_cons (pe_fldC T.clOutput T.nOutput_number (pv 3) rfl) (pa_cons (pe_op op_add (pe_fldC T.clOutput T.nOutput_x (pv 3) rfl) (pe_callTy call_int1 (by rfl) T.int (by decide +kernel) (pa_cons (pe_cmpR op_eq (pv 4) pe_int (nomark _)) pa_nil))) (pa_cons (pe_fldC T.clOutput T.nOutput_y (pv 3) rfl) (pa_cons (pe_op op_add (pe_fldC T.clOutput T.nOutput_width (pv 3) rfl) (pe_callTy call_int1 (by rfl) T.int (by decide +kernel) (pa_cons (pe_cmpR op_eq (pv 4) pe_int (nomark _)) pa_nil))) (pa_cons (pe_fldC T.clOutput T.nOutput_height (pv 3) rfl) (pa_cons (pe_fldC T.clOutput T.nOutput_scale (pv 3) rfl) (pa_cons (pe_op op_mod (pe_callTy call_int1 (by rfl) T.int (by decide +kernel) (pa_cons (pe_op op_add (pe_fldC T.clOutput T.nOutput_turn (pv 3) rfl) (pe_callTy call_int1 (by rfl) T.int (by decide +kernel) (pa_cons (pe_cmpR op_eq (pv 4) pe_int (nomark _)) pa_nil))) pa_nil)) pe_int) pa_nil)))))))))
      (pss_one (ps_ret (pe_op op_cat (pe_op op_cat (pe_slice (r := rSlL K) sl_list (pv 0) po_none (po_some (pv 2))) (pe_lst (pa_cons (pv 5) pa_nil))) (pe_slice (r := rSlL K) sl_list (pv 0) (po_some (pe_op op_add (pv 2) pe_int)) po_none))))))))), ?_⟩
    walk_at "gf"
    have e25 : [V.int (row / 2), V.int (row / 2 % 5)] = [V.int (row / 2), V.int (((row / 2 % 5).toNat : Nat) : Int)] := by rw [Int.toNat_of_nonneg (by omega)]
    refine iteEq (fun c1 => ?_) (fun c1 => ?_)
    · walk_at "gf"
      exact ⟨row / 2, (row / 2 % 5).toNat, U, e25, by omega, sU, fun v' os' U' H' p o hw' => q.go v' os' U' H' p o fun x hx => by have := hw' x hx; omega⟩
    · walk_at "gf"
      rename_i pe hpe
      refine ⟨a, pe, zs, rfl, rfl, (same_upd hpe).seq hqH, SqL.of upd_same, ?_⟩
      have p1 := Pu.skip (o := .lst []) sU hpe
      generalize upd H pe (.lst []) = H1 at p1 ⊢
      have q1 := p1.vh.seq hq
      by_cases hE : zs = []
      · subst hE
        refine ⟨_, rfl, if_t rfl ?_⟩
        walk_at "gf"
        exact ⟨row / 2, (row / 2 % 5).toNat, U, e25, by omega, p1.vh, fun v' os' U' H' p o hw' => q.go v' os' U' H' (p1.trans p) o fun x hx => by have := hw' x hx; omega⟩
      · have hne : zs.isEmpty = false := by cases zs with
          | nil => exact absurd rfl hE
          | cons _ _ => rfl
        have hpos : 0 < zs.length := List.length_pos_iff.mpr hE
        refine ⟨_, rfl, if_f (by rw [hne]; rfl) ?_⟩
        walk_at "gf"
        obtain ⟨j, hj, hjl⟩ : ∃ j : Nat, row / 2 % (zs.length : Int) = (j : Int) ∧ j < zs.length := by
          have h0 := Int.emod_nonneg (row / 2) (b := (zs.length : Int)) (by omega)
          have h1 := Int.emod_lt_of_pos (row / 2) (b := (zs.length : Int)) (by omega)
          exact ⟨(row / 2 % (zs.length : Int)).toNat, by omega, by omega⟩
        dsimp only
        rw [hj]
        have hzj : zs[j]? = some zs[j] := List.getElem?_eq_getElem hjl
        generalize zs[j] = z at hzj
        obtain ⟨o, ho, b, dx, rfl, eb⟩ := hz j z hzj
        have ebH := p1.vh _ _ eb
        refine ⟨a, _, _, .ref b, rfl, rfl, q1, L2.at_of (j := j) rfl hzj, ?_⟩
        walk_at "gf"
        refine .inr ⟨decide (V.int (row / 10 % 4) = V.int 0), rfl, ?_⟩
        generalize decide (V.int (row / 10 % 4) = V.int 0) = k0
        walk_at "gf"
        refine .inr ⟨decide (V.int (row / 10 % 4) = V.int 1), rfl, ?_⟩
        generalize decide (V.int (row / 10 % 4) = V.int 1) = k1
        walk_at "gf"
        refine .inr ⟨decide (V.int (row / 10 % 4) = V.int 2), rfl, ?_⟩
        generalize decide (V.int (row / 10 % 4) = V.int 2) = k2
        walk_at "gf"
        intro b2 dx2 hb2 hdx2 nb2
        generalize hd0 : (if k0 = true then (1 : Int) else 0) = d0
        generalize hd1 : (if k1 = true then (1 : Int) else 0) = d1
        generalize hd2 : (if k2 = true then (1 : Int) else 0) = d2
        have hd1' : 0 ≤ d1 ∧ d1 ≤ 1 := by rw [← hd1]; split <;> decide
        refine ⟨b2, dx2, ⟨o.n, o.x + d0, o.y, o.w + d1, o.h, o.s, (o.t + d2) % 8⟩, rfl, upd_same, fun H2 e2 k2 => ⟨rfl, ?_⟩⟩
        have s1 := p1.vh
        have p2 : Pu U H1 (upd U b2 (.ins A.COutput dx2 [("number", .int o.n), ("x", .int (o.x + d0)), ("y", .int o.y), ("width", .int (o.w + d1)), ("height", .int o.h), ("scale", .int o.s), ("turn", .int ((o.t + d2) % 8))])) H2 := ⟨by walk_at "h", by walk_at "h", by walk_at "h", by walk_at "h", by walk_at "h"⟩
        have ov : OutAt A.COutput (upd U b2 (.ins A.COutput dx2 [("number", .int o.n), ("x", .int (o.x + d0)), ("y", .int o.y), ("width", .int (o.w + d1)), ("height", .int o.h), ("scale", .int o.s), ("turn", .int ((o.t + d2) % 8))])) (.ref b2) ⟨o.n, o.x + d0, o.y, o.w + d1, o.h, o.s, (o.t + d2) % 8⟩ := ⟨b2, dx2, rfl, upd_same⟩
        generalize (upd U b2 (.ins A.COutput dx2 [("number", .int o.n), ("x", .int (o.x + d0)), ("y", .int o.y), ("width", .int (o.w + d1)), ("height", .int o.h), ("scale", .int o.s), ("turn", .int ((o.t + d2) % 8))])) = U2 at p2 ov
        have okn : OutOk ⟨o.n, o.x + d0, o.y, o.w + d1, o.h, o.s, (o.t + d2) % 8⟩ := by
          have := hok o (List.mem_of_getElem? ho)
          have := hw o (List.mem_of_getElem? ho)
          unfold OutOk at *
          dsimp only
          omega
        have hwn : o.w + d1 ≤ B + 1 := by
          have := hw o (List.mem_of_getElem? ho)
          omega
        have P2 := p1.trans p2
        have q2 := p2.vh.seq (p2.vv.seq hq)
        have p2v := p2.vv
        clear e2 k2 hb2 hdx2 nb2 p2 s1
        walk_at "gf"
        refine ⟨a, zs, rfl, q2, fun t1 ht1 => ?_⟩
        dsimp only
        rw [cutVt (Nat.le_of_lt hjl)]
        have p3 := Pu.skip (o := .lst (zs.take j)) P2.vh ht1
        have et1 : (upd H2 t1 (.lst (zs.take j))) t1 = _ := upd_same
        generalize upd H2 t1 (.lst (zs.take j)) = H3 at p3 et1 ⊢
        walk_at "gf"
        rename_i pn hpn
        have p4 := p3.trans (Pu.skip (o := .lst [.ref b2]) p3.vh hpn)
        refine ⟨t1, pn, zs.take j, [.ref b2], rfl, rfl, (same_upd hpn) _ _ et1, upd_same, len_line (by rw [List.length_take]; show min j zs.length + 1 ≤ 100000; omega), fun t2 ht2 => ?_⟩
        have p5 := p4.trans (Pu.skip (o := .lst (zs.take j ++ [.ref b2])) p4.vh ht2)
        have et2 : (upd (upd H3 pn (.lst [.ref b2])) t2 (.lst (zs.take j ++ [.ref b2]))) t2 = _ := upd_same
        generalize upd (upd H3 pn (.lst [.ref b2])) t2 (.lst (zs.take j ++ [.ref b2])) = H5 at p5 et2 ⊢
        walk_at "gf"
        refine ⟨a, zs, rfl, p5.vh.seq (p5.vv.seq (p2v.seq hq)), fun t3 ht3 => ?_⟩
        dsimp only
        rw [show ((j : Int) + 1) = ((j + 1 : Nat) : Int) from rfl, cutVf (by omega)]
        refine ⟨t2, t3, _, _, rfl, rfl, (same_upd ht3) _ _ et2, upd_same, len_line (by rw [List.length_append, List.length_take, List.length_drop]; show min j zs.length + 1 + (zs.length - (j + 1)) ≤ 100000; omega), fun t4 ht4 => ?_⟩
        have p6 := p5.trans (Pu.skip (o := .lst (zs.drop (j + 1))) p5.vh ht3)
        have ee : zs.take j ++ [.ref b2] ++ zs.drop (j + 1) = zs.set j (.ref b2) := by
          rw [List.set_eq_take_append_cons_drop, if_pos hjl, List.append_assoc]; rfl
        rw [ee]
        have p7 := p6.trans (Pu.new (o := .lst (zs.set j (.ref b2))) p6.vh ht4)
        have s7 : Same U2 (upd U2 t4 (.lst (zs.set j (.ref b2)))) := p7.vv
        refine q.go (.ref t4) (os.set j ⟨o.n, o.x + d0, o.y, o.w + d1, o.h, o.s, (o.t + d2) % 8⟩) _ _ (P2.trans p7) ⟨t4, _, rfl, SqL.of upd_same, by rw [List.length_set, List.length_set]; exact hl, by rw [List.length_set]; exact hm, fun i z hi => ?_, fun x hx => ?_⟩ fun x hx => ?_
        · rw [List.getElem?_set] at hi ⊢
          by_cases hij : j = i
          · subst hij
            rw [if_pos rfl, if_pos hjl] at hi
            cases hi
            exact ⟨_, by rw [if_pos rfl, if_pos (by omega)], ov.to s7⟩
          · rw [if_neg hij] at hi ⊢
            obtain ⟨x, h1, h2⟩ := hz i z hi
            exact ⟨x, h1, h2.to (p2v.trans s7)⟩
        · rcases List.mem_or_eq_of_mem_set hx with h | h
          · exact hok x h
          · rw [h]; exact okn
        · rcases List.mem_or_eq_of_mem_set hx with h | h
          · have := hw x h; omega
          · rw [h]; exact hwn
/-! ### _law_begin -/
theorem Pu.after {U H U1 H1 U2 H2 : Hp} {cs ds : List Addr} (a : Pu U H U1 H1) (b : Ch U1 H1 U2 H2 cs) (h : ∀ x ∈ cs, x ∈ ds ∨ H x = none) : Ch U H U2 H2 ds := by
  obtain ⟨a1, a2, a3, a4, a5⟩ := a
  obtain ⟨b1, b2, b3, b4, b5⟩ := b
  refine ⟨a1.trans b1, b2, by walk_at "h", by walk_at "h", fun b hb hn => ?_⟩
  have hc : b ∉ cs := fun z => (h b z).elim hb hn
  rw [b5 b hc (by rw [a5 b hn]; exact hn), a5 b hn]
def shownOf (ow : List (Int × Option Int)) : List (Int × Int) := ow.filterMap fun p => p.2.map fun m => (p.1, m)
theorem due_told (before after : List Out) (rs : List Int) (ow : List (Int × Option Int)) : dueD before after rs (shownOf ow) = toldC before after rs ow := by
  unfold dueD toldC
  congr 1
  unfold shownOf
  induction ow with
  | nil => rfl
  | cons p r ih =>
    rw [List.flatMap_cons, ← ih]
    obtain ⟨n, m⟩ := p
    cases m with
    | none => rfl
    | some m => rfl
theorem valV_own_free {n : Int} : ∀ {ow : List (Int × Option Int)}, (∀ p ∈ ow, p.1 ≠ n) → valV (ownK ow) (.inl n) = none
  | [], _ => rfl
  | p :: r, h => by
    unfold ownK
    rw [List.map_cons, valV_neg (fun z => h p List.mem_cons_self (by injection z))]
    exact valV_own_free fun q hq => h q (List.mem_cons_of_mem _ hq)
theorem own_put {n : Int} {ow : List (Int × Option Int)} (ob : Option Out) (h : ∀ p ∈ ow, p.1 ≠ n) : putK (ownK ow) (.inl n) (ownV ob) = ownK (ow ++ [(n, ob.map fun o => o.n)]) := by
  rw [putK_new _ (valV_own_free h)]
  unfold ownK
  rw [List.map_append]
  cases ob <;> rfl
theorem shown_app (ow : List (Int × Option Int)) (n : Int) (m : Option Int) : shownOf (ow ++ [(n, m)]) = shownOf ow ++ match m with | none => [] | some k => [(n, k)] := by
  unfold shownOf
  rw [List.filterMap_append]
  cases m <;> rfl
structure LbI (A : Adr) (K : PySem.W.Frag) (U0 H0 H : Hp) (rg lr d pr ps : Addr) (U : Hp) (rs : List Int) (ow : List (Int × Option Int)) (m : Nat) : Prop where
  c : Ch U0 H0 U H [lr, d, pr, ps]
  G : Rg A.CRegistries U H rg lr d (rs.map V.int) (ownK ow) m
  epr : H pr = some (.lst (rs.map V.int))
  eps : ∃ zs, H ps = some (.lst zs) ∧ DpAll K U zs ((shownOf ow).map shD)
  upr : U pr = none
  ups : U ps = none
  nd : rs.Nodup
  hr : ∀ r ∈ rs, num r
  ho : ∀ p ∈ ow, num p.1
def sp__law_begin (CE : Addr) (w : World) (A : Adr) (K : PySem.W.Frag) : Sp := fun vs H Q _ => ∃ (a rg lr d pr ps : Addr) (ns : List Int) (vo : V) (os : List Out) (U : Hp), vs = [.ref a, vo, .ref rg, .ref pr, .ref ps] ∧ SqL K U a (ns.map V.int) ∧ Evs CE w K ∧ OutsAt A.COutput K U vo os ∧ LbI A K U H H rg lr d pr ps U [] [] 0 ∧ lr ≠ pr ∧ lr ≠ ps ∧ pr ≠ ps ∧
  ∀ U' H' rs ow m, LbI A K U H H' rg lr d pr ps U' rs ow m → rs.length ≤ 3 → ow.length ≤ 6 → m ≤ 20 → Q .non H'
theorem sc__law_begin : FnScope ["script", "outputs", "program", "registries", "shown", "row", "k", "number"] ["script", "outputs", "program", "registries", "shown"] (defScope s__law_begin) := ⟨rfl, rfl, rfl, by decide +kernel, rfl, by decide +kernel, by decide +kernel⟩
theorem ok__law_begin (T : Txt0 P K mg A) : FnOk P w K mg base CX0 13 A.f_law_begin A.d_law_begin ["script", "outputs", "program", "registries", "shown"] (sp__law_begin A.a_EVENTS w A K) := by
  refine T.F_law_begin.ok sc__law_begin (fun vs H Q E h => ?_) (fun cdv Ar outer st H vs Q E hr h => ?_)
  · obtain ⟨_, _, _, _, _, _, _, _, _, _, rfl, _⟩ := h
    rfl
  · obtain ⟨a, rg, lr, d, pr, ps, ns, vo, os, U, rfl, hS, ev, O, L0, npr, nps, npp, q⟩ := h
    replace q := Hid.mk q
    have sU := L0.c.vh
    have hSH := sU.seq hS
    obtain ⟨dxg, eg⟩ := L0.G.ob
    refine ⟨_, (pss_cons (ps_set (i := 5) sc__law_begin.nd rfl (Or.inl rfl) (pe_callTy call_int1 (by rfl) T.int (by decide +kernel) (pa_cons (pe_call (ok__law_row T) (hr.mono (by decide)) rfl T.g_law_row T.k_law_row T.b_law_row .nil pass0 (pa_cons (pv 0) (pa_cons pe_int pa_nil))) pa_nil)))
      (pss_cons (ps_for PassesOwn.never rfl (pi_range1 (by rfl) T.range (pa_cons (pe_op op_add pe_int (pe_op op_mod (pv 5) pe_int)) pa_nil)) (pg_name (i := 6) sc__law_begin.nd rfl (Or.inl rfl))
      (pss_cons (ps_expr (pe_meth (pv 2) T.clRegistries T.mRegistries_serve (ok_Registries_serve T) (hr.mono (by decide)) T.bRegistries_serve .nil passL (pa_cons (pe_make T.MRequest (ok_Request___init__ T) (hr.mono (by decide)) rfl T.gRequest T.bRequest___init__ .nil pass0 (pa_cons pe_int (pa_cons pe_str (pa_cons pe_str (pa_cons (pe_lst (pa_cons (pe_op op_add pe_int (pv 6)) pa_nil)) (pa_cons pe_bl pa_nil)))))) (pa_cons (pv 1) (pa_cons pe_int (pa_cons (pe_make0 T.MReply (ok_Reply___init__ T) (hr.mono (by decide)) rfl T.gReply T.bReply___init__ .nil pass0) pa_nil))))))
      (pss_one (ps_expr (pe_bm PySem.F.plainAttrs_list PySem.F.slot_list_append PySem.F.type_list_append mt_append (pv 3) (pa_cons (pe_op op_add pe_int (pv 6)) pa_nil))))))
      (pss_one (ps_for PassesOwn.never rfl (pi_range1 (by rfl) T.range (pa_cons (pe_op op_mod (pe_op op_fdiv (pv 5) pe_int) pe_int) pa_nil)) (pg_name (i := 6) sc__law_begin.nd rfl (Or.inl rfl))
      (pss_cons (ps_set (i := 7) sc__law_begin.nd rfl (Or.inl rfl) (pe_op op_mod (pe_callTy call_int1 (by rfl) T.int (by decide +kernel) (pa_cons (pe_call (ok__law_row T) (hr.mono (by decide)) rfl T.g_law_row T.k_law_row T.b_law_row .nil pass0 (pa_cons (pv 0) (pa_cons (pe_op op_add pe_int (pv 6)) pa_nil))) pa_nil)) pe_int))
      (pss_cons (ps_expr (pe_meth (pv 2) T.clRegistries T.mRegistries_serve (ok_Registries_serve T) (hr.mono (by decide)) T.bRegistries_serve .nil passL (pa_cons (pe_make T.MRequest (ok_Request___init__ T) (hr.mono (by decide)) rfl T.gRequest T.bRequest___init__ .nil pass0 (pa_cons pe_int (pa_cons pe_str (pa_cons pe_str (pa_cons (pe_lst (pa_cons (pe_op op_add (pv 7) pe_int) (pa_cons (pe_tup (pa_cons pe_str (pa_cons (pe_op op_add pe_int (pv 6)) pa_nil))) pa_nil))) (pa_cons pe_bl pa_nil)))))) (pa_cons (pv 1) (pa_cons pe_int (pa_cons (pe_make0 T.MReply (ok_Reply___init__ T) (hr.mono (by decide)) rfl T.gReply T.bReply___init__ .nil pass0) pa_nil))))))
      (pss_one (ps_if (pt_cmpR op_in_seq (pv 7) (pe_call (ok__law_numbers T) (hr.mono (by decide)) rfl T.g_law_numbers T.k_law_numbers T.b_law_numbers .nil pass0 (pa_cons (pv 1) pa_nil)) (by rfl))
      (pss_one (ps_expr (pe_bm PySem.F.plainAttrs_list PySem.F.slot_list_append PySem.F.type_list_append mt_append (pv 4) (pa_cons (pe_tup (pa_cons (pe_op op_add pe_int (pv 6)) (pa_cons (pv 7) pa_nil))) pa_nil))))
      pss_nil)))))))), ?_⟩
    walk_at "gf"
    refine ⟨a, ns, 64, rfl, hSH, ?_⟩
    have hr0 := lawRow_nn ns 64
    generalize lawRow ns 64 = r0 at hr0 ⊢
    walk_at "gf"
    refine ⟨by omega, by omega, ?_⟩
    have hn : (1 + r0 % 3).toNat ≤ 3 := by omega
    generalize (1 + r0 % 3).toNat = nn at hn ⊢
    refine for_range (lo := 0) (fun i σ H' => ∃ (U' : Hp) (rs : List Int) (v6 : Option V), σ = [some (.ref a), some vo, some (.ref rg), some (.ref pr), some (.ref ps), some (.int r0), v6, none] ∧ LbI A K U H H' rg lr d pr ps U' rs [] i ∧ rs.length ≤ i ∧ ∀ r ∈ rs, r < 10 + (i : Int))
      ⟨U, [], _, rfl, L0, Nat.le_refl _, fun r h => (by cases h)⟩ ?_ ?_
    · rintro i σ H1 hi ⟨U1, rs, v6, rfl, L, hrl, hrb⟩
      have s1 := L.c.vh
      have O1 := O.to L.c.vv
      have eg1 := L.c.vv _ _ eg
      have eg1H := s1 _ _ eg1
      have epr := L.epr
      obtain ⟨zs, eps, dz⟩ := L.eps
      obtain ⟨els, hls⟩ := L.G.l
      have ed := L.G.dd
      have nprd : pr ≠ d := ne_of epr ed (by intro z; cases z)
      walk_at "gf"
      rename_i pa hpa
      intro rq dxq hrq hdxq nrq
      refine ⟨rq, dxq, 1, "display", "registry", .ref pa, false, rfl, upd_same, fun H3 e3 k3 => ⟨rfl, ?_⟩⟩
      have epa : H3 pa = some (.lst [.int (10 + (0 + (i : Int)))]) := by walk_at "h"
      have P3 : Pu U1 H1 U1 H3 := ⟨Same.refl _, by walk_at "h", fun _ h _ => h, by walk_at "h", by walk_at "h"⟩
      clear k3 hpa hrq hdxq nrq
      walk_at "gf"
      intro o dxo ho hdxo nod
      have w3 := P3.vh
      refine ⟨o, dxo, U1, rfl, upd_same, by walk_at "h", w3.free ho, fun lt le lw H4 s4 k4 m4 f1 f2 f3 R4 => ⟨rfl, ?_⟩⟩
      have P4 : Pu U1 H3 U1 H4 := ⟨Same.refl _, s4, fun _ h _ => h, by walk_at "h", by walk_at "h"⟩
      have P24 := P3.trans P4
      have e4 : H4 rq = some _ := (P4.kp rq (by rw [e3]; exact fun z => by cases z)).trans e3
      have epa4 : H4 pa = some _ := (P4.kp pa (by rw [epa]; exact fun z => by cases z)).trans epa
      have hl3 : H3 lr ≠ none := by rw [P3.kp lr (by rw [els]; exact fun z => by cases z), els]; exact fun z => by cases z
      have nlt : lr ≠ lt := by walk_at "h"
      have nle : lr ≠ le := by walk_at "h"
      have nlw : lr ≠ lw := by walk_at "h"
      have G4 := L.G.frame (m' := i) (Nat.le_refl _) (Same.refl _) (fun b hb hu _ => ⟨hu, P24.kp b hb⟩)
      have olt : H1 lt = none := P3.nn _ (by walk_at "h")
      have eg4 := P24.vh _ _ eg1
      clear k4 m4 ho hdxo nod f1 f2 f3 P3 P4
      walk_at "gf"
      refine .inr (.inl ⟨rg, rq, pa, o, 1, 10 + (0 + (i : Int)), 0, dxg, lr, d, vo, rfl, eg4, ⟨dxq, false, e4⟩, epa4, ?_⟩)
      refine ⟨rg, lr, d, o, lt, le, lw, 10 + (0 + (i : Int)), vo, os, _, _, i, [], U1, rfl, P24.vh, ev, by unfold num; omega, O1, G4, by omega, R4, nlt, nle, nlw, fun U5 H5 c5 G5 _ => ?_⟩
      have C5 : Ch U1 H1 U5 H5 [lr] := P24.after c5 (by
        intro x hx
        simp only [List.mem_cons, List.not_mem_nil, or_false] at hx
        rcases hx with rfl | rfl
        · exact .inr olt
        · exact .inl (List.mem_singleton.mpr rfl))
      have epr5 := (C5.kp pr (by simpa using npr.symm) (by rw [epr]; exact fun z => by cases z)).trans epr
      have eps5 := (C5.kp ps (by simpa using nps.symm) (by rw [eps]; exact fun z => by cases z)).trans eps
      have upr5 := C5.out pr L.upr (by rw [epr]; exact fun z => by cases z)
      have ups5 := C5.out ps L.ups (by rw [eps]; exact fun z => by cases z)
      walk_at "gf"
      refine ⟨pr, _, _, rfl, rfl, epr5, Nat.lt_of_lt_of_le (m := 100000) (by rw [List.length_map]; omega) (by decide), ?_⟩
      have ap : rs.map V.int ++ [V.int (10 + (0 + (i : Int)))] = (rs ++ [10 + (i : Int)]).map V.int := by rw [List.map_append, Int.zero_add]; rfl
      rw [ap]
      have C6 : Ch U5 H5 U5 (upd H5 pr (.lst ((rs ++ [10 + (i : Int)]).map V.int))) [lr, d, pr, ps] := Ch.poke C5.vh upr5 _ (by simp)
      have G5' := G5
      rw [ap] at G5'
      refine ⟨U5, rs ++ [10 + (i : Int)], _, rfl, ⟨L.c.trans ((C5.mono (by simp)).trans C6), G5'.frame (Nat.le_refl _) (Same.refl _) (fun b hb hu hx => ⟨hu, upd_ne (hx.elim (fun z => by rw [z]; exact npr) (fun z => by rw [z]; exact nprd.symm))⟩), upd_same, ⟨zs, by rw [upd_ne npp.symm]; exact eps5, dz.to C5.vv⟩, upr5, ups5, ?_, ?_, L.ho⟩, by rw [List.length_append]; show rs.length + 1 ≤ _; omega, ?_⟩
      · refine List.nodup_append.mpr ⟨L.nd, by simp, fun x hx y hy => ?_⟩
        rw [List.mem_singleton] at hy
        have := hrb x hx
        omega
      · intro r hr'
        rcases List.mem_append.mp hr' with h | h
        · exact L.hr r h
        · rw [List.mem_singleton] at h; rw [h]; unfold num; omega
      · intro r hr'
        rcases List.mem_append.mp hr' with h | h
        · have := hrb r h; omega
        · rw [List.mem_singleton] at h; omega
    · rintro σ H1 ⟨U1, rs, v6, rfl, L, hrl, hrb⟩
      walk_at "gf"
      refine ⟨by omega, by omega, ?_⟩
      have hn2 : (r0 / 4 % 7).toNat ≤ 6 := by omega
      generalize (r0 / 4 % 7).toNat = n2 at hn2 ⊢
      refine for_range (lo := 0) (fun i σ H' => ∃ (U' : Hp) (ow : List (Int × Option Int)) (v6 v7 : Option V), σ = [some (.ref a), some vo, some (.ref rg), some (.ref pr), some (.ref ps), some (.int r0), v6, v7] ∧ LbI A K U H H' rg lr d pr ps U' rs ow (nn + i) ∧ ow.length ≤ i ∧ ∀ p ∈ ow, p.1 < 30 + (i : Int))
        ⟨U1, [], _, _, rfl, L, Nat.le_refl _, fun r h => (by cases h)⟩ ?_ ?_
      · rintro i σ H2 hi ⟨U2, ow, v6, v7, rfl, L, hol, hob⟩
        have s2 := L.c.vh
        have O2 := O.to L.c.vv
        have eg2 := L.c.vv _ _ eg
        have eg2H := s2 _ _ eg2
        have epr := L.epr
        obtain ⟨zs, eps, dz⟩ := L.eps
        obtain ⟨els, hls⟩ := L.G.l
        have ed := L.G.dd
        have nprd : pr ≠ d := ne_of epr ed (by intro z; cases z)
        have npsd : ps ≠ d := ne_of eps ed (by intro z; cases z)
        walk_at "gf"
        refine ⟨a, ns, 65 + i, by rw [Int.zero_add]; rfl, s2.seq (L.c.vv.seq hS), ?_⟩
        have hr1 := lawRow_nn ns (65 + i)
        generalize lawRow ns (65 + i) = r1 at hr1 ⊢
        walk_at "gf"
        rename_i pt hpt pl hpl
        unfold L2.tCons L2.tC L2.tNil
        intro rq dxq hrq hdxq nrq
        refine ⟨rq, dxq, 10, "registry", "bind", .ref pl, false, rfl, upd_same, fun H3 e3 k3 => ⟨rfl, ?_⟩⟩
        have ept : H3 pt = some (.tup [.str "output", .int (30 + (0 + (i : Int)))]) := by walk_at "h"
        have epl : H3 pl = some (.lst [.int (r1 % 14 + 16), .ref pt]) := by walk_at "h"
        have P3 : Pu U2 H2 U2 H3 := ⟨Same.refl _, by walk_at "h", fun _ h _ => h, by walk_at "h", by walk_at "h"⟩
        clear k3 hpt hpl hrq hdxq nrq
        dsimp only
        walk_at "gf"
        intro o dxo ho hdxo nod
        have w3 := P3.vh
        refine ⟨o, dxo, U2, rfl, upd_same, by walk_at "h", w3.free ho, fun lt le lw H4 s4 k4 m4 f1 f2 f3 R4 => ⟨rfl, ?_⟩⟩
        have P4 : Pu U2 H3 U2 H4 := ⟨Same.refl _, s4, fun _ h _ => h, by walk_at "h", by walk_at "h"⟩
        have P24 := P3.trans P4
        have e4 : H4 rq = some _ := (P4.kp rq (by rw [e3]; exact fun z => by cases z)).trans e3
        have epl4 : H4 pl = some _ := (P4.kp pl (by rw [epl]; exact fun z => by cases z)).trans epl
        have ept4 : H4 pt = some _ := (P4.kp pt (by rw [ept]; exact fun z => by cases z)).trans ept
        have hl3 : H3 lr ≠ none := by rw [P3.kp lr (by rw [els]; exact fun z => by cases z), els]; exact fun z => by cases z
        have nlt : lr ≠ lt := by walk_at "h"
        have G4 := L.G.frame (m' := nn + i) (Nat.le_refl _) (Same.refl _) (fun b hb hu _ => ⟨hu, P24.kp b hb⟩)
        have olt : H2 lt = none := P3.nn _ (by walk_at "h")
        have eg4 := P24.vh _ _ eg2
        clear k4 m4 ho hdxo nod f1 f2 f3 P3 P4
        walk_at "gf"
        refine .inr (.inr ⟨rg, rq, pl, o, 10, 0, dxg, lr, d, vo, rfl, eg4, ⟨dxq, false, e4⟩, ?_⟩)
        refine ⟨rg, lr, d, rq, pl, pt, o, lt, le, lw, 10, r1 % 14 + 16, 30 + (0 + (i : Int)), "registry", "bind", "output", vo, os, _, _, nn + i, [], U2, rfl, P24.vh, ev, by unfold num; omega, O2, G4, by omega, R4, nlt, ⟨dxq, false, e4⟩, epl4, ept4, by decide +kernel, fun hf => ?_, fun _ hno => absurd rfl hno, fun _ U5 H5 c5 G5 _ => ?_⟩
        · rw [fits_out] at hf; cases hf
        have ow1 : ∀ p ∈ ow, p.1 ≠ 30 + (0 + (i : Int)) := fun p hp => by have := hob p hp; omega
        rw [own_put _ ow1, show r1 % 14 + 16 - 16 = r1 % 14 by omega] at G5
        have C5 : Ch U2 H2 U5 H5 [d] := P24.after c5 (by
          intro x hx
          simp only [List.mem_cons, List.not_mem_nil, or_false] at hx
          rcases hx with rfl | rfl
          · exact .inr olt
          · exact .inl (List.mem_singleton.mpr rfl))
        have epr5 := (C5.kp pr (by simpa using nprd) (by rw [epr]; exact fun z => by cases z)).trans epr
        have eps5 := (C5.kp ps (by simpa using npsd) (by rw [eps]; exact fun z => by cases z)).trans eps
        have upr5 := C5.out pr L.upr (by rw [epr]; exact fun z => by cases z)
        have ups5 := C5.out ps L.ups (by rw [eps]; exact fun z => by cases z)
        have C0 := L.c.trans (C5.mono (ds := [lr, d, pr, ps]) (by simp))
        have hzl := dpall_len dz
        have hsl : (shownOf ow).length ≤ ow.length := List.length_filterMap_le _ _
        rw [List.length_map] at hzl
        clear c5 P24 G4 R4 e4 epl4 ept4 e3 ept epl w3 s4
        dsimp only
        walk_at "gf"
        refine ⟨vo, os, U5, rfl, O2.to C5.vv, C5.vh, fun pn H7 p7 e7 => ?_⟩
        refine ⟨pn, _, rfl, .inl (SqL.of e7), rfl, ?_, ?_⟩
        · rw [List.all_map]; exact List.all_eq_true.mpr fun _ _ => rfl
        rw [if_neg Bool.false_ne_true, inV_ints]
        have G7 := G5.frame (m' := nn + (i + 1)) (by omega) (Same.refl _) (fun b hb hu _ => ⟨hu, p7.kp b hb⟩)
        have epr7 := (p7.kp pr (by rw [epr5]; exact fun z => by cases z)).trans epr5
        have eps7 := (p7.kp ps (by rw [eps5]; exact fun z => by cases z)).trans eps5
        have C7 := C0.trans (p7.ch _)
        have ho' : ∀ m, ∀ p ∈ ow ++ [(30 + (0 + (i : Int)), m)], num p.1 := fun m p hp => by
          rcases List.mem_append.mp hp with h | h
          · exact L.ho p h
          · rw [List.mem_singleton] at h; rw [h]; unfold num; dsimp only; omega
        have hb' : ∀ m, ∀ p ∈ ow ++ [(30 + (0 + (i : Int)), m)], p.1 < 30 + ((i + 1 : Nat) : Int) := fun m p hp => by
          rcases List.mem_append.mp hp with h | h
          · have := hob p h; omega
          · rw [List.mem_singleton] at h; rw [h]; dsimp only; omega
        have hl' : ∀ m, (ow ++ [(30 + (0 + (i : Int)), m)]).length ≤ i + 1 := fun m => by rw [List.length_append]; show ow.length + 1 ≤ _; omega
        refine ⟨_, rfl, ?_⟩
        have hfi := oFind_iff os (r1 % 14)
        by_cases hin : r1 % 14 ∈ os.map fun o => o.n
        · rw [decide_eq_true hin]
          rw [decide_eq_false (fun z => z hin)] at hfi
          obtain ⟨ob, hob2⟩ : ∃ ob, oFind os (r1 % 14) = some ob := by
            cases h : oFind os (r1 % 14) with
            | none => rw [h] at hfi; cases hfi
            | some ob => exact ⟨ob, rfl⟩
          have hbn : ob.n = r1 % 14 := by
            have := List.find?_some hob2
            exact of_decide_eq_true this
          rw [hob2] at G7
          refine if_t rfl ?_
          walk_at "gf"
          rename_i tp htp
          have p8 := Pu.new (o := .tup [.int (30 + (0 + (i : Int))), .int (r1 % 14)]) p7.vh htp
          have et8 : (upd U5 tp (.tup [.int (30 + (0 + (i : Int))), .int (r1 % 14)])) tp = _ := upd_same
          have eps8 := (p8.kp ps (by rw [eps7]; exact fun z => by cases z)).trans eps7
          have epr8 := (p8.kp pr (by rw [epr7]; exact fun z => by cases z)).trans epr7
          have upr8 := p8.out pr upr5 (by rw [epr7]; exact fun z => by cases z)
          have ups8 := p8.out ps ups5 (by rw [eps7]; exact fun z => by cases z)
          have G8 := G7.frame (m' := nn + (i + 1)) (Nat.le_refl _) p8.vv (fun b hb hu _ => ⟨p8.out b hu hb, p8.kp b hb⟩)
          have C8 := C7.trans (p8.ch _)
          have dt : Dp K (upd U5 tp (.tup [.int (30 + (0 + (i : Int))), .int (r1 % 14)])) (.ref tp) (shD (30 + (0 + (i : Int)), r1 % 14)) := .tup (SqT.of et8) (.cons (.int _) (.cons (.int _) .nil))
          have dz8 := dz.to (C5.vv.trans p8.vv)
          generalize upd U5 tp (.tup [.int (30 + (0 + (i : Int))), .int (r1 % 14)]) = U8 at p8 upr8 ups8 G8 C8 dt dz8
          generalize upd H7 tp (.tup [.int (30 + (0 + (i : Int))), .int (r1 % 14)]) = H8 at p8 eps8 epr8 G8 C8 ⊢
          refine ⟨ps, _, _, rfl, rfl, eps8, Nat.lt_of_lt_of_le (m := 100000) (by omega) (by decide), ?_⟩
          refine ⟨U8, _, _, _, rfl, ⟨C8.trans (Ch.poke p8.vh ups8 _ (by simp)), G8.frame (Nat.le_refl _) (Same.refl _) (fun b hb hu hx => ⟨hu, upd_ne (hx.elim (fun z => by rw [z]; exact nps) (fun z => by rw [z]; exact npsd.symm))⟩), by rw [upd_ne npp]; exact epr8, ⟨_, upd_same, ?_⟩, upr8, ups8, L.nd, L.hr, ho' _⟩, hl' _, hb' _⟩
          rw [shown_app, List.map_append]
          dsimp only [Option.map]
          rw [hbn]
          exact dpall_app dz8 (.cons dt .nil)
        · rw [decide_eq_false hin]
          rw [decide_eq_true hin] at hfi
          have hob2 : oFind os (r1 % 14) = none := Option.isNone_iff_eq_none.mp hfi
          rw [hob2] at G7
          refine if_f rfl ?_
          refine ⟨U5, _, _, _, rfl, ⟨C7, G7, epr7, ⟨zs, eps7, ?_⟩, upr5, ups5, L.nd, L.hr, ho' _⟩, hl' _, hb' _⟩
          rw [shown_app]
          dsimp only [Option.map]
          rw [List.append_nil]
          exact dz.to C5.vv
      · rintro σ H2 ⟨U2, ow, v6, v7, rfl, L, hol, hob⟩
        walk_at "gf"
        exact q.go U2 H2 rs ow _ L (by omega) (by omega) (by omega)
/-! ### the law -/
theorem shown_filter (n : Int) (ow : List (Int × Option Int)) : shownOf (ow.filter fun p => decide (p.1 ≠ n)) = (shownOf ow).filter fun s => decide (s.1 ≠ n) := by
  induction ow with
  | nil => rfl
  | cons p r ih =>
    obtain ⟨k, m⟩ := p
    have e1 : shownOf ((k, m) :: r) = shownOf [(k, m)] ++ shownOf r := by cases m <;> rfl
    rw [e1, List.filter_append, ← ih, List.filter_cons]
    by_cases h : k = n
    · rw [if_neg (by simp [h])]
      cases m with
      | none => rfl
      | some m =>
        show _ = List.filter _ [(k, m)] ++ _
        rw [List.filter_cons_of_neg (by simp [h])]; rfl
    · rw [if_pos (by simp [h])]
      have e2 : ∀ t, shownOf ((k, m) :: t) = shownOf [(k, m)] ++ shownOf t := fun t => by cases m <;> rfl
      rw [e2]
      cases m with
      | none => rfl
      | some m =>
        show [(k, m)] ++ _ = List.filter _ [(k, m)] ++ _
        rw [List.filter_cons_of_pos (by simp [h])]; rfl
theorem fm_neS (g : Int) (ps : List (Int × Int)) : (ps.filterMap fun p => if p.1 ≠ g then some (shD p) else none) = (ps.filter fun p => decide (p.1 ≠ g)).map shD := by
  induction ps with
  | nil => rfl
  | cons p r ih =>
    rw [List.filterMap_cons, List.filter_cons]
    by_cases h : p.1 = g
    · simp only [h, ne_eq, not_true_eq_false, if_false, decide_false, Bool.false_eq_true] at ih ⊢
      exact ih
    · simp only [h, ne_eq, not_false_eq_true, if_true, decide_true, List.map_cons] at ih ⊢
      rw [ih]
structure LwI (A : Adr) (K : PySem.W.Frag) (H : Hp) (a rg lr d : Addr) (vo : V) (pr ps : Addr) (ns : List Int) (os : List Out) (U : Hp) (rs : List Int) (ow : List (Int × Option Int)) (m i : Nat) : Prop where
  sU : Same U H
  sc : SqL K U a (ns.map V.int)
  O : OutsAt A.COutput K U vo os
  hw : ∀ o ∈ os, o.w ≤ 5 + (i : Int)
  G : Rg A.CRegistries U H rg lr d (rs.map V.int) (ownK ow) m
  epr : H pr = some (.lst (rs.map V.int))
  eps : ∃ zs, H ps = some (.lst zs) ∧ DpAll K U zs ((shownOf ow).map shD)
  n1 : pr ≠ lr
  n2 : ps ≠ lr
  nd : rs.Nodup
  hr : ∀ r ∈ rs, num r
  ho : ∀ p ∈ ow, num p.1
  rl : rs.length ≤ 3
  ol : ow.length ≤ 6
theorem num_shown {ow : List (Int × Option Int)} (h : ∀ p ∈ ow, num p.1) : ∀ s ∈ shownOf ow, num s.1 := fun s hs => by
  obtain ⟨p, hp, e⟩ := List.mem_filterMap.mp hs
  obtain ⟨m, _, rfl⟩ := Option.map_eq_some_iff.mp e
  exact h p hp
def nine9 : List Int := [10, 11, 12, 30, 31, 32, 33, 34, 35]
theorem sc_law : FnScope ["script", "outputs", "program", "registries", "shown", "k", "row", "other", "reply", "number", "registry", "pair"] ["script"] (defScope s_law) := ⟨rfl, rfl, rfl, by decide +kernel, rfl, by decide +kernel, by decide +kernel⟩
theorem ok_lawE (T : Txt0 P K mg A) (ev : Evs A.a_EVENTS w K) : FnOk P w K mg base CX0 14 A.flaw A.dlaw ["script"] (sp_law K) := by
  refine T.Flaw.ok sc_law (fun vs H Q E h => ?_) (fun cdv Ar outer s H vs Q E hr h => ?_)
  · obtain ⟨a, ns, rfl, _⟩ := h
    rfl
  · obtain ⟨a, ns, rfl, hS, hlen, q⟩ := h
    replace q := Hid.mk q
    refine ⟨_, (pss_cons (ps_set (i := 1) sc_law.nd rfl (Or.inl rfl) (pe_call (ok__law_outputs T) (hr.mono (by decide)) rfl T.g_law_outputs T.k_law_outputs T.b_law_outputs .nil pass0 (pa_cons (pe_call (ok__law_row T) (hr.mono (by decide)) rfl T.g_law_row T.k_law_row T.b_law_row .nil pass0 (pa_cons (pv 0) (pa_cons pe_int pa_nil))) (pa_cons (pe_op op_mod (pe_callTy call_int1 (by rfl) T.int (by decide +kernel) (pa_cons (pe_call (ok__law_row T) (hr.mono (by decide)) rfl T.g_law_row T.k_law_row T.b_law_row .nil pass0 (pa_cons (pv 0) (pa_cons pe_int pa_nil))) pa_nil)) pe_int) pa_nil))))
      (pss_cons (ps_set (i := 2) sc_law.nd rfl (Or.inl rfl) (pe_make0 T.MRegistries (ok_Registries___init__ T) (hr.mono (by decide)) rfl T.gRegistries T.bRegistries___init__ .nil pass0))
      (pss_cons (ps_set (i := 3) sc_law.nd rfl (Or.inl rfl) (pe_lst pa_nil))
      (pss_cons (ps_set (i := 4) sc_law.nd rfl (Or.inl rfl) (pe_lst pa_nil))
      (pss_cons (ps_expr (pe_call (ok__law_begin T) (hr.mono (by decide)) rfl T.g_law_begin T.k_law_begin T.b_law_begin .nil pass0 (pa_cons (pv 0) (pa_cons (pv 1) (pa_cons (pv 2) (pa_cons (pv 3) (pa_cons (pv 4) pa_nil)))))))
      (pss_cons (ps_for PassesOwn.never rfl (pi_range1 (by rfl) T.range (pa_cons (pe_op op_add (pe_callB (call_min2 rfl) (by rfl) T.min (by decide +kernel) (pa_cons (pe_callB call_len_seq (by rfl) T.len PySem.boot_len (pa_cons (pv 0) pa_nil)) (pa_cons pe_int pa_nil))) pe_int) pa_nil)) (pg_name (i := 5) sc_law.nd rfl (Or.inl rfl))
      (pss_cons (ps_set (i := 6) sc_law.nd rfl (Or.inl rfl) (pe_callTy call_int1 (by rfl) T.int (by decide +kernel) (pa_cons (pe_call (ok__law_row T) (hr.mono (by decide)) rfl T.g_law_row T.k_law_row T.b_law_row .nil pass0 (pa_cons (pv 0) (pa_cons (pv 5) pa_nil))) pa_nil)))
      (pss_cons (ps_set (i := 7) sc_law.nd rfl (Or.inl rfl) (pe_call (ok__law_other T) (hr.mono (by decide)) rfl T.g_law_other T.k_law_other T.b_law_other .nil pass0 (pa_cons (pv 1) (pa_cons (pe_op op_fdiv (pv 6) pe_int) pa_nil))))
      (pss_cons (ps_set (i := 8) sc_law.nd rfl (Or.inl rfl) (pe_make0 T.MReply (ok_Reply___init__ T) (hr.mono (by decide)) rfl T.gReply T.bReply___init__ .nil pass0))
      (pss_cons (ps_expr (pe_meth (pv 2) T.clRegistries T.mRegistries_changed (ok_Registries_changed T) (hr.mono (by decide)) T.bRegistries_changed .nil pass0 (pa_cons (pv 1) (pa_cons (pv 7) (pa_cons (pv 8) pa_nil)))))
      (pss_cons (ps_if (PW.pt (pw_or (pt_cmpR (op_neD hr.units) (pe_fldC T.clReply T.nReply_told (pv 8) rfl) (pe_call (ok__law_due T) (hr.mono (by decide)) rfl T.g_law_due T.k_law_due T.b_law_due .nil pass0 (pa_cons (pv 1) (pa_cons (pv 7) (pa_cons (pv 3) (pa_cons (pv 4) pa_nil))))) (nomark _)) (pw_or1 (pt_cmpR (op_neD hr.units) (pe_fldC T.clReply T.nReply_ended (pv 8) rfl) (pe_lst pa_nil) (nomark _)))))
      (pss_one (ps_ret pe_bl))
      pss_nil)
      (pss_cons (ps_set (i := 1) sc_law.nd rfl (Or.inl rfl) (pv 7))
      (pss_one (ps_if (pt_cmpR op_eq (pe_op op_mod (pv 6) pe_int) pe_int (nomark _))
      (pss_cons (ps_set (i := 9) sc_law.nd rfl (Or.inr rfl) (pe_ix (r := rIxT K) ix_tup (pe_tup (pa_cons pe_int (pa_cons pe_int (pa_cons pe_int (pa_cons pe_int (pa_cons pe_int (pa_cons pe_int (pa_cons pe_int (pa_cons pe_int (pa_cons pe_int pa_nil)))))))))) (pe_op op_mod (pe_op op_fdiv (pv 6) pe_int) pe_int) (fun _ _ => rfl)))
      (pss_cons (ps_expr (pe_meth (pv 2) T.clRegistries T.mRegistries_forget (ok_Registries_forget T) (hr.mono (by decide)) T.bRegistries_forget .nil pass0 (pa_cons (pv 9) pa_nil)))
      (pss_cons (ps_setLc (i := 3) (own := [("registry", 10)]) (g := (gName 10)) rfl sc_law.nd rfl rfl (sw_true rfl rfl rfl (by decide +kernel)) (pi_list (pv 3)) (blkOk_by (own := [("registry", 10)]) (N := ["script", "outputs", "program", "registries", "shown", "k", "row", "other", "reply", "number", "registry", "pair"]) (sc := defScope s_law) (by decide +kernel)) (fun _ _ _ _ _ => (pg_name (i := 10) sc_law.nd rfl (Or.inl rfl))) (fun _ _ _ _ _ => (pts_one (pt_cmpR op_ne (pv 10) (pv 9) (nomark _)))) (fun _ _ _ _ _ => by exact (pv 10)))
      (pss_one (ps_setLc (i := 4) (own := [("pair", 11)]) (g := (gName 11)) rfl sc_law.nd rfl rfl (sw_true rfl rfl rfl (by decide +kernel)) (pi_list (pv 4)) (blkOk_by (own := [("pair", 11)]) (N := ["script", "outputs", "program", "registries", "shown", "k", "row", "other", "reply", "number", "registry", "pair"]) (sc := defScope s_law) (by decide +kernel)) (fun _ _ _ _ _ => (pg_name (i := 11) sc_law.nd rfl (Or.inl rfl))) (fun _ _ _ _ _ => (pts_one (pt_cmpR op_ne (pe_ix (r := rIxT K) ix_tup (pv 11) pe_int (fun _ _ => rfl)) (pv 9) (nomark _)))) (fun _ _ _ _ _ => by exact (pv 11)))))))
      pss_nil)))))))))
      (pss_one (ps_ret pe_bl)))))))), ?_⟩
    walk_at "go"
    refine ⟨a, ns, 63, rfl, hS, ?_⟩
    walk_at "go"
    refine ⟨a, ns, 62, rfl, hS, ?_⟩
    have hr63 := lawRow_nn ns 63
    have hr62 := lawRow_nn ns 62
    generalize lawRow ns 63 = r63 at hr63 ⊢
    generalize lawRow ns 62 = r62 at hr62 ⊢
    walk_at "gf"
    refine ⟨r63, (r62 % 5).toNat, H, by show [V.int r63, V.int (r62 % 5)] = _; rw [Int.toNat_of_nonneg (by omega)], by omega, Same.refl _, fun vo os U1 H1 P1 O1 hw1 => ?_⟩
    have hs1 := P1.vv.seq hS
    walk_at "gf"
    intro rg dxg hrg hdxg nrg
    refine ⟨rg, dxg, rfl, upd_same, fun lr d H2 f1 f2 nld e2 elr ed k2 m2 => ⟨rfl, ?_⟩⟩
    have s1 := P1.vh
    have U2s : Same U1 H2 := by walk_at "h"
    obtain ⟨U2, hU2⟩ : ∃ U2, U2 = upd U1 rg (.ins A.CRegistries dxg [("_registries", .ref lr), ("_owners", .ref d)]) := ⟨_, rfl⟩
    have v2 : Same U1 U2 := by rw [hU2]; walk_at "h"
    have w2 : Same U2 H2 := by rw [hU2]; walk_at "h"
    have g2 : U2 rg = some (.ins A.CRegistries dxg [("_registries", .ref lr), ("_owners", .ref d)]) := by rw [hU2]; exact upd_same
    have u2l : U2 lr = none := by rw [hU2]; walk_at "h"
    have u2d : U2 d = none := by rw [hU2]; walk_at "h"
    have G2 : Rg A.CRegistries U2 H2 rg lr d [] [] 0 := ⟨⟨dxg, g2⟩, ⟨elr, Nat.le_refl _⟩, ed, u2l, u2d, Nat.le_refl _⟩
    have hs2 := v2.seq hs1
    have O2 := O1.to v2
    clear hU2 v2 U2s s1 f1 f2 nld k2 m2 hrg hdxg nrg P1 O1 hs1
    walk_at "gf"
    rename_i pr hpr ps hps
    have P3 := Pu.skip (o := .lst []) w2 hpr
    have P4 := P3.trans (Pu.skip (o := .lst []) P3.vh hps)
    have npp : pr ≠ ps := by walk_at "h"
    have npr : lr ≠ pr := by walk_at "h"
    have nps : lr ≠ ps := by walk_at "h"
    have L0 : LbI A K U2 (upd (upd H2 pr (.lst [])) ps (.lst [])) (upd (upd H2 pr (.lst [])) ps (.lst [])) rg lr d pr ps U2 [] [] 0 :=
      ⟨(Pu.refl P4.vh).ch _, G2.frame (Nat.le_refl _) (Same.refl _) (fun b hb hu _ => ⟨hu, P4.kp b hb⟩), by rw [upd_ne npp]; exact upd_same, ⟨[], upd_same, .nil⟩, w2.free hpr, P3.vh.free hps, List.nodup_nil, fun r h => (by cases h), fun p h => (by cases h)⟩
    refine ⟨a, rg, lr, d, pr, ps, ns, vo, os, U2, rfl, hs2, ev, O2, L0, npr, nps, npp, fun U3 H3 rs ow m L hrl hol hm => ?_⟩
    have hs3 := L.c.vv.seq hs2
    have LW : LwI A K H3 a rg lr d vo pr ps ns os U3 rs ow m 0 := ⟨L.c.vh, hs3, O2.to L.c.vv, fun o h => by have := hw1 o h; omega, L.G, L.epr, L.eps, npr.symm, nps.symm, L.nd, L.hr, L.ho, hrl, hol⟩
    have s3 := L.c.vh
    clear L0 P3 P4 L hs2 O2 G2 elr ed hpr hps
    walk_at "gf"
    rw [List.length_map]
    refine ⟨by split <;> omega, by split <;> omega, ?_⟩
    have hn : ((if (40 : Int) < (ns.length : Int) then (40 : Int) else (ns.length : Int)) + 3).toNat ≤ 43 := by split <;> omega
    generalize ((if (40 : Int) < (ns.length : Int) then (40 : Int) else (ns.length : Int)) + 3).toNat = nn at hn ⊢
    refine for_range (lo := 0) (fun i σ H' => ∃ (U : Hp) (vo : V) (pr ps : Addr) (os : List Out) (rs : List Int) (ow : List (Int × Option Int)) (v5 v6 v7 v8 v9 v10 v11 : Option V), σ = [some (.ref a), some vo, some (.ref rg), some (.ref pr), some (.ref ps), v5, v6, v7, v8, v9, v10, v11] ∧ LwI A K H' a rg lr d vo pr ps ns os U rs ow m i)
      ⟨U3, vo, pr, ps, os, rs, ow, _, _, _, _, _, _, _, rfl, LW⟩ ?_ ?_
    · clear LW s3 hs3 hrl hol hw1 vo pr ps os rs ow npp npr nps
      rintro i σ H2 hi ⟨U, vo, pr, ps, os, rs, ow, v5, v6, v7, v8, v9, v10, v11, rfl, L⟩
      walk_at "gf"
      refine ⟨a, ns, i, by rw [Int.zero_add]; rfl, L.sU.seq L.sc, ?_⟩
      have hr0 := lawRow_nn ns i
      generalize lawRow ns i = row at hr0 ⊢
      walk_at "gf"
      refine ⟨vo, row / 3, 5 + (i : Int), os, U, rfl, L.O, L.sU, by omega, by omega, L.hw, fun va os' U1 H1 p1 O1 hw1 => ?_⟩
      obtain ⟨dxg, eg⟩ := L.G.ob
      obtain ⟨els, hls⟩ := L.G.l
      have els1 := (p1.kp lr (by rw [els]; exact fun z => by cases z)).trans els
      have eg1 := p1.vh _ _ (p1.vv _ _ eg)
      walk_at "gf"
      intro o dxo ho hdxo nod
      have w1 := p1.vh
      refine ⟨o, dxo, U1, rfl, upd_same, by walk_at "h", w1.free ho, fun lt le lw H3 s3 k3 m3 f1 f2 f3 R3 => ⟨rfl, ?_⟩⟩
      have P3 : Pu U1 H1 U1 H3 := ⟨Same.refl _, s3, fun _ h _ => h, by walk_at "h", by walk_at "h"⟩
      have hl1 : H1 lr ≠ none := by rw [els1]; exact fun z => by cases z
      have nlt : lr ≠ lt := by walk_at "h"
      have olt : H1 lt = none := by walk_at "h"
      have eg3 := (P3.kp rg (by rw [eg1]; exact fun z => by cases z)).trans eg1
      have P13 := p1.trans P3
      have G3 := L.G.frame (m' := m) (Nat.le_refl _) p1.vv (fun b hb hu _ => ⟨P13.out b hu hb, P13.kp b hb⟩)
      clear k3 m3 f1 f2 f3 ho hdxo nod hl1
      walk_at "gf"
      have rl := L.rl
      have ol := L.ol
      refine ⟨rg, lr, d, o, lt, le, lw, vo, va, os, os', rs, ow, m, [], U1, rfl, P3.vh, ev, L.O.to p1.vv, O1, G3, by omega, by omega, L.hr, L.ho, R3, nlt, fun U5 H5 c5 G5 R5 => ?_⟩
      have C5 : Ch U1 H1 U5 H5 [] := P3.after c5 (fun x hx => by
        rw [List.mem_singleton] at hx
        rw [hx]; exact .inr olt)
      have P5 : Pu U H2 U5 H5 := p1.trans ⟨C5.vv, C5.vh, C5.out, C5.nn, fun b hb => C5.kp b (List.not_mem_nil) hb⟩
      have epr5 := (P5.kp pr (by rw [L.epr]; exact fun z => by cases z)).trans L.epr
      obtain ⟨zs, eps, dz⟩ := L.eps
      have eps5 := (P5.kp ps (by rw [eps]; exact fun z => by cases z)).trans eps
      have dz5 := dz.to P5.vv
      have O5 := L.O.to P5.vv
      have O5' := O1.to C5.vv
      have hsl : (shownOf ow).length ≤ ow.length := List.length_filterMap_le _ _
      obtain ⟨dxo5, wa5, eo5⟩ := R5.ob
      obtain ⟨zt, ez, dzt⟩ := R5.t
      have ee := R5.e
      have s5 := C5.vh
      clear c5 G3 R3 C5 P3 P13 eg1 els1
      walk_at "gf"
      refine ⟨vo, va, pr, ps, os, os', rs, zs, shownOf ow, U5, rfl, s5, ev, O5, O5', SqL.of epr5, SqL.of eps5, dz5, by omega, by omega, L.hr, num_shown L.ho, fun pp ys U6 H6 p6 e6 d6 => ?_⟩
      rw [due_told] at d6
      refine t_ne (d := tsD (toldC os os' rs ow)) (e := tsD (toldC os os' rs ow)) (.lst (SqL.of ((p6.kp lt (by rw [ez]; exact fun z => by cases z)).trans ez)) (dzt.to (p6.vv.trans p6.vh))) (.lst (SqL.of (p6.vh _ _ e6)) (d6.to p6.vh)) (sh_ts _).shaped (sh_ts _).shaped ⟨_, rfl, ne_self (sh_ts _).shaped rfl ?_⟩
      have eo6 := (p6.kp o (by rw [eo5]; exact fun z => by cases z)).trans eo5
      have ee6 := (p6.kp le (by rw [ee]; exact fun z => by cases z)).trans ee
      walk_at "gf"
      rename_i pm hpm
      have p7 := p6.trans (Pu.skip (o := .lst []) p6.vh hpm)
      refine t_ne (d := pInts []) (e := pInts []) (dp_ints (xs := []) (SqL.of (same_upd hpm _ _ ee6))) (dp_ints (xs := []) (SqL.of upd_same)) (sh_ints _).shaped (sh_ints _).shaped ⟨_, rfl, ne_self (sh_ints _).shaped rfl ?_⟩
      have P7 := P5.trans p7
      have G7 := G5.frame (m' := m) (Nat.le_refl _) p7.vv (fun b hb hu _ => ⟨p7.out b hu hb, p7.kp b hb⟩)
      have epr7 := (p7.kp pr (by rw [epr5]; exact fun z => by cases z)).trans epr5
      have eps7 := (p7.kp ps (by rw [eps5]; exact fun z => by cases z)).trans eps5
      have dz7 := dz5.to p7.vv
      have O7 := O5'.to p7.vv
      have sc7 := P7.vv.seq L.sc
      have eg7 := P7.vh _ _ (P7.vv _ _ eg)
      have hw7 : ∀ o ∈ os', o.w ≤ 5 + ((i + 1 : Nat) : Int) := fun o h => by have := hw1 o h; omega
      have n1 := L.n1
      have n2 := L.n2
      have nd := L.nd
      have hrn := L.hr
      have hon := L.ho
      have s7 := P7.vh
      clear L p6 p7 P5 P7 O5 O5' G5 R5 ez dzt ee eo6 ee6 e6 d6 eo5 s5 epr5 eps5 dz5 dz eps O1 hw1 p1 w1 s3 olt nlt els eg hls
      generalize upd H6 pm (.lst []) = H7 at s7 G7 epr7 eps7 eg7 ⊢
      walk_at "gf"
      refine iteEq (fun c0 => ?_) (fun c0 => ?_)
      · walk_at "gf"
        rename_i t9 ht9
        obtain ⟨n, hn9⟩ : ∃ n : Int, (nine9.map V.int)[(row / 5 % 9).toNat]? = some (.int n) := by
          have hj : (row / 5 % 9).toNat < nine9.length := by show _ < 9; omega
          exact ⟨nine9[(row / 5 % 9).toNat], by rw [List.getElem?_map, List.getElem?_eq_getElem hj]; rfl⟩
        have et : (upd H7 t9 (.tup [V.int 10, V.int 11, V.int 12, V.int 30, V.int 31, V.int 32, V.int 33, V.int 34, V.int 35])) t9 = some (.tup (nine9.map V.int)) := upd_same
        have P8 := Pu.skip (o := .tup [V.int 10, V.int 11, V.int 12, V.int 30, V.int 31, V.int 32, V.int 33, V.int 34, V.int 35]) s7 ht9
        generalize upd H7 t9 (.tup [V.int 10, V.int 11, V.int 12, V.int 30, V.int 31, V.int 32, V.int 33, V.int 34, V.int 35]) = H8 at P8 et ⊢
        refine ⟨t9, _, _, .int n, rfl, rfl, SqT.of et, L2.at_of (j := (row / 5 % 9).toNat) (by omega) hn9, ?_⟩
        have G8 := G7.frame (m' := m) (Nat.le_refl _) (Same.refl _) (fun b hb hu _ => ⟨hu, P8.kp b hb⟩)
        have epr8 := (P8.kp pr (by rw [epr7]; exact fun z => by cases z)).trans epr7
        have eps8 := (P8.kp ps (by rw [eps7]; exact fun z => by cases z)).trans eps7
        have eg8 := (P8.kp rg (by rw [eg7]; exact fun z => by cases z)).trans eg7
        have nprd : pr ≠ d := ne_of epr8 G8.dd (by intro z; cases z)
        have npsd : ps ≠ d := ne_of eps8 G8.dd (by intro z; cases z)
        walk_at "gf"
        refine ⟨rg, lr, d, n, rs, ow, m, U6, rfl, P8.vh, G8, nd, fun H9 c9 G9 => ?_⟩
        have epr9 := (c9.kp pr (by simp [n1, nprd]) (by rw [epr8]; exact fun z => by cases z)).trans epr8
        have eps9 := (c9.kp ps (by simp [n2, npsd]) (by rw [eps8]; exact fun z => by cases z)).trans eps8
        have s9 := c9.vh
        have hl9 : H9 lr ≠ none := by rw [G9.l.1]; exact fun z => by cases z
        have hzl := dpall_len dz7
        rw [List.length_map] at hzl
        have hsl2 : (shownOf ow).length ≤ 6 := Nat.le_trans (List.length_filterMap_le _ _) ol
        clear G7 G8 epr8 eps8 epr7 eps7 c9 P8 et hn9 eg7 eg8 s7 nprd npsd ht9
        walk_at "gf"
        refine ⟨⟨_, SqL.of epr9⟩, fun D hD => ?_⟩
        refine lc_dp (walk_list (K := K) (a := pr) (xs := rs.map V.int)) (K := K) (V0 := U6) (H0 := H9) (fun i => (rs[i]?).bind fun p => if p ≠ n then some (PyData.int p) else none) _ rfl s9 hD (by rw [List.length_map]; omega) (fun H' s => s.seq (SqL.of epr9)) (fun i x H H' y => y.1) ?_ ?_
        · rintro k z U2 H4 hk xx ⟨_, hz⟩ Qy Qn hy hno
          rw [List.getElem?_map] at hz
          obtain ⟨p, hp, rfl⟩ := Option.map_eq_some_iff.mp hz
          walk_at "gf"
          refine iteNe (fun c => ?_) (fun c => ?_)
          · exact ⟨_, rfl, hy (.int p) _ _ _ (by rw [hp]; exact if_pos c) (Ext.refl xx.vh) (.int p)⟩
          · exact hno (by rw [hp]; exact if_neg (fun n => n c)) _ _ (Ext.refl xx.vh)
        · rintro U2 H4 ws xx uD dA dl
          rw [fm_fmap' (fun p => if p ≠ n then some (PyData.int p) else none) rs _ (List.length_map ..) _ (fun i x h => by rw [h]; rfl), fm_ne] at dA
          obtain rfl := dp_intsV dA
          have p4 := xx.pu
          have eD := xx.vh _ _ uD
          have eps4 := (p4.kp ps (by rw [eps9]; exact fun z => by cases z)).trans eps9
          have G4 := G9.frame (m' := m) (Nat.le_refl _) p4.vv (fun b hb hu _ => ⟨p4.out b hu hb, p4.kp b hb⟩)
          have nD : D ≠ lr := fun z => hl9 (by rw [← z]; exact hD)
          have hl4 : H4 lr ≠ none := by rw [G4.l.1]; exact fun z => by cases z
          have dz4 := dz7.to p4.vv
          have s4 := xx.vh
          have v4 := p4.vv
          clear xx dA dl p4 eps9 G9 uD hD
          walk_at "gf"
          refine ⟨⟨_, SqL.of eps4⟩, fun D2 hD2 => ?_⟩
          refine lc_dp (walk_list (K := K) (a := ps) (xs := zs)) (K := K) (V0 := U2) (H0 := H4) (fun i => ((shownOf ow)[i]?).bind fun p => if p.1 ≠ n then some (shD p) else none) _ rfl s4 hD2 (by omega) (fun H' s => s.seq (SqL.of eps4)) (fun i x H H' y => y.1) ?_ ?_
          · rintro k z U3 H5 hk yy ⟨_, hz⟩ Qy Qn hy hno
            obtain ⟨dd, hd, dv⟩ := dpall_get (dz4.to yy.vv) hz
            rw [List.getElem?_map] at hd
            obtain ⟨s, hs, rfl⟩ := Option.map_eq_some_iff.mp hd
            have dv' := dv
            obtain ⟨t, xs, rfl, qt, dw⟩ := dp_tuple dv
            cases dw with
            | cons d1 d2 => cases d2 with
              | cons d2 d3 =>
                cases d3
                obtain rfl := dp_int d1
                obtain rfl := dp_int d2
                walk_at "gf"
                refine ⟨t, _, _, .int s.1, rfl, rfl, yy.vh.sqt qt, L2.at_of (j := 0) rfl rfl, ?_⟩
                walk_at "gf"
                refine iteNe (fun c => ?_) (fun c => ?_)
                · exact ⟨_, rfl, hy (shD s) _ _ _ (by rw [hs]; exact if_pos c) (Ext.refl yy.vh) dv'⟩
                · exact hno (by rw [hs]; exact if_neg (fun n => n c)) _ _ (Ext.refl yy.vh)
          · rintro U3 H5 ws' yy uD3 dB dl'
            rw [fm_fmap' (fun p => if p.1 ≠ n then some (shD p) else none) (shownOf ow) _ hzl _ (fun i x h => by rw [h]; rfl), fm_neS, ← shown_filter] at dB
            have p5 := yy.pu
            have eD5 := (p5.kp D (by rw [eD]; exact fun z => by cases z)).trans eD
            have nD2 : D2 ≠ lr := fun z => hl4 (by rw [← z]; exact hD2)
            exact ⟨U3, va, D, D2, os', _, _, _, _, _, _, _, _, _, rfl, ⟨yy.vh, (v4.trans p5.vv).seq sc7, O7.to (v4.trans p5.vv), hw7, G4.frame (Nat.le_refl _) p5.vv (fun b hb hu _ => ⟨p5.out b hu hb, p5.kp b hb⟩), eD5, ⟨ws', yy.vh _ _ uD3, dB⟩, nD, nD2, nd.filter _, fun r hr' => hrn r (List.mem_filter.mp hr').1, fun p hp => hon p (List.mem_filter.mp hp).1, Nat.le_trans (List.length_filter_le _ _) rl, Nat.le_trans (List.length_filter_le _ _) ol⟩⟩
      · exact ⟨U6, va, pr, ps, os', rs, ow, _, _, _, _, _, _, _, rfl, ⟨s7, sc7, O7, hw7, G7, epr7, ⟨zs, eps7, dz7⟩, n1, n2, nd, hrn, hon, rl, ol⟩⟩
    · rintro σ H2 ⟨U, vo, pr, ps, os, rs, ow, v5, v6, v7, v8, v9, v10, v11, rfl, L⟩
      walk_at "gf"
      exact q.go H2
theorem evsT (T : Txt0 P K mg A) (D : Dic w K A) : Evs A.a_EVENTS w K := by
  have d1 : ∀ H, Dp K H (.ref A.a_EVENTS_k1) (evD [("done", ["uint"])]) := fun H => .tup (T.w_EVENTS_k1 H) (.cons (.tup (T.w_EVENTS_k1_0 H) (.cons (.str _) (.cons (.tup (T.w_EVENTS_k1_0_1 H) (.cons (.str _) .nil)) .nil))) .nil)
  have d2 : ∀ H, Dp K H (.ref A.a_EVENTS_k2) (evD [("there", ["uint", "text"]), ("gone", ["uint"])]) := fun H => .tup (T.w_EVENTS_k2 H) (.cons (.tup (T.w_EVENTS_k2_0 H) (.cons (.str _) (.cons (.tup (T.w_EVENTS_k2_0_1 H) (.cons (.str _) (.cons (.str _) .nil))) .nil))) (.cons (.tup (T.w_EVENTS_k2_1 H) (.cons (.str _) (.cons (.tup (T.w_EVENTS_k2_1_1 H) (.cons (.str _) .nil)) .nil))) .nil))
  have d4 : ∀ H, Dp K H (.ref A.a_EVENTS_k4) (evD [("size", ["uint", "uint", "uint", "uint"])]) := fun H => .tup (T.w_EVENTS_k4 H) (.cons (.tup (T.w_EVENTS_k4_0 H) (.cons (.str _) (.cons (.tup (T.w_EVENTS_k4_0_1 H) (.cons (.str _) (.cons (.str _) (.cons (.str _) (.cons (.str _) .nil))))) .nil))) .nil)
  exact ⟨evRow_of _ 0 D.d_EVENTS_k1 d1 (by decide) rfl (by decide +kernel), evRow_of _ 0 D.d_EVENTS_k2 d2 (by decide) rfl (by decide +kernel), evRow_of _ 1 D.d_EVENTS_k2 d2 (by decide) rfl (by decide +kernel), evRow_of _ 0 D.d_EVENTS_k4 d4 (by decide) rfl (by decide +kernel)⟩
theorem ok_law (T : Txt0 P K mg A) (D : Dic w K A) : FnOk P w K mg base CX0 14 A.flaw A.dlaw ["script"] (sp_law K) := ok_lawE T (evsT T D)
end
theorem all_mk {P : Program} (hP : Prg P) {w : World} {K : PySem.W.Frag} {h : Heap} {mg : Str → Option Value} {fa : Addr} (X : K.In h) (G : h.Ns mainGlobals mg) (hfa : mg "law" = some (.ref fa))
    {foutput_numbered : Addr} {od1 an1 : Option Addr} {sl1 : Array (Option Value)} {oc1 kV1 dc1 pm1 cd1 ct1 : Value}
    {fglobal_rows : Addr} {od2 an2 : Option Addr} {sl2 : Array (Option Value)} {oc2 kV2 dc2 pm2 cd2 ct2 : Value}
    {fbound_interface : Addr} {od3 an3 : Option Addr} {sl3 : Array (Option Value)} {oc3 kV3 dc3 pm3 cd3 ct3 : Value}
    {f_global_number : Addr} {od4 an4 : Option Addr} {sl4 : Array (Option Value)} {oc4 kV4 dc4 pm4 cd4 ct4 : Value}
    {f_missing_in : Addr} {od5 an5 : Option Addr} {sl5 : Array (Option Value)} {oc5 kV5 dc5 pm5 cd5 ct5 : Value}
    {f_size_row : Addr} {od6 an6 : Option Addr} {sl6 : Array (Option Value)} {oc6 kV6 dc6 pm6 cd6 ct6 : Value}
    {f_tell_size : Addr} {od7 an7 : Option Addr} {sl7 : Array (Option Value)} {oc7 kV7 dc7 pm7 cd7 ct7 : Value}
    {fis_integer : Addr} {od8 an8 : Option Addr} {sl8 : Array (Option Value)} {oc8 kV8 dc8 pm8 cd8 ct8 : Value}
    {fis_text : Addr} {od9 an9 : Option Addr} {sl9 : Array (Option Value)} {oc9 kV9 dc9 pm9 cd9 ct9 : Value}
    {fnumber_octets : Addr} {od10 an10 : Option Addr} {sl10 : Array (Option Value)} {oc10 kV10 dc10 pm10 cd10 ct10 : Value}
    {ffield_octets : Addr} {od11 an11 : Option Addr} {sl11 : Array (Option Value)} {oc11 kV11 dc11 pm11 cd11 ct11 : Value}
    {f_is_code : Addr} {od12 an12 : Option Addr} {sl12 : Array (Option Value)} {oc12 kV12 dc12 pm12 cd12 ct12 : Value}
    {f_is_of : Addr} {od13 an13 : Option Addr} {sl13 : Array (Option Value)} {oc13 kV13 dc13 pm13 cd13 ct13 : Value}
    {f_are_octets : Addr} {od14 an14 : Option Addr} {sl14 : Array (Option Value)} {oc14 kV14 dc14 pm14 cd14 ct14 : Value}
    {f_is_bound : Addr} {od15 an15 : Option Addr} {sl15 : Array (Option Value)} {oc15 kV15 dc15 pm15 cd15 ct15 : Value}
    {f_text_octets : Addr} {od16 an16 : Option Addr} {sl16 : Array (Option Value)} {oc16 kV16 dc16 pm16 cd16 ct16 : Value}
    {f_padded : Addr} {od17 an17 : Option Addr} {sl17 : Array (Option Value)} {oc17 kV17 dc17 pm17 cd17 ct17 : Value}
    {fencode_message : Addr} {od18 an18 : Option Addr} {sl18 : Array (Option Value)} {oc18 kV18 dc18 pm18 cd18 ct18 : Value}
    {fevent_octets : Addr} {od19 an19 : Option Addr} {sl19 : Array (Option Value)} {oc19 kV19 dc19 pm19 cd19 ct19 : Value}
    {f_opcode_of : Addr} {od20 an20 : Option Addr} {sl20 : Array (Option Value)} {oc20 kV20 dc20 pm20 cd20 ct20 : Value}
    {f_law_cell : Addr} {od21 an21 : Option Addr} {sl21 : Array (Option Value)} {oc21 kV21 dc21 pm21 cd21 ct21 : Value}
    {f_law_row : Addr} {od22 an22 : Option Addr} {sl22 : Array (Option Value)} {oc22 kV22 dc22 pm22 cd22 ct22 : Value}
    {f_law_output : Addr} {od23 an23 : Option Addr} {sl23 : Array (Option Value)} {oc23 kV23 dc23 pm23 cd23 ct23 : Value}
    {f_law_outputs : Addr} {od24 an24 : Option Addr} {sl24 : Array (Option Value)} {oc24 kV24 dc24 pm24 cd24 ct24 : Value}
    {f_law_size : Addr} {od25 an25 : Option Addr} {sl25 : Array (Option Value)} {oc25 kV25 dc25 pm25 cd25 ct25 : Value}
    {f_law_other : Addr} {od26 an26 : Option Addr} {sl26 : Array (Option Value)} {oc26 kV26 dc26 pm26 cd26 ct26 : Value}
    {f_law_numbers : Addr} {od27 an27 : Option Addr} {sl27 : Array (Option Value)} {oc27 kV27 dc27 pm27 cd27 ct27 : Value}
    {f_law_by : Addr} {od28 an28 : Option Addr} {sl28 : Array (Option Value)} {oc28 kV28 dc28 pm28 cd28 ct28 : Value}
    {f_law_due : Addr} {od29 an29 : Option Addr} {sl29 : Array (Option Value)} {oc29 kV29 dc29 pm29 cd29 ct29 : Value}
    {f_law_begin : Addr} {od30 an30 : Option Addr} {sl30 : Array (Option Value)} {oc30 kV30 dc30 pm30 cd30 ct30 : Value}
    {flaw : Addr} {od31 an31 : Option Addr} {sl31 : Array (Option Value)} {oc31 kV31 dc31 pm31 cd31 ct31 : Value}
    {fFault___init__ : Addr} {od32 an32 : Option Addr} {sl32 : Array (Option Value)} {oc32 kV32 dc32 pm32 ct32 : Value}
    {cc32 cda32 : Addr} {cl32 ccl32 : Value} {cld32 cdd32 : Option Addr} {csl32 ccs32 : Array (Option Value)} {fvs32 : Array Value} {tf32 : Tok} {cdD32 : ClassData}
    {fOutput___init__ : Addr} {od33 an33 : Option Addr} {sl33 : Array (Option Value)} {oc33 kV33 dc33 pm33 cd33 ct33 : Value}
    {fRegistries___init__ : Addr} {od34 an34 : Option Addr} {sl34 : Array (Option Value)} {oc34 kV34 dc34 pm34 cd34 ct34 : Value}
    {fRegistries_serve : Addr} {od35 an35 : Option Addr} {sl35 : Array (Option Value)} {oc35 kV35 dc35 pm35 cd35 ct35 : Value}
    {fRegistries_changed : Addr} {od36 an36 : Option Addr} {sl36 : Array (Option Value)} {oc36 kV36 dc36 pm36 cd36 ct36 : Value}
    {fRegistries_forget : Addr} {od37 an37 : Option Addr} {sl37 : Array (Option Value)} {oc37 kV37 dc37 pm37 cd37 ct37 : Value}
    {fRegistries__open_registry : Addr} {od38 an38 : Option Addr} {sl38 : Array (Option Value)} {oc38 kV38 dc38 pm38 cd38 ct38 : Value}
    {fRegistries__bind : Addr} {od39 an39 : Option Addr} {sl39 : Array (Option Value)} {oc39 kV39 dc39 pm39 cd39 ct39 : Value}
    {fReply___init__ : Addr} {od40 an40 : Option Addr} {sl40 : Array (Option Value)} {oc40 kV40 dc40 pm40 cd40 ct40 : Value}
    {fReply_tell : Addr} {od41 an41 : Option Addr} {sl41 : Array (Option Value)} {oc41 kV41 dc41 pm41 cd41 ct41 : Value}
    {fReply_end : Addr} {od42 an42 : Option Addr} {sl42 : Array (Option Value)} {oc42 kV42 dc42 pm42 cd42 ct42 : Value}
    {fRequest___init__ : Addr} {od43 an43 : Option Addr} {sl43 : Array (Option Value)} {oc43 kV43 dc43 pm43 cd43 ct43 : Value}
    {a_GLOBALS : Addr}
    {ow_GLOBALS : Option Addr} {nw_GLOBALS : Nat} {sw_GLOBALS : Array (Option Value)}
    {a_GLOBALS_0 : Addr}
    {tk_GLOBALS_0_0 tk_GLOBALS_0_1 : Tok}
    {ow_GLOBALS_0 : Option Addr} {nw_GLOBALS_0 : Nat} {sw_GLOBALS_0 : Array (Option Value)}
    {a_GLOBALS_1 : Addr}
    {tk_GLOBALS_1_0 tk_GLOBALS_1_1 : Tok}
    {ow_GLOBALS_1 : Option Addr} {nw_GLOBALS_1 : Nat} {sw_GLOBALS_1 : Array (Option Value)}
    {a_GLOBALS_2 : Addr}
    {tk_GLOBALS_2_0 tk_GLOBALS_2_1 : Tok}
    {ow_GLOBALS_2 : Option Addr} {nw_GLOBALS_2 : Nat} {sw_GLOBALS_2 : Array (Option Value)}
    {a_GLOBALS_3 : Addr}
    {tk_GLOBALS_3_0 tk_GLOBALS_3_1 : Tok}
    {ow_GLOBALS_3 : Option Addr} {nw_GLOBALS_3 : Nat} {sw_GLOBALS_3 : Array (Option Value)}
    {a_GLOBALS_4 : Addr}
    {tk_GLOBALS_4_0 tk_GLOBALS_4_1 : Tok}
    {ow_GLOBALS_4 : Option Addr} {nw_GLOBALS_4 : Nat} {sw_GLOBALS_4 : Array (Option Value)}
    {a_GLOBALS_5 : Addr}
    {tk_GLOBALS_5_0 tk_GLOBALS_5_1 : Tok}
    {ow_GLOBALS_5 : Option Addr} {nw_GLOBALS_5 : Nat} {sw_GLOBALS_5 : Array (Option Value)}
    {t_FIRST_OUTPUT : Tok}
    {tGREATEST_NUMBER : Tok}
    {tLEAST_INT : Tok}
    {tGREATEST_INT : Tok}
    {tLONGEST_TEXT : Tok}
    {tMOST_OCTETS : Tok}
    {t_FIRST_CODE : Tok}
    {t_LAST_CODE : Tok}
    {t_PERCENT_CODE : Tok}
    {tHEADER_SIZE : Tok}
    {tGREATEST_SIZE : Tok}
    {tGREATEST_OPCODE : Tok}
    {tMOST_ARGUMENTS : Tok}
    {a_EVENTS : Addr}
    {es_EVENTS : Array DictEntry} {nn_EVENTS : Nat}
    {a_EVENTS_k0 : Addr}
    {ow_EVENTS_k0 : Option Addr} {nw_EVENTS_k0 : Nat} {sw_EVENTS_k0 : Array (Option Value)}
    {a_EVENTS_k0_0 : Addr}
    {tk_EVENTS_k0_0_0 : Tok}
    {ow_EVENTS_k0_0 : Option Addr} {nw_EVENTS_k0_0 : Nat} {sw_EVENTS_k0_0 : Array (Option Value)}
    {a_EVENTS_k0_0_1 : Addr}
    {tk_EVENTS_k0_0_1_0 tk_EVENTS_k0_0_1_1 tk_EVENTS_k0_0_1_2 : Tok}
    {ow_EVENTS_k0_0_1 : Option Addr} {nw_EVENTS_k0_0_1 : Nat} {sw_EVENTS_k0_0_1 : Array (Option Value)}
    {a_EVENTS_k0_1 : Addr}
    {tk_EVENTS_k0_1_0 : Tok}
    {ow_EVENTS_k0_1 : Option Addr} {nw_EVENTS_k0_1 : Nat} {sw_EVENTS_k0_1 : Array (Option Value)}
    {a_EVENTS_k0_1_1 : Addr}
    {tk_EVENTS_k0_1_1_0 : Tok}
    {ow_EVENTS_k0_1_1 : Option Addr} {nw_EVENTS_k0_1_1 : Nat} {sw_EVENTS_k0_1_1 : Array (Option Value)}
    {a_EVENTS_k1 : Addr}
    {ow_EVENTS_k1 : Option Addr} {nw_EVENTS_k1 : Nat} {sw_EVENTS_k1 : Array (Option Value)}
    {a_EVENTS_k1_0 : Addr}
    {tk_EVENTS_k1_0_0 : Tok}
    {ow_EVENTS_k1_0 : Option Addr} {nw_EVENTS_k1_0 : Nat} {sw_EVENTS_k1_0 : Array (Option Value)}
    {a_EVENTS_k1_0_1 : Addr}
    {tk_EVENTS_k1_0_1_0 : Tok}
    {ow_EVENTS_k1_0_1 : Option Addr} {nw_EVENTS_k1_0_1 : Nat} {sw_EVENTS_k1_0_1 : Array (Option Value)}
    {a_EVENTS_k2 : Addr}
    {ow_EVENTS_k2 : Option Addr} {nw_EVENTS_k2 : Nat} {sw_EVENTS_k2 : Array (Option Value)}
    {a_EVENTS_k2_0 : Addr}
    {tk_EVENTS_k2_0_0 : Tok}
    {ow_EVENTS_k2_0 : Option Addr} {nw_EVENTS_k2_0 : Nat} {sw_EVENTS_k2_0 : Array (Option Value)}
    {a_EVENTS_k2_0_1 : Addr}
    {tk_EVENTS_k2_0_1_0 tk_EVENTS_k2_0_1_1 : Tok}
    {ow_EVENTS_k2_0_1 : Option Addr} {nw_EVENTS_k2_0_1 : Nat} {sw_EVENTS_k2_0_1 : Array (Option Value)}
    {a_EVENTS_k2_1 : Addr}
    {tk_EVENTS_k2_1_0 : Tok}
    {ow_EVENTS_k2_1 : Option Addr} {nw_EVENTS_k2_1 : Nat} {sw_EVENTS_k2_1 : Array (Option Value)}
    {a_EVENTS_k2_1_1 : Addr}
    {tk_EVENTS_k2_1_1_0 : Tok}
    {ow_EVENTS_k2_1_1 : Option Addr} {nw_EVENTS_k2_1_1 : Nat} {sw_EVENTS_k2_1_1 : Array (Option Value)}
    {a_EVENTS_k3 : Addr}
    {ow_EVENTS_k3 : Option Addr} {nw_EVENTS_k3 : Nat} {sw_EVENTS_k3 : Array (Option Value)}
    {a_EVENTS_k3_0 : Addr}
    {tk_EVENTS_k3_0_0 : Tok}
    {ow_EVENTS_k3_0 : Option Addr} {nw_EVENTS_k3_0 : Nat} {sw_EVENTS_k3_0 : Array (Option Value)}
    {a_EVENTS_k3_0_1 : Addr}
    {ow_EVENTS_k3_0_1 : Option Addr} {nw_EVENTS_k3_0_1 : Nat} {sw_EVENTS_k3_0_1 : Array (Option Value)}
    {a_EVENTS_k4 : Addr}
    {ow_EVENTS_k4 : Option Addr} {nw_EVENTS_k4 : Nat} {sw_EVENTS_k4 : Array (Option Value)}
    {a_EVENTS_k4_0 : Addr}
    {tk_EVENTS_k4_0_0 : Tok}
    {ow_EVENTS_k4_0 : Option Addr} {nw_EVENTS_k4_0 : Nat} {sw_EVENTS_k4_0 : Array (Option Value)}
    {a_EVENTS_k4_0_1 : Addr}
    {tk_EVENTS_k4_0_1_0 tk_EVENTS_k4_0_1_1 tk_EVENTS_k4_0_1_2 tk_EVENTS_k4_0_1_3 : Tok}
    {ow_EVENTS_k4_0_1 : Option Addr} {nw_EVENTS_k4_0_1 : Nat} {sw_EVENTS_k4_0_1 : Array (Option Value)}
    {a_EVENTS_k5 : Addr}
    {ow_EVENTS_k5 : Option Addr} {nw_EVENTS_k5 : Nat} {sw_EVENTS_k5 : Array (Option Value)}
    {a_EVENTS_k5_0 : Addr}
    {tk_EVENTS_k5_0_0 : Tok}
    {ow_EVENTS_k5_0 : Option Addr} {nw_EVENTS_k5_0 : Nat} {sw_EVENTS_k5_0 : Array (Option Value)}
    {a_EVENTS_k5_0_1 : Addr}
    {tk_EVENTS_k5_0_1_0 tk_EVENTS_k5_0_1_1 tk_EVENTS_k5_0_1_2 tk_EVENTS_k5_0_1_3 : Tok}
    {ow_EVENTS_k5_0_1 : Option Addr} {nw_EVENTS_k5_0_1 : Nat} {sw_EVENTS_k5_0_1 : Array (Option Value)}
    {a_EVENTS_k5_1 : Addr}
    {tk_EVENTS_k5_1_0 : Tok}
    {ow_EVENTS_k5_1 : Option Addr} {nw_EVENTS_k5_1 : Nat} {sw_EVENTS_k5_1 : Array (Option Value)}
    {a_EVENTS_k5_1_1 : Addr}
    {ow_EVENTS_k5_1_1 : Option Addr} {nw_EVENTS_k5_1_1 : Nat} {sw_EVENTS_k5_1_1 : Array (Option Value)}
    {a_EVENTS_k5_2 : Addr}
    {tk_EVENTS_k5_2_0 : Tok}
    {ow_EVENTS_k5_2 : Option Addr} {nw_EVENTS_k5_2 : Nat} {sw_EVENTS_k5_2 : Array (Option Value)}
    {a_EVENTS_k5_2_1 : Addr}
    {tk_EVENTS_k5_2_1_0 : Tok}
    {ow_EVENTS_k5_2_1 : Option Addr} {nw_EVENTS_k5_2_1 : Nat} {sw_EVENTS_k5_2_1 : Array (Option Value)}
    {a_EVENTS_k5_3 : Addr}
    {tk_EVENTS_k5_3_0 : Tok}
    {ow_EVENTS_k5_3 : Option Addr} {nw_EVENTS_k5_3 : Nat} {sw_EVENTS_k5_3 : Array (Option Value)}
    {a_EVENTS_k5_3_1 : Addr}
    {tk_EVENTS_k5_3_1_0 : Tok}
    {ow_EVENTS_k5_3_1 : Option Addr} {nw_EVENTS_k5_3_1 : Nat} {sw_EVENTS_k5_3_1 : Array (Option Value)}
    {a_EVENTS_k6 : Addr}
    {ow_EVENTS_k6 : Option Addr} {nw_EVENTS_k6 : Nat} {sw_EVENTS_k6 : Array (Option Value)}
    {a_EVENTS_k6_0 : Addr}
    {tk_EVENTS_k6_0_0 : Tok}
    {ow_EVENTS_k6_0 : Option Addr} {nw_EVENTS_k6_0 : Nat} {sw_EVENTS_k6_0 : Array (Option Value)}
    {a_EVENTS_k6_0_1 : Addr}
    {tk_EVENTS_k6_0_1_0 tk_EVENTS_k6_0_1_1 tk_EVENTS_k6_0_1_2 tk_EVENTS_k6_0_1_3 : Tok}
    {ow_EVENTS_k6_0_1 : Option Addr} {nw_EVENTS_k6_0_1 : Nat} {sw_EVENTS_k6_0_1 : Array (Option Value)}
    {a_EVENTS_k6_1 : Addr}
    {tk_EVENTS_k6_1_0 : Tok}
    {ow_EVENTS_k6_1 : Option Addr} {nw_EVENTS_k6_1 : Nat} {sw_EVENTS_k6_1 : Array (Option Value)}
    {a_EVENTS_k6_1_1 : Addr}
    {ow_EVENTS_k6_1_1 : Option Addr} {nw_EVENTS_k6_1_1 : Nat} {sw_EVENTS_k6_1_1 : Array (Option Value)}
    {a_EVENTS_k7 : Addr}
    {ow_EVENTS_k7 : Option Addr} {nw_EVENTS_k7 : Nat} {sw_EVENTS_k7 : Array (Option Value)}
    {a_EVENTS_k7_0 : Addr}
    {tk_EVENTS_k7_0_0 : Tok}
    {ow_EVENTS_k7_0 : Option Addr} {nw_EVENTS_k7_0 : Nat} {sw_EVENTS_k7_0 : Array (Option Value)}
    {a_EVENTS_k7_0_1 : Addr}
    {tk_EVENTS_k7_0_1_0 tk_EVENTS_k7_0_1_1 tk_EVENTS_k7_0_1_2 : Tok}
    {ow_EVENTS_k7_0_1 : Option Addr} {nw_EVENTS_k7_0_1 : Nat} {sw_EVENTS_k7_0_1 : Array (Option Value)}
    {a_EVENTS_k7_1 : Addr}
    {tk_EVENTS_k7_1_0 : Tok}
    {ow_EVENTS_k7_1 : Option Addr} {nw_EVENTS_k7_1 : Nat} {sw_EVENTS_k7_1 : Array (Option Value)}
    {a_EVENTS_k7_1_1 : Addr}
    {tk_EVENTS_k7_1_1_0 : Tok}
    {ow_EVENTS_k7_1_1 : Option Addr} {nw_EVENTS_k7_1_1 : Nat} {sw_EVENTS_k7_1_1 : Array (Option Value)}
    {a_EVENTS_k7_2 : Addr}
    {tk_EVENTS_k7_2_0 : Tok}
    {ow_EVENTS_k7_2 : Option Addr} {nw_EVENTS_k7_2 : Nat} {sw_EVENTS_k7_2 : Array (Option Value)}
    {a_EVENTS_k7_2_1 : Addr}
    {tk_EVENTS_k7_2_1_0 tk_EVENTS_k7_2_1_1 tk_EVENTS_k7_2_1_2 : Tok}
    {ow_EVENTS_k7_2_1 : Option Addr} {nw_EVENTS_k7_2_1 : Nat} {sw_EVENTS_k7_2_1 : Array (Option Value)}
    {a_EVENTS_k7_3 : Addr}
    {tk_EVENTS_k7_3_0 : Tok}
    {ow_EVENTS_k7_3 : Option Addr} {nw_EVENTS_k7_3 : Nat} {sw_EVENTS_k7_3 : Array (Option Value)}
    {a_EVENTS_k7_3_1 : Addr}
    {tk_EVENTS_k7_3_1_0 tk_EVENTS_k7_3_1_1 tk_EVENTS_k7_3_1_2 tk_EVENTS_k7_3_1_3 : Tok}
    {ow_EVENTS_k7_3_1 : Option Addr} {nw_EVENTS_k7_3_1 : Nat} {sw_EVENTS_k7_3_1 : Array (Option Value)}
    {a_EVENTS_k7_4 : Addr}
    {tk_EVENTS_k7_4_0 : Tok}
    {ow_EVENTS_k7_4 : Option Addr} {nw_EVENTS_k7_4 : Nat} {sw_EVENTS_k7_4 : Array (Option Value)}
    {a_EVENTS_k7_4_1 : Addr}
    {tk_EVENTS_k7_4_1_0 tk_EVENTS_k7_4_1_1 tk_EVENTS_k7_4_1_2 : Tok}
    {ow_EVENTS_k7_4_1 : Option Addr} {nw_EVENTS_k7_4_1 : Nat} {sw_EVENTS_k7_4_1 : Array (Option Value)}
    {a_EVENTS_k8 : Addr}
    {ow_EVENTS_k8 : Option Addr} {nw_EVENTS_k8 : Nat} {sw_EVENTS_k8 : Array (Option Value)}
    {a_EVENTS_k8_0 : Addr}
    {tk_EVENTS_k8_0_0 : Tok}
    {ow_EVENTS_k8_0 : Option Addr} {nw_EVENTS_k8_0 : Nat} {sw_EVENTS_k8_0 : Array (Option Value)}
    {a_EVENTS_k8_0_1 : Addr}
    {tk_EVENTS_k8_0_1_0 : Tok}
    {ow_EVENTS_k8_0_1 : Option Addr} {nw_EVENTS_k8_0_1 : Nat} {sw_EVENTS_k8_0_1 : Array (Option Value)}
    {a_EVENTS_k8_1 : Addr}
    {tk_EVENTS_k8_1_0 : Tok}
    {ow_EVENTS_k8_1 : Option Addr} {nw_EVENTS_k8_1 : Nat} {sw_EVENTS_k8_1 : Array (Option Value)}
    {a_EVENTS_k8_1_1 : Addr}
    {tk_EVENTS_k8_1_1_0 : Tok}
    {ow_EVENTS_k8_1_1 : Option Addr} {nw_EVENTS_k8_1_1 : Nat} {sw_EVENTS_k8_1_1 : Array (Option Value)}
    {a_EVENTS_k8_2 : Addr}
    {tk_EVENTS_k8_2_0 : Tok}
    {ow_EVENTS_k8_2 : Option Addr} {nw_EVENTS_k8_2 : Nat} {sw_EVENTS_k8_2 : Array (Option Value)}
    {a_EVENTS_k8_2_1 : Addr}
    {tk_EVENTS_k8_2_1_0 : Tok}
    {ow_EVENTS_k8_2_1 : Option Addr} {nw_EVENTS_k8_2_1 : Nat} {sw_EVENTS_k8_2_1 : Array (Option Value)}
    {a_EVENTS_k8_3 : Addr}
    {tk_EVENTS_k8_3_0 : Tok}
    {ow_EVENTS_k8_3 : Option Addr} {nw_EVENTS_k8_3 : Nat} {sw_EVENTS_k8_3 : Array (Option Value)}
    {a_EVENTS_k8_3_1 : Addr}
    {tk_EVENTS_k8_3_1_0 tk_EVENTS_k8_3_1_1 tk_EVENTS_k8_3_1_2 tk_EVENTS_k8_3_1_3 : Tok}
    {ow_EVENTS_k8_3_1 : Option Addr} {nw_EVENTS_k8_3_1 : Nat} {sw_EVENTS_k8_3_1 : Array (Option Value)}
    {a_EVENTS_k8_4 : Addr}
    {tk_EVENTS_k8_4_0 : Tok}
    {ow_EVENTS_k8_4 : Option Addr} {nw_EVENTS_k8_4 : Nat} {sw_EVENTS_k8_4 : Array (Option Value)}
    {a_EVENTS_k8_4_1 : Addr}
    {tk_EVENTS_k8_4_1_0 tk_EVENTS_k8_4_1_1 tk_EVENTS_k8_4_1_2 : Tok}
    {ow_EVENTS_k8_4_1 : Option Addr} {nw_EVENTS_k8_4_1 : Nat} {sw_EVENTS_k8_4_1 : Array (Option Value)}
    {a_EVENTS_k9 : Addr}
    {ow_EVENTS_k9 : Option Addr} {nw_EVENTS_k9 : Nat} {sw_EVENTS_k9 : Array (Option Value)}
    {a_EVENTS_k9_0 : Addr}
    {tk_EVENTS_k9_0_0 : Tok}
    {ow_EVENTS_k9_0 : Option Addr} {nw_EVENTS_k9_0 : Nat} {sw_EVENTS_k9_0 : Array (Option Value)}
    {a_EVENTS_k9_0_1 : Addr}
    {tk_EVENTS_k9_0_1_0 tk_EVENTS_k9_0_1_1 : Tok}
    {ow_EVENTS_k9_0_1 : Option Addr} {nw_EVENTS_k9_0_1 : Nat} {sw_EVENTS_k9_0_1 : Array (Option Value)}
    {a_EVENTS_k9_1 : Addr}
    {tk_EVENTS_k9_1_0 : Tok}
    {ow_EVENTS_k9_1 : Option Addr} {nw_EVENTS_k9_1 : Nat} {sw_EVENTS_k9_1 : Array (Option Value)}
    {a_EVENTS_k9_1_1 : Addr}
    {tk_EVENTS_k9_1_1_0 tk_EVENTS_k9_1_1_1 tk_EVENTS_k9_1_1_2 : Tok}
    {ow_EVENTS_k9_1_1 : Option Addr} {nw_EVENTS_k9_1_1 : Nat} {sw_EVENTS_k9_1_1 : Array (Option Value)}
    {a_EVENTS_k9_2 : Addr}
    {tk_EVENTS_k9_2_0 : Tok}
    {ow_EVENTS_k9_2 : Option Addr} {nw_EVENTS_k9_2 : Nat} {sw_EVENTS_k9_2 : Array (Option Value)}
    {a_EVENTS_k9_2_1 : Addr}
    {tk_EVENTS_k9_2_1_0 : Tok}
    {ow_EVENTS_k9_2_1 : Option Addr} {nw_EVENTS_k9_2_1 : Nat} {sw_EVENTS_k9_2_1 : Array (Option Value)}
    {a_EVENTS_k9_3 : Addr}
    {tk_EVENTS_k9_3_0 : Tok}
    {ow_EVENTS_k9_3 : Option Addr} {nw_EVENTS_k9_3 : Nat} {sw_EVENTS_k9_3 : Array (Option Value)}
    {a_EVENTS_k9_3_1 : Addr}
    {tk_EVENTS_k9_3_1_0 tk_EVENTS_k9_3_1_1 tk_EVENTS_k9_3_1_2 : Tok}
    {ow_EVENTS_k9_3_1 : Option Addr} {nw_EVENTS_k9_3_1 : Nat} {sw_EVENTS_k9_3_1 : Array (Option Value)}
    {a_EVENTS_k9_4 : Addr}
    {tk_EVENTS_k9_4_0 : Tok}
    {ow_EVENTS_k9_4 : Option Addr} {nw_EVENTS_k9_4 : Nat} {sw_EVENTS_k9_4 : Array (Option Value)}
    {a_EVENTS_k9_4_1 : Addr}
    {ow_EVENTS_k9_4_1 : Option Addr} {nw_EVENTS_k9_4_1 : Nat} {sw_EVENTS_k9_4_1 : Array (Option Value)}
    {a_EVENTS_k9_5 : Addr}
    {tk_EVENTS_k9_5_0 : Tok}
    {ow_EVENTS_k9_5 : Option Addr} {nw_EVENTS_k9_5 : Nat} {sw_EVENTS_k9_5 : Array (Option Value)}
    {a_EVENTS_k9_5_1 : Addr}
    {ow_EVENTS_k9_5_1 : Option Addr} {nw_EVENTS_k9_5_1 : Nat} {sw_EVENTS_k9_5_1 : Array (Option Value)}
    {a_EVENTS_k10 : Addr}
    {ow_EVENTS_k10 : Option Addr} {nw_EVENTS_k10 : Nat} {sw_EVENTS_k10 : Array (Option Value)}
    {a_EVENTS_k10_0 : Addr}
    {tk_EVENTS_k10_0_0 : Tok}
    {ow_EVENTS_k10_0 : Option Addr} {nw_EVENTS_k10_0 : Nat} {sw_EVENTS_k10_0 : Array (Option Value)}
    {a_EVENTS_k10_0_1 : Addr}
    {tk_EVENTS_k10_0_1_0 tk_EVENTS_k10_0_1_1 : Tok}
    {ow_EVENTS_k10_0_1 : Option Addr} {nw_EVENTS_k10_0_1 : Nat} {sw_EVENTS_k10_0_1 : Array (Option Value)}
    {a_EVENTS_k10_1 : Addr}
    {tk_EVENTS_k10_1_0 : Tok}
    {ow_EVENTS_k10_1 : Option Addr} {nw_EVENTS_k10_1 : Nat} {sw_EVENTS_k10_1 : Array (Option Value)}
    {a_EVENTS_k10_1_1 : Addr}
    {tk_EVENTS_k10_1_1_0 tk_EVENTS_k10_1_1_1 tk_EVENTS_k10_1_1_2 : Tok}
    {ow_EVENTS_k10_1_1 : Option Addr} {nw_EVENTS_k10_1_1 : Nat} {sw_EVENTS_k10_1_1 : Array (Option Value)}
    {a_EVENTS_k11 : Addr}
    {ow_EVENTS_k11 : Option Addr} {nw_EVENTS_k11 : Nat} {sw_EVENTS_k11 : Array (Option Value)}
    {a_EVENTS_k11_0 : Addr}
    {tk_EVENTS_k11_0_0 : Tok}
    {ow_EVENTS_k11_0 : Option Addr} {nw_EVENTS_k11_0 : Nat} {sw_EVENTS_k11_0 : Array (Option Value)}
    {a_EVENTS_k11_0_1 : Addr}
    {tk_EVENTS_k11_0_1_0 tk_EVENTS_k11_0_1_1 : Tok}
    {ow_EVENTS_k11_0_1 : Option Addr} {nw_EVENTS_k11_0_1 : Nat} {sw_EVENTS_k11_0_1 : Array (Option Value)}
    {a_EVENTS_k11_1 : Addr}
    {tk_EVENTS_k11_1_0 : Tok}
    {ow_EVENTS_k11_1 : Option Addr} {nw_EVENTS_k11_1 : Nat} {sw_EVENTS_k11_1 : Array (Option Value)}
    {a_EVENTS_k11_1_1 : Addr}
    {ow_EVENTS_k11_1_1 : Option Addr} {nw_EVENTS_k11_1_1 : Nat} {sw_EVENTS_k11_1_1 : Array (Option Value)}
    {a_EVENTS_k11_2 : Addr}
    {tk_EVENTS_k11_2_0 : Tok}
    {ow_EVENTS_k11_2 : Option Addr} {nw_EVENTS_k11_2 : Nat} {sw_EVENTS_k11_2 : Array (Option Value)}
    {a_EVENTS_k11_2_1 : Addr}
    {tk_EVENTS_k11_2_1_0 tk_EVENTS_k11_2_1_1 : Tok}
    {ow_EVENTS_k11_2_1 : Option Addr} {nw_EVENTS_k11_2_1 : Nat} {sw_EVENTS_k11_2_1 : Array (Option Value)}
    {a_EVENTS_k12 : Addr}
    {ow_EVENTS_k12 : Option Addr} {nw_EVENTS_k12 : Nat} {sw_EVENTS_k12 : Array (Option Value)}
    {a_EVENTS_k12_0 : Addr}
    {tk_EVENTS_k12_0_0 : Tok}
    {ow_EVENTS_k12_0 : Option Addr} {nw_EVENTS_k12_0 : Nat} {sw_EVENTS_k12_0 : Array (Option Value)}
    {a_EVENTS_k12_0_1 : Addr}
    {tk_EVENTS_k12_0_1_0 : Tok}
    {ow_EVENTS_k12_0_1 : Option Addr} {nw_EVENTS_k12_0_1 : Nat} {sw_EVENTS_k12_0_1 : Array (Option Value)}
    {a_EVENTS_k12_1 : Addr}
    {tk_EVENTS_k12_1_0 : Tok}
    {ow_EVENTS_k12_1 : Option Addr} {nw_EVENTS_k12_1 : Nat} {sw_EVENTS_k12_1 : Array (Option Value)}
    {a_EVENTS_k12_1_1 : Addr}
    {ow_EVENTS_k12_1_1 : Option Addr} {nw_EVENTS_k12_1_1 : Nat} {sw_EVENTS_k12_1_1 : Array (Option Value)}
    {a_EVENTS_k12_2 : Addr}
    {tk_EVENTS_k12_2_0 : Tok}
    {ow_EVENTS_k12_2 : Option Addr} {nw_EVENTS_k12_2 : Nat} {sw_EVENTS_k12_2 : Array (Option Value)}
    {a_EVENTS_k12_2_1 : Addr}
    {tk_EVENTS_k12_2_1_0 tk_EVENTS_k12_2_1_1 : Tok}
    {ow_EVENTS_k12_2_1 : Option Addr} {nw_EVENTS_k12_2_1 : Nat} {sw_EVENTS_k12_2_1 : Array (Option Value)}
    {a_EVENTS_k13 : Addr}
    {ow_EVENTS_k13 : Option Addr} {nw_EVENTS_k13 : Nat} {sw_EVENTS_k13 : Array (Option Value)}
    {a_EVENTS_k13_0 : Addr}
    {tk_EVENTS_k13_0_0 : Tok}
    {ow_EVENTS_k13_0 : Option Addr} {nw_EVENTS_k13_0 : Nat} {sw_EVENTS_k13_0 : Array (Option Value)}
    {a_EVENTS_k13_0_1 : Addr}
    {ow_EVENTS_k13_0_1 : Option Addr} {nw_EVENTS_k13_0_1 : Nat} {sw_EVENTS_k13_0_1 : Array (Option Value)}
    {a_EVENTS_k13_1 : Addr}
    {tk_EVENTS_k13_1_0 : Tok}
    {ow_EVENTS_k13_1 : Option Addr} {nw_EVENTS_k13_1 : Nat} {sw_EVENTS_k13_1 : Array (Option Value)}
    {a_EVENTS_k13_1_1 : Addr}
    {ow_EVENTS_k13_1_1 : Option Addr} {nw_EVENTS_k13_1_1 : Nat} {sw_EVENTS_k13_1_1 : Array (Option Value)}
    {COutput : Addr}
    {CRegistries : Addr}
    {CReply : Addr}
    {CRequest : Addr}
    {CBadMessage : Addr}
    {CMessageTooLong : Addr}
    {CFault : Addr}
    {nmFault qnFault : Str} {NFault : Addr} {bsFault bmFault : List Value} {snFault : List Str} {sbFault : List Value} {abFault : Bool} {coFault : Option Bool} {ddFault : Option Addr} {k0Fault k1Fault k2Fault k3Fault k5Fault : Option Value}
    (a1 : PySem.W.nsIn K mainGlobals "output_numbered" = some (some (.ref foutput_numbered)))
    (l1 : K.lookup foutput_numbered = some ⟨oc1, od1, .func (PySem.W.fnOf "output_numbered" "output_numbered" (defArgs s_output_numbered) (defBody s_output_numbered) (defScope s_output_numbered) .none kV1 dc1 pm1 an1 cd1 ct1), sl1⟩) (c1 : PySem.W.codeIn K cd1 "output_numbered" = true) (k1 : PySem.W.keepIn K (.ref foutput_numbered) = true)
    (a2 : PySem.W.nsIn K mainGlobals "global_rows" = some (some (.ref fglobal_rows)))
    (l2 : K.lookup fglobal_rows = some ⟨oc2, od2, .func (PySem.W.fnOf "global_rows" "global_rows" (defArgs s_global_rows) (defBody s_global_rows) (defScope s_global_rows) .none kV2 dc2 pm2 an2 cd2 ct2), sl2⟩) (c2 : PySem.W.codeIn K cd2 "global_rows" = true) (k2 : PySem.W.keepIn K (.ref fglobal_rows) = true)
    (a3 : PySem.W.nsIn K mainGlobals "bound_interface" = some (some (.ref fbound_interface)))
    (l3 : K.lookup fbound_interface = some ⟨oc3, od3, .func (PySem.W.fnOf "bound_interface" "bound_interface" (defArgs s_bound_interface) (defBody s_bound_interface) (defScope s_bound_interface) .none kV3 dc3 pm3 an3 cd3 ct3), sl3⟩) (c3 : PySem.W.codeIn K cd3 "bound_interface" = true) (k3 : PySem.W.keepIn K (.ref fbound_interface) = true)
    (a4 : PySem.W.nsIn K mainGlobals "_global_number" = some (some (.ref f_global_number)))
    (l4 : K.lookup f_global_number = some ⟨oc4, od4, .func (PySem.W.fnOf "_global_number" "_global_number" (defArgs s__global_number) (defBody s__global_number) (defScope s__global_number) .none kV4 dc4 pm4 an4 cd4 ct4), sl4⟩) (c4 : PySem.W.codeIn K cd4 "_global_number" = true) (k4 : PySem.W.keepIn K (.ref f_global_number) = true)
    (a5 : PySem.W.nsIn K mainGlobals "_missing_in" = some (some (.ref f_missing_in)))
    (l5 : K.lookup f_missing_in = some ⟨oc5, od5, .func (PySem.W.fnOf "_missing_in" "_missing_in" (defArgs s__missing_in) (defBody s__missing_in) (defScope s__missing_in) .none kV5 dc5 pm5 an5 cd5 ct5), sl5⟩) (c5 : PySem.W.codeIn K cd5 "_missing_in" = true) (k5 : PySem.W.keepIn K (.ref f_missing_in) = true)
    (a6 : PySem.W.nsIn K mainGlobals "_size_row" = some (some (.ref f_size_row)))
    (l6 : K.lookup f_size_row = some ⟨oc6, od6, .func (PySem.W.fnOf "_size_row" "_size_row" (defArgs s__size_row) (defBody s__size_row) (defScope s__size_row) .none kV6 dc6 pm6 an6 cd6 ct6), sl6⟩) (c6 : PySem.W.codeIn K cd6 "_size_row" = true) (k6 : PySem.W.keepIn K (.ref f_size_row) = true)
    (a7 : PySem.W.nsIn K mainGlobals "_tell_size" = some (some (.ref f_tell_size)))
    (l7 : K.lookup f_tell_size = some ⟨oc7, od7, .func (PySem.W.fnOf "_tell_size" "_tell_size" (defArgs s__tell_size) (defBody s__tell_size) (defScope s__tell_size) .none kV7 dc7 pm7 an7 cd7 ct7), sl7⟩) (c7 : PySem.W.codeIn K cd7 "_tell_size" = true) (k7 : PySem.W.keepIn K (.ref f_tell_size) = true)
    (a8 : PySem.W.nsIn K mainGlobals "is_integer" = some (some (.ref fis_integer)))
    (l8 : K.lookup fis_integer = some ⟨oc8, od8, .func (PySem.W.fnOf "is_integer" "is_integer" (defArgs s_is_integer) (defBody s_is_integer) (defScope s_is_integer) .none kV8 dc8 pm8 an8 cd8 ct8), sl8⟩) (c8 : PySem.W.codeIn K cd8 "is_integer" = true) (k8 : PySem.W.keepIn K (.ref fis_integer) = true)
    (a9 : PySem.W.nsIn K mainGlobals "is_text" = some (some (.ref fis_text)))
    (l9 : K.lookup fis_text = some ⟨oc9, od9, .func (PySem.W.fnOf "is_text" "is_text" (defArgs s_is_text) (defBody s_is_text) (defScope s_is_text) .none kV9 dc9 pm9 an9 cd9 ct9), sl9⟩) (c9 : PySem.W.codeIn K cd9 "is_text" = true) (k9 : PySem.W.keepIn K (.ref fis_text) = true)
    (a10 : PySem.W.nsIn K mainGlobals "number_octets" = some (some (.ref fnumber_octets)))
    (l10 : K.lookup fnumber_octets = some ⟨oc10, od10, .func (PySem.W.fnOf "number_octets" "number_octets" (defArgs s_number_octets) (defBody s_number_octets) (defScope s_number_octets) .none kV10 dc10 pm10 an10 cd10 ct10), sl10⟩) (c10 : PySem.W.codeIn K cd10 "number_octets" = true) (k10 : PySem.W.keepIn K (.ref fnumber_octets) = true)
    (a11 : PySem.W.nsIn K mainGlobals "field_octets" = some (some (.ref ffield_octets)))
    (l11 : K.lookup ffield_octets = some ⟨oc11, od11, .func (PySem.W.fnOf "field_octets" "field_octets" (defArgs s_field_octets) (defBody s_field_octets) (defScope s_field_octets) .none kV11 dc11 pm11 an11 cd11 ct11), sl11⟩) (c11 : PySem.W.codeIn K cd11 "field_octets" = true) (k11 : PySem.W.keepIn K (.ref ffield_octets) = true)
    (a12 : PySem.W.nsIn K mainGlobals "_is_code" = some (some (.ref f_is_code)))
    (l12 : K.lookup f_is_code = some ⟨oc12, od12, .func (PySem.W.fnOf "_is_code" "_is_code" (defArgs s__is_code) (defBody s__is_code) (defScope s__is_code) .none kV12 dc12 pm12 an12 cd12 ct12), sl12⟩) (c12 : PySem.W.codeIn K cd12 "_is_code" = true) (k12 : PySem.W.keepIn K (.ref f_is_code) = true)
    (a13 : PySem.W.nsIn K mainGlobals "_is_of" = some (some (.ref f_is_of)))
    (l13 : K.lookup f_is_of = some ⟨oc13, od13, .func (PySem.W.fnOf "_is_of" "_is_of" (defArgs s__is_of) (defBody s__is_of) (defScope s__is_of) .none kV13 dc13 pm13 an13 cd13 ct13), sl13⟩) (c13 : PySem.W.codeIn K cd13 "_is_of" = true) (k13 : PySem.W.keepIn K (.ref f_is_of) = true)
    (a14 : PySem.W.nsIn K mainGlobals "_are_octets" = some (some (.ref f_are_octets)))
    (l14 : K.lookup f_are_octets = some ⟨oc14, od14, .func (PySem.W.fnOf "_are_octets" "_are_octets" (defArgs s__are_octets) (defBody s__are_octets) (defScope s__are_octets) .none kV14 dc14 pm14 an14 cd14 ct14), sl14⟩) (c14 : PySem.W.codeIn K cd14 "_are_octets" = true) (k14 : PySem.W.keepIn K (.ref f_are_octets) = true)
    (a15 : PySem.W.nsIn K mainGlobals "_is_bound" = some (some (.ref f_is_bound)))
    (l15 : K.lookup f_is_bound = some ⟨oc15, od15, .func (PySem.W.fnOf "_is_bound" "_is_bound" (defArgs s__is_bound) (defBody s__is_bound) (defScope s__is_bound) .none kV15 dc15 pm15 an15 cd15 ct15), sl15⟩) (c15 : PySem.W.codeIn K cd15 "_is_bound" = true) (k15 : PySem.W.keepIn K (.ref f_is_bound) = true)
    (a16 : PySem.W.nsIn K mainGlobals "_text_octets" = some (some (.ref f_text_octets)))
    (l16 : K.lookup f_text_octets = some ⟨oc16, od16, .func (PySem.W.fnOf "_text_octets" "_text_octets" (defArgs s__text_octets) (defBody s__text_octets) (defScope s__text_octets) .none kV16 dc16 pm16 an16 cd16 ct16), sl16⟩) (c16 : PySem.W.codeIn K cd16 "_text_octets" = true) (k16 : PySem.W.keepIn K (.ref f_text_octets) = true)
    (a17 : PySem.W.nsIn K mainGlobals "_padded" = some (some (.ref f_padded)))
    (l17 : K.lookup f_padded = some ⟨oc17, od17, .func (PySem.W.fnOf "_padded" "_padded" (defArgs s__padded) (defBody s__padded) (defScope s__padded) .none kV17 dc17 pm17 an17 cd17 ct17), sl17⟩) (c17 : PySem.W.codeIn K cd17 "_padded" = true) (k17 : PySem.W.keepIn K (.ref f_padded) = true)
    (a18 : PySem.W.nsIn K mainGlobals "encode_message" = some (some (.ref fencode_message)))
    (l18 : K.lookup fencode_message = some ⟨oc18, od18, .func (PySem.W.fnOf "encode_message" "encode_message" (defArgs s_encode_message) (defBody s_encode_message) (defScope s_encode_message) .none kV18 dc18 pm18 an18 cd18 ct18), sl18⟩) (c18 : PySem.W.codeIn K cd18 "encode_message" = true) (k18 : PySem.W.keepIn K (.ref fencode_message) = true)
    (a19 : PySem.W.nsIn K mainGlobals "event_octets" = some (some (.ref fevent_octets)))
    (l19 : K.lookup fevent_octets = some ⟨oc19, od19, .func (PySem.W.fnOf "event_octets" "event_octets" (defArgs s_event_octets) (defBody s_event_octets) (defScope s_event_octets) .none kV19 dc19 pm19 an19 cd19 ct19), sl19⟩) (c19 : PySem.W.codeIn K cd19 "event_octets" = true) (k19 : PySem.W.keepIn K (.ref fevent_octets) = true)
    (a20 : PySem.W.nsIn K mainGlobals "_opcode_of" = some (some (.ref f_opcode_of)))
    (l20 : K.lookup f_opcode_of = some ⟨oc20, od20, .func (PySem.W.fnOf "_opcode_of" "_opcode_of" (defArgs s__opcode_of) (defBody s__opcode_of) (defScope s__opcode_of) .none kV20 dc20 pm20 an20 cd20 ct20), sl20⟩) (c20 : PySem.W.codeIn K cd20 "_opcode_of" = true) (k20 : PySem.W.keepIn K (.ref f_opcode_of) = true)
    (a21 : PySem.W.nsIn K mainGlobals "_law_cell" = some (some (.ref f_law_cell)))
    (l21 : K.lookup f_law_cell = some ⟨oc21, od21, .func (PySem.W.fnOf "_law_cell" "_law_cell" (defArgs s__law_cell) (defBody s__law_cell) (defScope s__law_cell) .none kV21 dc21 pm21 an21 cd21 ct21), sl21⟩) (c21 : PySem.W.codeIn K cd21 "_law_cell" = true) (k21 : PySem.W.keepIn K (.ref f_law_cell) = true)
    (a22 : PySem.W.nsIn K mainGlobals "_law_row" = some (some (.ref f_law_row)))
    (l22 : K.lookup f_law_row = some ⟨oc22, od22, .func (PySem.W.fnOf "_law_row" "_law_row" (defArgs s__law_row) (defBody s__law_row) (defScope s__law_row) .none kV22 dc22 pm22 an22 cd22 ct22), sl22⟩) (c22 : PySem.W.codeIn K cd22 "_law_row" = true) (k22 : PySem.W.keepIn K (.ref f_law_row) = true)
    (a23 : PySem.W.nsIn K mainGlobals "_law_output" = some (some (.ref f_law_output)))
    (l23 : K.lookup f_law_output = some ⟨oc23, od23, .func (PySem.W.fnOf "_law_output" "_law_output" (defArgs s__law_output) (defBody s__law_output) (defScope s__law_output) .none kV23 dc23 pm23 an23 cd23 ct23), sl23⟩) (c23 : PySem.W.codeIn K cd23 "_law_output" = true) (k23 : PySem.W.keepIn K (.ref f_law_output) = true)
    (a24 : PySem.W.nsIn K mainGlobals "_law_outputs" = some (some (.ref f_law_outputs)))
    (l24 : K.lookup f_law_outputs = some ⟨oc24, od24, .func (PySem.W.fnOf "_law_outputs" "_law_outputs" (defArgs s__law_outputs) (defBody s__law_outputs) (defScope s__law_outputs) .none kV24 dc24 pm24 an24 cd24 ct24), sl24⟩) (c24 : PySem.W.codeIn K cd24 "_law_outputs" = true) (k24 : PySem.W.keepIn K (.ref f_law_outputs) = true)
    (a25 : PySem.W.nsIn K mainGlobals "_law_size" = some (some (.ref f_law_size)))
    (l25 : K.lookup f_law_size = some ⟨oc25, od25, .func (PySem.W.fnOf "_law_size" "_law_size" (defArgs s__law_size) (defBody s__law_size) (defScope s__law_size) .none kV25 dc25 pm25 an25 cd25 ct25), sl25⟩) (c25 : PySem.W.codeIn K cd25 "_law_size" = true) (k25 : PySem.W.keepIn K (.ref f_law_size) = true)
    (a26 : PySem.W.nsIn K mainGlobals "_law_other" = some (some (.ref f_law_other)))
    (l26 : K.lookup f_law_other = some ⟨oc26, od26, .func (PySem.W.fnOf "_law_other" "_law_other" (defArgs s__law_other) (defBody s__law_other) (defScope s__law_other) .none kV26 dc26 pm26 an26 cd26 ct26), sl26⟩) (c26 : PySem.W.codeIn K cd26 "_law_other" = true) (k26 : PySem.W.keepIn K (.ref f_law_other) = true)
    (a27 : PySem.W.nsIn K mainGlobals "_law_numbers" = some (some (.ref f_law_numbers)))
    (l27 : K.lookup f_law_numbers = some ⟨oc27, od27, .func (PySem.W.fnOf "_law_numbers" "_law_numbers" (defArgs s__law_numbers) (defBody s__law_numbers) (defScope s__law_numbers) .none kV27 dc27 pm27 an27 cd27 ct27), sl27⟩) (c27 : PySem.W.codeIn K cd27 "_law_numbers" = true) (k27 : PySem.W.keepIn K (.ref f_law_numbers) = true)
    (a28 : PySem.W.nsIn K mainGlobals "_law_by" = some (some (.ref f_law_by)))
    (l28 : K.lookup f_law_by = some ⟨oc28, od28, .func (PySem.W.fnOf "_law_by" "_law_by" (defArgs s__law_by) (defBody s__law_by) (defScope s__law_by) .none kV28 dc28 pm28 an28 cd28 ct28), sl28⟩) (c28 : PySem.W.codeIn K cd28 "_law_by" = true) (k28 : PySem.W.keepIn K (.ref f_law_by) = true)
    (a29 : PySem.W.nsIn K mainGlobals "_law_due" = some (some (.ref f_law_due)))
    (l29 : K.lookup f_law_due = some ⟨oc29, od29, .func (PySem.W.fnOf "_law_due" "_law_due" (defArgs s__law_due) (defBody s__law_due) (defScope s__law_due) .none kV29 dc29 pm29 an29 cd29 ct29), sl29⟩) (c29 : PySem.W.codeIn K cd29 "_law_due" = true) (k29 : PySem.W.keepIn K (.ref f_law_due) = true)
    (a30 : PySem.W.nsIn K mainGlobals "_law_begin" = some (some (.ref f_law_begin)))
    (l30 : K.lookup f_law_begin = some ⟨oc30, od30, .func (PySem.W.fnOf "_law_begin" "_law_begin" (defArgs s__law_begin) (defBody s__law_begin) (defScope s__law_begin) .none kV30 dc30 pm30 an30 cd30 ct30), sl30⟩) (c30 : PySem.W.codeIn K cd30 "_law_begin" = true) (k30 : PySem.W.keepIn K (.ref f_law_begin) = true)
    (a31 : PySem.W.nsIn K mainGlobals "law" = some (some (.ref flaw)))
    (l31 : K.lookup flaw = some ⟨oc31, od31, .func (PySem.W.fnOf "law" "law" (defArgs s_law) (defBody s_law) (defScope s_law) .none kV31 dc31 pm31 an31 cd31 ct31), sl31⟩) (c31 : PySem.W.codeIn K cd31 "law" = true) (k31 : PySem.W.keepIn K (.ref flaw) = true)
    (a32 : PySem.W.findIn K (.ref CFault) "__init__" = some (some (.ref fFault___init__)))
    (i32 : PySem.W.isFn K (.ref fFault___init__) = true)
    (l32 : K.lookup fFault___init__ = some ⟨oc32, od32, .func (PySem.W.fnX "__init__" "Fault.__init__" (defArgs s_Fault___init__) (defBody s_Fault___init__) (defScope s_Fault___init__) [("__class__", cc32)] .none kV32 dc32 pm32 an32 (.ref cda32) ct32), sl32⟩) (c32 : PySem.W.codeIn K (.ref cda32) "Fault.__init__" = true) (k32 : PySem.W.keepIn K (.ref fFault___init__) = true)
    (lc32 : K.lookup cc32 = some ⟨cl32, cld32, .cell (some (.ref CFault)), csl32⟩) (ld32 : K.lookup cda32 = some ⟨ccl32, cdd32, .fields fvs32, ccs32⟩) (rv32 : fvs32[2]? = some (.str "/claim/cut.py" tf32)) (lD32 : PySem.W.clsIn K CFault = some cdD32) (ty32 : PySem.W.typeIn K (.ref fFault___init__) = some (.type "function"))
    (a33 : PySem.W.findIn K (.ref COutput) "__init__" = some (some (.ref fOutput___init__)))
    (i33 : PySem.W.isFn K (.ref fOutput___init__) = true)
    (l33 : K.lookup fOutput___init__ = some ⟨oc33, od33, .func (PySem.W.fnOf "__init__" "Output.__init__" (defArgs s_Output___init__) (defBody s_Output___init__) (defScope s_Output___init__) .none kV33 dc33 pm33 an33 cd33 ct33), sl33⟩) (c33 : PySem.W.codeIn K cd33 "Output.__init__" = true) (k33 : PySem.W.keepIn K (.ref fOutput___init__) = true)
    (a34 : PySem.W.findIn K (.ref CRegistries) "__init__" = some (some (.ref fRegistries___init__)))
    (i34 : PySem.W.isFn K (.ref fRegistries___init__) = true)
    (l34 : K.lookup fRegistries___init__ = some ⟨oc34, od34, .func (PySem.W.fnOf "__init__" "Registries.__init__" (defArgs s_Registries___init__) (defBody s_Registries___init__) (defScope s_Registries___init__) .none kV34 dc34 pm34 an34 cd34 ct34), sl34⟩) (c34 : PySem.W.codeIn K cd34 "Registries.__init__" = true) (k34 : PySem.W.keepIn K (.ref fRegistries___init__) = true)
    (a35 : PySem.W.findIn K (.ref CRegistries) "serve" = some (some (.ref fRegistries_serve)))
    (i35 : PySem.W.isFn K (.ref fRegistries_serve) = true)
    (l35 : K.lookup fRegistries_serve = some ⟨oc35, od35, .func (PySem.W.fnOf "serve" "Registries.serve" (defArgs s_Registries_serve) (defBody s_Registries_serve) (defScope s_Registries_serve) .none kV35 dc35 pm35 an35 cd35 ct35), sl35⟩) (c35 : PySem.W.codeIn K cd35 "Registries.serve" = true) (k35 : PySem.W.keepIn K (.ref fRegistries_serve) = true)
    (a36 : PySem.W.findIn K (.ref CRegistries) "changed" = some (some (.ref fRegistries_changed)))
    (i36 : PySem.W.isFn K (.ref fRegistries_changed) = true)
    (l36 : K.lookup fRegistries_changed = some ⟨oc36, od36, .func (PySem.W.fnOf "changed" "Registries.changed" (defArgs s_Registries_changed) (defBody s_Registries_changed) (defScope s_Registries_changed) .none kV36 dc36 pm36 an36 cd36 ct36), sl36⟩) (c36 : PySem.W.codeIn K cd36 "Registries.changed" = true) (k36 : PySem.W.keepIn K (.ref fRegistries_changed) = true)
    (a37 : PySem.W.findIn K (.ref CRegistries) "forget" = some (some (.ref fRegistries_forget)))
    (i37 : PySem.W.isFn K (.ref fRegistries_forget) = true)
    (l37 : K.lookup fRegistries_forget = some ⟨oc37, od37, .func (PySem.W.fnOf "forget" "Registries.forget" (defArgs s_Registries_forget) (defBody s_Registries_forget) (defScope s_Registries_forget) .none kV37 dc37 pm37 an37 cd37 ct37), sl37⟩) (c37 : PySem.W.codeIn K cd37 "Registries.forget" = true) (k37 : PySem.W.keepIn K (.ref fRegistries_forget) = true)
    (a38 : PySem.W.findIn K (.ref CRegistries) "_open_registry" = some (some (.ref fRegistries__open_registry)))
    (i38 : PySem.W.isFn K (.ref fRegistries__open_registry) = true)
    (l38 : K.lookup fRegistries__open_registry = some ⟨oc38, od38, .func (PySem.W.fnOf "_open_registry" "Registries._open_registry" (defArgs s_Registries__open_registry) (defBody s_Registries__open_registry) (defScope s_Registries__open_registry) .none kV38 dc38 pm38 an38 cd38 ct38), sl38⟩) (c38 : PySem.W.codeIn K cd38 "Registries._open_registry" = true) (k38 : PySem.W.keepIn K (.ref fRegistries__open_registry) = true)
    (a39 : PySem.W.findIn K (.ref CRegistries) "_bind" = some (some (.ref fRegistries__bind)))
    (i39 : PySem.W.isFn K (.ref fRegistries__bind) = true)
    (l39 : K.lookup fRegistries__bind = some ⟨oc39, od39, .func (PySem.W.fnOf "_bind" "Registries._bind" (defArgs s_Registries__bind) (defBody s_Registries__bind) (defScope s_Registries__bind) .none kV39 dc39 pm39 an39 cd39 ct39), sl39⟩) (c39 : PySem.W.codeIn K cd39 "Registries._bind" = true) (k39 : PySem.W.keepIn K (.ref fRegistries__bind) = true)
    (a40 : PySem.W.findIn K (.ref CReply) "__init__" = some (some (.ref fReply___init__)))
    (i40 : PySem.W.isFn K (.ref fReply___init__) = true)
    (l40 : K.lookup fReply___init__ = some ⟨oc40, od40, .func (PySem.W.fnOf "__init__" "Reply.__init__" (defArgs s_Reply___init__) (defBody s_Reply___init__) (defScope s_Reply___init__) .none kV40 dc40 pm40 an40 cd40 ct40), sl40⟩) (c40 : PySem.W.codeIn K cd40 "Reply.__init__" = true) (k40 : PySem.W.keepIn K (.ref fReply___init__) = true)
    (a41 : PySem.W.findIn K (.ref CReply) "tell" = some (some (.ref fReply_tell)))
    (i41 : PySem.W.isFn K (.ref fReply_tell) = true)
    (l41 : K.lookup fReply_tell = some ⟨oc41, od41, .func (PySem.W.fnOf "tell" "Reply.tell" (defArgs s_Reply_tell) (defBody s_Reply_tell) (defScope s_Reply_tell) .none kV41 dc41 pm41 an41 cd41 ct41), sl41⟩) (c41 : PySem.W.codeIn K cd41 "Reply.tell" = true) (k41 : PySem.W.keepIn K (.ref fReply_tell) = true)
    (a42 : PySem.W.findIn K (.ref CReply) "end" = some (some (.ref fReply_end)))
    (i42 : PySem.W.isFn K (.ref fReply_end) = true)
    (l42 : K.lookup fReply_end = some ⟨oc42, od42, .func (PySem.W.fnOf "end" "Reply.end" (defArgs s_Reply_end) (defBody s_Reply_end) (defScope s_Reply_end) .none kV42 dc42 pm42 an42 cd42 ct42), sl42⟩) (c42 : PySem.W.codeIn K cd42 "Reply.end" = true) (k42 : PySem.W.keepIn K (.ref fReply_end) = true)
    (a43 : PySem.W.findIn K (.ref CRequest) "__init__" = some (some (.ref fRequest___init__)))
    (i43 : PySem.W.isFn K (.ref fRequest___init__) = true)
    (l43 : K.lookup fRequest___init__ = some ⟨oc43, od43, .func (PySem.W.fnOf "__init__" "Request.__init__" (defArgs s_Request___init__) (defBody s_Request___init__) (defScope s_Request___init__) .none kV43 dc43 pm43 an43 cd43 ct43), sl43⟩) (c43 : PySem.W.codeIn K cd43 "Request.__init__" = true) (k43 : PySem.W.keepIn K (.ref fRequest___init__) = true)
    (z_all : PySem.W.nsIn K mainGlobals "all" = some none)
    (z_bool : PySem.W.nsIn K mainGlobals "bool" = some none)
    (z_int : PySem.W.nsIn K mainGlobals "int" = some none)
    (z_isinstance : PySem.W.nsIn K mainGlobals "isinstance" = some none)
    (z_len : PySem.W.nsIn K mainGlobals "len" = some none)
    (z_list : PySem.W.nsIn K mainGlobals "list" = some none)
    (z_min : PySem.W.nsIn K mainGlobals "min" = some none)
    (z_ord : PySem.W.nsIn K mainGlobals "ord" = some none)
    (z_range : PySem.W.nsIn K mainGlobals "range" = some none)
    (z_str : PySem.W.nsIn K mainGlobals "str" = some none)
    (z_super : PySem.W.nsIn K mainGlobals "super" = some none)
    (z_tuple : PySem.W.nsIn K mainGlobals "tuple" = some none)
    (z_zip : PySem.W.nsIn K mainGlobals "zip" = some none)
    (q__GLOBALS : PySem.W.nsIn K mainGlobals "_GLOBALS" = some (some (.ref a_GLOBALS)))
    (w_GLOBALS : K.lookup a_GLOBALS = some ⟨.type "tuple", ow_GLOBALS, .seq #[.ref a_GLOBALS_0, .ref a_GLOBALS_1, .ref a_GLOBALS_2, .ref a_GLOBALS_3, .ref a_GLOBALS_4, .ref a_GLOBALS_5] nw_GLOBALS, sw_GLOBALS⟩)
    (w_GLOBALS_0 : K.lookup a_GLOBALS_0 = some ⟨.type "tuple", ow_GLOBALS_0, .seq #[.int (1) tk_GLOBALS_0_0, .str "memory" tk_GLOBALS_0_1] nw_GLOBALS_0, sw_GLOBALS_0⟩)
    (w_GLOBALS_1 : K.lookup a_GLOBALS_1 = some ⟨.type "tuple", ow_GLOBALS_1, .seq #[.int (2) tk_GLOBALS_1_0, .str "compositor" tk_GLOBALS_1_1] nw_GLOBALS_1, sw_GLOBALS_1⟩)
    (w_GLOBALS_2 : K.lookup a_GLOBALS_2 = some ⟨.type "tuple", ow_GLOBALS_2, .seq #[.int (3) tk_GLOBALS_2_0, .str "joiner" tk_GLOBALS_2_1] nw_GLOBALS_2, sw_GLOBALS_2⟩)
    (w_GLOBALS_3 : K.lookup a_GLOBALS_3 = some ⟨.type "tuple", ow_GLOBALS_3, .seq #[.int (4) tk_GLOBALS_3_0, .str "windows" tk_GLOBALS_3_1] nw_GLOBALS_3, sw_GLOBALS_3⟩)
    (w_GLOBALS_4 : K.lookup a_GLOBALS_4 = some ⟨.type "tuple", ow_GLOBALS_4, .seq #[.int (5) tk_GLOBALS_4_0, .str "seat" tk_GLOBALS_4_1] nw_GLOBALS_4, sw_GLOBALS_4⟩)
    (w_GLOBALS_5 : K.lookup a_GLOBALS_5 = some ⟨.type "tuple", ow_GLOBALS_5, .seq #[.int (6) tk_GLOBALS_5_0, .str "transfer" tk_GLOBALS_5_1] nw_GLOBALS_5, sw_GLOBALS_5⟩)
    (q__FIRST_OUTPUT : PySem.W.nsIn K mainGlobals "_FIRST_OUTPUT" = some (some (.int (16) t_FIRST_OUTPUT)))
    (q_GREATEST_NUMBER : PySem.W.nsIn K mainGlobals "GREATEST_NUMBER" = some (some (.int (4294967295) tGREATEST_NUMBER)))
    (q_LEAST_INT : PySem.W.nsIn K mainGlobals "LEAST_INT" = some (some (.int (-2147483648) tLEAST_INT)))
    (q_GREATEST_INT : PySem.W.nsIn K mainGlobals "GREATEST_INT" = some (some (.int (2147483647) tGREATEST_INT)))
    (q_LONGEST_TEXT : PySem.W.nsIn K mainGlobals "LONGEST_TEXT" = some (some (.int (1000) tLONGEST_TEXT)))
    (q_MOST_OCTETS : PySem.W.nsIn K mainGlobals "MOST_OCTETS" = some (some (.int (16384) tMOST_OCTETS)))
    (q__FIRST_CODE : PySem.W.nsIn K mainGlobals "_FIRST_CODE" = some (some (.int (32) t_FIRST_CODE)))
    (q__LAST_CODE : PySem.W.nsIn K mainGlobals "_LAST_CODE" = some (some (.int (126) t_LAST_CODE)))
    (q__PERCENT_CODE : PySem.W.nsIn K mainGlobals "_PERCENT_CODE" = some (some (.int (37) t_PERCENT_CODE)))
    (q_HEADER_SIZE : PySem.W.nsIn K mainGlobals "HEADER_SIZE" = some (some (.int (8) tHEADER_SIZE)))
    (q_GREATEST_SIZE : PySem.W.nsIn K mainGlobals "GREATEST_SIZE" = some (some (.int (20480) tGREATEST_SIZE)))
    (q_GREATEST_OPCODE : PySem.W.nsIn K mainGlobals "GREATEST_OPCODE" = some (some (.int (65535) tGREATEST_OPCODE)))
    (q_MOST_ARGUMENTS : PySem.W.nsIn K mainGlobals "MOST_ARGUMENTS" = some (some (.int (20) tMOST_ARGUMENTS)))
    (q__EVENTS : PySem.W.nsIn K mainGlobals "_EVENTS" = some (some (.ref a_EVENTS)))
    (dl_EVENTS : K.lookup a_EVENTS = some ⟨.type "dict", none, .dict es_EVENTS nn_EVENTS, #[]⟩) (dk_EVENTS : PySem.W.KeysLit w.params es_EVENTS.toList)
    (de_EVENTS_k0 : PySem.W.nsIn K a_EVENTS "display" = some (some (.ref a_EVENTS_k0)))
    (de_EVENTS_k1 : PySem.W.nsIn K a_EVENTS "callback" = some (some (.ref a_EVENTS_k1)))
    (de_EVENTS_k2 : PySem.W.nsIn K a_EVENTS "registry" = some (some (.ref a_EVENTS_k2)))
    (de_EVENTS_k3 : PySem.W.nsIn K a_EVENTS "buffer" = some (some (.ref a_EVENTS_k3)))
    (de_EVENTS_k4 : PySem.W.nsIn K a_EVENTS "output" = some (some (.ref a_EVENTS_k4)))
    (de_EVENTS_k5 : PySem.W.nsIn K a_EVENTS "window" = some (some (.ref a_EVENTS_k5)))
    (de_EVENTS_k6 : PySem.W.nsIn K a_EVENTS "popup" = some (some (.ref a_EVENTS_k6)))
    (de_EVENTS_k7 : PySem.W.nsIn K a_EVENTS "pointer" = some (some (.ref a_EVENTS_k7)))
    (de_EVENTS_k8 : PySem.W.nsIn K a_EVENTS "keyboard" = some (some (.ref a_EVENTS_k8)))
    (de_EVENTS_k9 : PySem.W.nsIn K a_EVENTS "transfer" = some (some (.ref a_EVENTS_k9)))
    (de_EVENTS_k10 : PySem.W.nsIn K a_EVENTS "offer" = some (some (.ref a_EVENTS_k10)))
    (de_EVENTS_k11 : PySem.W.nsIn K a_EVENTS "capture" = some (some (.ref a_EVENTS_k11)))
    (de_EVENTS_k12 : PySem.W.nsIn K a_EVENTS "fetch" = some (some (.ref a_EVENTS_k12)))
    (de_EVENTS_k13 : PySem.W.nsIn K a_EVENTS "watch" = some (some (.ref a_EVENTS_k13)))
    (w_EVENTS_k0 : K.lookup a_EVENTS_k0 = some ⟨.type "tuple", ow_EVENTS_k0, .seq #[.ref a_EVENTS_k0_0, .ref a_EVENTS_k0_1] nw_EVENTS_k0, sw_EVENTS_k0⟩)
    (w_EVENTS_k0_0 : K.lookup a_EVENTS_k0_0 = some ⟨.type "tuple", ow_EVENTS_k0_0, .seq #[.str "error" tk_EVENTS_k0_0_0, .ref a_EVENTS_k0_0_1] nw_EVENTS_k0_0, sw_EVENTS_k0_0⟩)
    (w_EVENTS_k0_0_1 : K.lookup a_EVENTS_k0_0_1 = some ⟨.type "tuple", ow_EVENTS_k0_0_1, .seq #[.str "uint" tk_EVENTS_k0_0_1_0, .str "uint" tk_EVENTS_k0_0_1_1, .str "text" tk_EVENTS_k0_0_1_2] nw_EVENTS_k0_0_1, sw_EVENTS_k0_0_1⟩)
    (w_EVENTS_k0_1 : K.lookup a_EVENTS_k0_1 = some ⟨.type "tuple", ow_EVENTS_k0_1, .seq #[.str "removed" tk_EVENTS_k0_1_0, .ref a_EVENTS_k0_1_1] nw_EVENTS_k0_1, sw_EVENTS_k0_1⟩)
    (w_EVENTS_k0_1_1 : K.lookup a_EVENTS_k0_1_1 = some ⟨.type "tuple", ow_EVENTS_k0_1_1, .seq #[.str "uint" tk_EVENTS_k0_1_1_0] nw_EVENTS_k0_1_1, sw_EVENTS_k0_1_1⟩)
    (w_EVENTS_k1 : K.lookup a_EVENTS_k1 = some ⟨.type "tuple", ow_EVENTS_k1, .seq #[.ref a_EVENTS_k1_0] nw_EVENTS_k1, sw_EVENTS_k1⟩)
    (w_EVENTS_k1_0 : K.lookup a_EVENTS_k1_0 = some ⟨.type "tuple", ow_EVENTS_k1_0, .seq #[.str "done" tk_EVENTS_k1_0_0, .ref a_EVENTS_k1_0_1] nw_EVENTS_k1_0, sw_EVENTS_k1_0⟩)
    (w_EVENTS_k1_0_1 : K.lookup a_EVENTS_k1_0_1 = some ⟨.type "tuple", ow_EVENTS_k1_0_1, .seq #[.str "uint" tk_EVENTS_k1_0_1_0] nw_EVENTS_k1_0_1, sw_EVENTS_k1_0_1⟩)
    (w_EVENTS_k2 : K.lookup a_EVENTS_k2 = some ⟨.type "tuple", ow_EVENTS_k2, .seq #[.ref a_EVENTS_k2_0, .ref a_EVENTS_k2_1] nw_EVENTS_k2, sw_EVENTS_k2⟩)
    (w_EVENTS_k2_0 : K.lookup a_EVENTS_k2_0 = some ⟨.type "tuple", ow_EVENTS_k2_0, .seq #[.str "there" tk_EVENTS_k2_0_0, .ref a_EVENTS_k2_0_1] nw_EVENTS_k2_0, sw_EVENTS_k2_0⟩)
    (w_EVENTS_k2_0_1 : K.lookup a_EVENTS_k2_0_1 = some ⟨.type "tuple", ow_EVENTS_k2_0_1, .seq #[.str "uint" tk_EVENTS_k2_0_1_0, .str "text" tk_EVENTS_k2_0_1_1] nw_EVENTS_k2_0_1, sw_EVENTS_k2_0_1⟩)
    (w_EVENTS_k2_1 : K.lookup a_EVENTS_k2_1 = some ⟨.type "tuple", ow_EVENTS_k2_1, .seq #[.str "gone" tk_EVENTS_k2_1_0, .ref a_EVENTS_k2_1_1] nw_EVENTS_k2_1, sw_EVENTS_k2_1⟩)
    (w_EVENTS_k2_1_1 : K.lookup a_EVENTS_k2_1_1 = some ⟨.type "tuple", ow_EVENTS_k2_1_1, .seq #[.str "uint" tk_EVENTS_k2_1_1_0] nw_EVENTS_k2_1_1, sw_EVENTS_k2_1_1⟩)
    (w_EVENTS_k3 : K.lookup a_EVENTS_k3 = some ⟨.type "tuple", ow_EVENTS_k3, .seq #[.ref a_EVENTS_k3_0] nw_EVENTS_k3, sw_EVENTS_k3⟩)
    (w_EVENTS_k3_0 : K.lookup a_EVENTS_k3_0 = some ⟨.type "tuple", ow_EVENTS_k3_0, .seq #[.str "release" tk_EVENTS_k3_0_0, .ref a_EVENTS_k3_0_1] nw_EVENTS_k3_0, sw_EVENTS_k3_0⟩)
    (w_EVENTS_k3_0_1 : K.lookup a_EVENTS_k3_0_1 = some ⟨.type "tuple", ow_EVENTS_k3_0_1, .seq #[] nw_EVENTS_k3_0_1, sw_EVENTS_k3_0_1⟩)
    (w_EVENTS_k4 : K.lookup a_EVENTS_k4 = some ⟨.type "tuple", ow_EVENTS_k4, .seq #[.ref a_EVENTS_k4_0] nw_EVENTS_k4, sw_EVENTS_k4⟩)
    (w_EVENTS_k4_0 : K.lookup a_EVENTS_k4_0 = some ⟨.type "tuple", ow_EVENTS_k4_0, .seq #[.str "size" tk_EVENTS_k4_0_0, .ref a_EVENTS_k4_0_1] nw_EVENTS_k4_0, sw_EVENTS_k4_0⟩)
    (w_EVENTS_k4_0_1 : K.lookup a_EVENTS_k4_0_1 = some ⟨.type "tuple", ow_EVENTS_k4_0_1, .seq #[.str "uint" tk_EVENTS_k4_0_1_0, .str "uint" tk_EVENTS_k4_0_1_1, .str "uint" tk_EVENTS_k4_0_1_2, .str "uint" tk_EVENTS_k4_0_1_3] nw_EVENTS_k4_0_1, sw_EVENTS_k4_0_1⟩)
    (w_EVENTS_k5 : K.lookup a_EVENTS_k5 = some ⟨.type "tuple", ow_EVENTS_k5, .seq #[.ref a_EVENTS_k5_0, .ref a_EVENTS_k5_1, .ref a_EVENTS_k5_2, .ref a_EVENTS_k5_3] nw_EVENTS_k5, sw_EVENTS_k5⟩)
    (w_EVENTS_k5_0 : K.lookup a_EVENTS_k5_0 = some ⟨.type "tuple", ow_EVENTS_k5_0, .seq #[.str "configure" tk_EVENTS_k5_0_0, .ref a_EVENTS_k5_0_1] nw_EVENTS_k5_0, sw_EVENTS_k5_0⟩)
    (w_EVENTS_k5_0_1 : K.lookup a_EVENTS_k5_0_1 = some ⟨.type "tuple", ow_EVENTS_k5_0_1, .seq #[.str "uint" tk_EVENTS_k5_0_1_0, .str "uint" tk_EVENTS_k5_0_1_1, .str "uint" tk_EVENTS_k5_0_1_2, .str "uint" tk_EVENTS_k5_0_1_3] nw_EVENTS_k5_0_1, sw_EVENTS_k5_0_1⟩)
    (w_EVENTS_k5_1 : K.lookup a_EVENTS_k5_1 = some ⟨.type "tuple", ow_EVENTS_k5_1, .seq #[.str "close" tk_EVENTS_k5_1_0, .ref a_EVENTS_k5_1_1] nw_EVENTS_k5_1, sw_EVENTS_k5_1⟩)
    (w_EVENTS_k5_1_1 : K.lookup a_EVENTS_k5_1_1 = some ⟨.type "tuple", ow_EVENTS_k5_1_1, .seq #[] nw_EVENTS_k5_1_1, sw_EVENTS_k5_1_1⟩)
    (w_EVENTS_k5_2 : K.lookup a_EVENTS_k5_2 = some ⟨.type "tuple", ow_EVENTS_k5_2, .seq #[.str "output" tk_EVENTS_k5_2_0, .ref a_EVENTS_k5_2_1] nw_EVENTS_k5_2, sw_EVENTS_k5_2⟩)
    (w_EVENTS_k5_2_1 : K.lookup a_EVENTS_k5_2_1 = some ⟨.type "tuple", ow_EVENTS_k5_2_1, .seq #[.str "uint" tk_EVENTS_k5_2_1_0] nw_EVENTS_k5_2_1, sw_EVENTS_k5_2_1⟩)
    (w_EVENTS_k5_3 : K.lookup a_EVENTS_k5_3 = some ⟨.type "tuple", ow_EVENTS_k5_3, .seq #[.str "left" tk_EVENTS_k5_3_0, .ref a_EVENTS_k5_3_1] nw_EVENTS_k5_3, sw_EVENTS_k5_3⟩)
    (w_EVENTS_k5_3_1 : K.lookup a_EVENTS_k5_3_1 = some ⟨.type "tuple", ow_EVENTS_k5_3_1, .seq #[.str "uint" tk_EVENTS_k5_3_1_0] nw_EVENTS_k5_3_1, sw_EVENTS_k5_3_1⟩)
    (w_EVENTS_k6 : K.lookup a_EVENTS_k6 = some ⟨.type "tuple", ow_EVENTS_k6, .seq #[.ref a_EVENTS_k6_0, .ref a_EVENTS_k6_1] nw_EVENTS_k6, sw_EVENTS_k6⟩)
    (w_EVENTS_k6_0 : K.lookup a_EVENTS_k6_0 = some ⟨.type "tuple", ow_EVENTS_k6_0, .seq #[.str "placed" tk_EVENTS_k6_0_0, .ref a_EVENTS_k6_0_1] nw_EVENTS_k6_0, sw_EVENTS_k6_0⟩)
    (w_EVENTS_k6_0_1 : K.lookup a_EVENTS_k6_0_1 = some ⟨.type "tuple", ow_EVENTS_k6_0_1, .seq #[.str "int" tk_EVENTS_k6_0_1_0, .str "int" tk_EVENTS_k6_0_1_1, .str "uint" tk_EVENTS_k6_0_1_2, .str "uint" tk_EVENTS_k6_0_1_3] nw_EVENTS_k6_0_1, sw_EVENTS_k6_0_1⟩)
    (w_EVENTS_k6_1 : K.lookup a_EVENTS_k6_1 = some ⟨.type "tuple", ow_EVENTS_k6_1, .seq #[.str "done" tk_EVENTS_k6_1_0, .ref a_EVENTS_k6_1_1] nw_EVENTS_k6_1, sw_EVENTS_k6_1⟩)
    (w_EVENTS_k6_1_1 : K.lookup a_EVENTS_k6_1_1 = some ⟨.type "tuple", ow_EVENTS_k6_1_1, .seq #[] nw_EVENTS_k6_1_1, sw_EVENTS_k6_1_1⟩)
    (w_EVENTS_k7 : K.lookup a_EVENTS_k7 = some ⟨.type "tuple", ow_EVENTS_k7, .seq #[.ref a_EVENTS_k7_0, .ref a_EVENTS_k7_1, .ref a_EVENTS_k7_2, .ref a_EVENTS_k7_3, .ref a_EVENTS_k7_4] nw_EVENTS_k7, sw_EVENTS_k7⟩)
    (w_EVENTS_k7_0 : K.lookup a_EVENTS_k7_0 = some ⟨.type "tuple", ow_EVENTS_k7_0, .seq #[.str "enter" tk_EVENTS_k7_0_0, .ref a_EVENTS_k7_0_1] nw_EVENTS_k7_0, sw_EVENTS_k7_0⟩)
    (w_EVENTS_k7_0_1 : K.lookup a_EVENTS_k7_0_1 = some ⟨.type "tuple", ow_EVENTS_k7_0_1, .seq #[.str "object" tk_EVENTS_k7_0_1_0, .str "int" tk_EVENTS_k7_0_1_1, .str "int" tk_EVENTS_k7_0_1_2] nw_EVENTS_k7_0_1, sw_EVENTS_k7_0_1⟩)
    (w_EVENTS_k7_1 : K.lookup a_EVENTS_k7_1 = some ⟨.type "tuple", ow_EVENTS_k7_1, .seq #[.str "leave" tk_EVENTS_k7_1_0, .ref a_EVENTS_k7_1_1] nw_EVENTS_k7_1, sw_EVENTS_k7_1⟩)
    (w_EVENTS_k7_1_1 : K.lookup a_EVENTS_k7_1_1 = some ⟨.type "tuple", ow_EVENTS_k7_1_1, .seq #[.str "object" tk_EVENTS_k7_1_1_0] nw_EVENTS_k7_1_1, sw_EVENTS_k7_1_1⟩)
    (w_EVENTS_k7_2 : K.lookup a_EVENTS_k7_2 = some ⟨.type "tuple", ow_EVENTS_k7_2, .seq #[.str "motion" tk_EVENTS_k7_2_0, .ref a_EVENTS_k7_2_1] nw_EVENTS_k7_2, sw_EVENTS_k7_2⟩)
    (w_EVENTS_k7_2_1 : K.lookup a_EVENTS_k7_2_1 = some ⟨.type "tuple", ow_EVENTS_k7_2_1, .seq #[.str "int" tk_EVENTS_k7_2_1_0, .str "int" tk_EVENTS_k7_2_1_1, .str "uint" tk_EVENTS_k7_2_1_2] nw_EVENTS_k7_2_1, sw_EVENTS_k7_2_1⟩)
    (w_EVENTS_k7_3 : K.lookup a_EVENTS_k7_3 = some ⟨.type "tuple", ow_EVENTS_k7_3, .seq #[.str "button" tk_EVENTS_k7_3_0, .ref a_EVENTS_k7_3_1] nw_EVENTS_k7_3, sw_EVENTS_k7_3⟩)
    (w_EVENTS_k7_3_1 : K.lookup a_EVENTS_k7_3_1 = some ⟨.type "tuple", ow_EVENTS_k7_3_1, .seq #[.str "uint" tk_EVENTS_k7_3_1_0, .str "uint" tk_EVENTS_k7_3_1_1, .str "uint" tk_EVENTS_k7_3_1_2, .str "uint" tk_EVENTS_k7_3_1_3] nw_EVENTS_k7_3_1, sw_EVENTS_k7_3_1⟩)
    (w_EVENTS_k7_4 : K.lookup a_EVENTS_k7_4 = some ⟨.type "tuple", ow_EVENTS_k7_4, .seq #[.str "axis" tk_EVENTS_k7_4_0, .ref a_EVENTS_k7_4_1] nw_EVENTS_k7_4, sw_EVENTS_k7_4⟩)
    (w_EVENTS_k7_4_1 : K.lookup a_EVENTS_k7_4_1 = some ⟨.type "tuple", ow_EVENTS_k7_4_1, .seq #[.str "int" tk_EVENTS_k7_4_1_0, .str "int" tk_EVENTS_k7_4_1_1, .str "uint" tk_EVENTS_k7_4_1_2] nw_EVENTS_k7_4_1, sw_EVENTS_k7_4_1⟩)
    (w_EVENTS_k8 : K.lookup a_EVENTS_k8 = some ⟨.type "tuple", ow_EVENTS_k8, .seq #[.ref a_EVENTS_k8_0, .ref a_EVENTS_k8_1, .ref a_EVENTS_k8_2, .ref a_EVENTS_k8_3, .ref a_EVENTS_k8_4] nw_EVENTS_k8, sw_EVENTS_k8⟩)
    (w_EVENTS_k8_0 : K.lookup a_EVENTS_k8_0 = some ⟨.type "tuple", ow_EVENTS_k8_0, .seq #[.str "keymap" tk_EVENTS_k8_0_0, .ref a_EVENTS_k8_0_1] nw_EVENTS_k8_0, sw_EVENTS_k8_0⟩)
    (w_EVENTS_k8_0_1 : K.lookup a_EVENTS_k8_0_1 = some ⟨.type "tuple", ow_EVENTS_k8_0_1, .seq #[.str "text" tk_EVENTS_k8_0_1_0] nw_EVENTS_k8_0_1, sw_EVENTS_k8_0_1⟩)
    (w_EVENTS_k8_1 : K.lookup a_EVENTS_k8_1 = some ⟨.type "tuple", ow_EVENTS_k8_1, .seq #[.str "enter" tk_EVENTS_k8_1_0, .ref a_EVENTS_k8_1_1] nw_EVENTS_k8_1, sw_EVENTS_k8_1⟩)
    (w_EVENTS_k8_1_1 : K.lookup a_EVENTS_k8_1_1 = some ⟨.type "tuple", ow_EVENTS_k8_1_1, .seq #[.str "object" tk_EVENTS_k8_1_1_0] nw_EVENTS_k8_1_1, sw_EVENTS_k8_1_1⟩)
    (w_EVENTS_k8_2 : K.lookup a_EVENTS_k8_2 = some ⟨.type "tuple", ow_EVENTS_k8_2, .seq #[.str "leave" tk_EVENTS_k8_2_0, .ref a_EVENTS_k8_2_1] nw_EVENTS_k8_2, sw_EVENTS_k8_2⟩)
    (w_EVENTS_k8_2_1 : K.lookup a_EVENTS_k8_2_1 = some ⟨.type "tuple", ow_EVENTS_k8_2_1, .seq #[.str "object" tk_EVENTS_k8_2_1_0] nw_EVENTS_k8_2_1, sw_EVENTS_k8_2_1⟩)
    (w_EVENTS_k8_3 : K.lookup a_EVENTS_k8_3 = some ⟨.type "tuple", ow_EVENTS_k8_3, .seq #[.str "key" tk_EVENTS_k8_3_0, .ref a_EVENTS_k8_3_1] nw_EVENTS_k8_3, sw_EVENTS_k8_3⟩)
    (w_EVENTS_k8_3_1 : K.lookup a_EVENTS_k8_3_1 = some ⟨.type "tuple", ow_EVENTS_k8_3_1, .seq #[.str "uint" tk_EVENTS_k8_3_1_0, .str "uint" tk_EVENTS_k8_3_1_1, .str "uint" tk_EVENTS_k8_3_1_2, .str "uint" tk_EVENTS_k8_3_1_3] nw_EVENTS_k8_3_1, sw_EVENTS_k8_3_1⟩)
    (w_EVENTS_k8_4 : K.lookup a_EVENTS_k8_4 = some ⟨.type "tuple", ow_EVENTS_k8_4, .seq #[.str "symbol" tk_EVENTS_k8_4_0, .ref a_EVENTS_k8_4_1] nw_EVENTS_k8_4, sw_EVENTS_k8_4⟩)
    (w_EVENTS_k8_4_1 : K.lookup a_EVENTS_k8_4_1 = some ⟨.type "tuple", ow_EVENTS_k8_4_1, .seq #[.str "text" tk_EVENTS_k8_4_1_0, .str "text" tk_EVENTS_k8_4_1_1, .str "uint" tk_EVENTS_k8_4_1_2] nw_EVENTS_k8_4_1, sw_EVENTS_k8_4_1⟩)
    (w_EVENTS_k9 : K.lookup a_EVENTS_k9 = some ⟨.type "tuple", ow_EVENTS_k9, .seq #[.ref a_EVENTS_k9_0, .ref a_EVENTS_k9_1, .ref a_EVENTS_k9_2, .ref a_EVENTS_k9_3, .ref a_EVENTS_k9_4, .ref a_EVENTS_k9_5] nw_EVENTS_k9, sw_EVENTS_k9⟩)
    (w_EVENTS_k9_0 : K.lookup a_EVENTS_k9_0 = some ⟨.type "tuple", ow_EVENTS_k9_0, .seq #[.str "offer" tk_EVENTS_k9_0_0, .ref a_EVENTS_k9_0_1] nw_EVENTS_k9_0, sw_EVENTS_k9_0⟩)
    (w_EVENTS_k9_0_1 : K.lookup a_EVENTS_k9_0_1 = some ⟨.type "tuple", ow_EVENTS_k9_0_1, .seq #[.str "new" tk_EVENTS_k9_0_1_0, .str "uint" tk_EVENTS_k9_0_1_1] nw_EVENTS_k9_0_1, sw_EVENTS_k9_0_1⟩)
    (w_EVENTS_k9_1 : K.lookup a_EVENTS_k9_1 = some ⟨.type "tuple", ow_EVENTS_k9_1, .seq #[.str "hover" tk_EVENTS_k9_1_0, .ref a_EVENTS_k9_1_1] nw_EVENTS_k9_1, sw_EVENTS_k9_1⟩)
    (w_EVENTS_k9_1_1 : K.lookup a_EVENTS_k9_1_1 = some ⟨.type "tuple", ow_EVENTS_k9_1_1, .seq #[.str "object" tk_EVENTS_k9_1_1_0, .str "int" tk_EVENTS_k9_1_1_1, .str "int" tk_EVENTS_k9_1_1_2] nw_EVENTS_k9_1_1, sw_EVENTS_k9_1_1⟩)
    (w_EVENTS_k9_2 : K.lookup a_EVENTS_k9_2 = some ⟨.type "tuple", ow_EVENTS_k9_2, .seq #[.str "hover_kind" tk_EVENTS_k9_2_0, .ref a_EVENTS_k9_2_1] nw_EVENTS_k9_2, sw_EVENTS_k9_2⟩)
    (w_EVENTS_k9_2_1 : K.lookup a_EVENTS_k9_2_1 = some ⟨.type "tuple", ow_EVENTS_k9_2_1, .seq #[.str "text" tk_EVENTS_k9_2_1_0] nw_EVENTS_k9_2_1, sw_EVENTS_k9_2_1⟩)
    (w_EVENTS_k9_3 : K.lookup a_EVENTS_k9_3 = some ⟨.type "tuple", ow_EVENTS_k9_3, .seq #[.str "moved" tk_EVENTS_k9_3_0, .ref a_EVENTS_k9_3_1] nw_EVENTS_k9_3, sw_EVENTS_k9_3⟩)
    (w_EVENTS_k9_3_1 : K.lookup a_EVENTS_k9_3_1 = some ⟨.type "tuple", ow_EVENTS_k9_3_1, .seq #[.str "uint" tk_EVENTS_k9_3_1_0, .str "int" tk_EVENTS_k9_3_1_1, .str "int" tk_EVENTS_k9_3_1_2] nw_EVENTS_k9_3_1, sw_EVENTS_k9_3_1⟩)
    (w_EVENTS_k9_4 : K.lookup a_EVENTS_k9_4 = some ⟨.type "tuple", ow_EVENTS_k9_4, .seq #[.str "away" tk_EVENTS_k9_4_0, .ref a_EVENTS_k9_4_1] nw_EVENTS_k9_4, sw_EVENTS_k9_4⟩)
    (w_EVENTS_k9_4_1 : K.lookup a_EVENTS_k9_4_1 = some ⟨.type "tuple", ow_EVENTS_k9_4_1, .seq #[] nw_EVENTS_k9_4_1, sw_EVENTS_k9_4_1⟩)
    (w_EVENTS_k9_5 : K.lookup a_EVENTS_k9_5 = some ⟨.type "tuple", ow_EVENTS_k9_5, .seq #[.str "ended" tk_EVENTS_k9_5_0, .ref a_EVENTS_k9_5_1] nw_EVENTS_k9_5, sw_EVENTS_k9_5⟩)
    (w_EVENTS_k9_5_1 : K.lookup a_EVENTS_k9_5_1 = some ⟨.type "tuple", ow_EVENTS_k9_5_1, .seq #[] nw_EVENTS_k9_5_1, sw_EVENTS_k9_5_1⟩)
    (w_EVENTS_k10 : K.lookup a_EVENTS_k10 = some ⟨.type "tuple", ow_EVENTS_k10, .seq #[.ref a_EVENTS_k10_0, .ref a_EVENTS_k10_1] nw_EVENTS_k10, sw_EVENTS_k10⟩)
    (w_EVENTS_k10_0 : K.lookup a_EVENTS_k10_0 = some ⟨.type "tuple", ow_EVENTS_k10_0, .seq #[.str "kind" tk_EVENTS_k10_0_0, .ref a_EVENTS_k10_0_1] nw_EVENTS_k10_0, sw_EVENTS_k10_0⟩)
    (w_EVENTS_k10_0_1 : K.lookup a_EVENTS_k10_0_1 = some ⟨.type "tuple", ow_EVENTS_k10_0_1, .seq #[.str "text" tk_EVENTS_k10_0_1_0, .str "uint" tk_EVENTS_k10_0_1_1] nw_EVENTS_k10_0_1, sw_EVENTS_k10_0_1⟩)
    (w_EVENTS_k10_1 : K.lookup a_EVENTS_k10_1 = some ⟨.type "tuple", ow_EVENTS_k10_1, .seq #[.str "part" tk_EVENTS_k10_1_0, .ref a_EVENTS_k10_1_1] nw_EVENTS_k10_1, sw_EVENTS_k10_1⟩)
    (w_EVENTS_k10_1_1 : K.lookup a_EVENTS_k10_1_1 = some ⟨.type "tuple", ow_EVENTS_k10_1_1, .seq #[.str "text" tk_EVENTS_k10_1_1_0, .str "uint" tk_EVENTS_k10_1_1_1, .str "octets" tk_EVENTS_k10_1_1_2] nw_EVENTS_k10_1_1, sw_EVENTS_k10_1_1⟩)
    (w_EVENTS_k11 : K.lookup a_EVENTS_k11 = some ⟨.type "tuple", ow_EVENTS_k11, .seq #[.ref a_EVENTS_k11_0, .ref a_EVENTS_k11_1, .ref a_EVENTS_k11_2] nw_EVENTS_k11, sw_EVENTS_k11⟩)
    (w_EVENTS_k11_0 : K.lookup a_EVENTS_k11_0 = some ⟨.type "tuple", ow_EVENTS_k11_0, .seq #[.str "allowed" tk_EVENTS_k11_0_0, .ref a_EVENTS_k11_0_1] nw_EVENTS_k11_0, sw_EVENTS_k11_0⟩)
    (w_EVENTS_k11_0_1 : K.lookup a_EVENTS_k11_0_1 = some ⟨.type "tuple", ow_EVENTS_k11_0_1, .seq #[.str "uint" tk_EVENTS_k11_0_1_0, .str "uint" tk_EVENTS_k11_0_1_1] nw_EVENTS_k11_0_1, sw_EVENTS_k11_0_1⟩)
    (w_EVENTS_k11_1 : K.lookup a_EVENTS_k11_1 = some ⟨.type "tuple", ow_EVENTS_k11_1, .seq #[.str "refused" tk_EVENTS_k11_1_0, .ref a_EVENTS_k11_1_1] nw_EVENTS_k11_1, sw_EVENTS_k11_1⟩)
    (w_EVENTS_k11_1_1 : K.lookup a_EVENTS_k11_1_1 = some ⟨.type "tuple", ow_EVENTS_k11_1_1, .seq #[] nw_EVENTS_k11_1_1, sw_EVENTS_k11_1_1⟩)
    (w_EVENTS_k11_2 : K.lookup a_EVENTS_k11_2 = some ⟨.type "tuple", ow_EVENTS_k11_2, .seq #[.str "rows" tk_EVENTS_k11_2_0, .ref a_EVENTS_k11_2_1] nw_EVENTS_k11_2, sw_EVENTS_k11_2⟩)
    (w_EVENTS_k11_2_1 : K.lookup a_EVENTS_k11_2_1 = some ⟨.type "tuple", ow_EVENTS_k11_2_1, .seq #[.str "uint" tk_EVENTS_k11_2_1_0, .str "octets" tk_EVENTS_k11_2_1_1] nw_EVENTS_k11_2_1, sw_EVENTS_k11_2_1⟩)
    (w_EVENTS_k12 : K.lookup a_EVENTS_k12 = some ⟨.type "tuple", ow_EVENTS_k12, .seq #[.ref a_EVENTS_k12_0, .ref a_EVENTS_k12_1, .ref a_EVENTS_k12_2] nw_EVENTS_k12, sw_EVENTS_k12⟩)
    (w_EVENTS_k12_0 : K.lookup a_EVENTS_k12_0 = some ⟨.type "tuple", ow_EVENTS_k12_0, .seq #[.str "changed" tk_EVENTS_k12_0_0, .ref a_EVENTS_k12_0_1] nw_EVENTS_k12_0, sw_EVENTS_k12_0⟩)
    (w_EVENTS_k12_0_1 : K.lookup a_EVENTS_k12_0_1 = some ⟨.type "tuple", ow_EVENTS_k12_0_1, .seq #[.str "uint" tk_EVENTS_k12_0_1_0] nw_EVENTS_k12_0_1, sw_EVENTS_k12_0_1⟩)
    (w_EVENTS_k12_1 : K.lookup a_EVENTS_k12_1 = some ⟨.type "tuple", ow_EVENTS_k12_1, .seq #[.str "gone" tk_EVENTS_k12_1_0, .ref a_EVENTS_k12_1_1] nw_EVENTS_k12_1, sw_EVENTS_k12_1⟩)
    (w_EVENTS_k12_1_1 : K.lookup a_EVENTS_k12_1_1 = some ⟨.type "tuple", ow_EVENTS_k12_1_1, .seq #[] nw_EVENTS_k12_1_1, sw_EVENTS_k12_1_1⟩)
    (w_EVENTS_k12_2 : K.lookup a_EVENTS_k12_2 = some ⟨.type "tuple", ow_EVENTS_k12_2, .seq #[.str "part" tk_EVENTS_k12_2_0, .ref a_EVENTS_k12_2_1] nw_EVENTS_k12_2, sw_EVENTS_k12_2⟩)
    (w_EVENTS_k12_2_1 : K.lookup a_EVENTS_k12_2_1 = some ⟨.type "tuple", ow_EVENTS_k12_2_1, .seq #[.str "uint" tk_EVENTS_k12_2_1_0, .str "octets" tk_EVENTS_k12_2_1_1] nw_EVENTS_k12_2_1, sw_EVENTS_k12_2_1⟩)
    (w_EVENTS_k13 : K.lookup a_EVENTS_k13 = some ⟨.type "tuple", ow_EVENTS_k13, .seq #[.ref a_EVENTS_k13_0, .ref a_EVENTS_k13_1] nw_EVENTS_k13, sw_EVENTS_k13⟩)
    (w_EVENTS_k13_0 : K.lookup a_EVENTS_k13_0 = some ⟨.type "tuple", ow_EVENTS_k13_0, .seq #[.str "there" tk_EVENTS_k13_0_0, .ref a_EVENTS_k13_0_1] nw_EVENTS_k13_0, sw_EVENTS_k13_0⟩)
    (w_EVENTS_k13_0_1 : K.lookup a_EVENTS_k13_0_1 = some ⟨.type "tuple", ow_EVENTS_k13_0_1, .seq #[] nw_EVENTS_k13_0_1, sw_EVENTS_k13_0_1⟩)
    (w_EVENTS_k13_1 : K.lookup a_EVENTS_k13_1 = some ⟨.type "tuple", ow_EVENTS_k13_1, .seq #[.str "gone" tk_EVENTS_k13_1_0, .ref a_EVENTS_k13_1_1] nw_EVENTS_k13_1, sw_EVENTS_k13_1⟩)
    (w_EVENTS_k13_1_1 : K.lookup a_EVENTS_k13_1_1 = some ⟨.type "tuple", ow_EVENTS_k13_1_1, .seq #[] nw_EVENTS_k13_1_1, sw_EVENTS_k13_1_1⟩)
    (uOutput : PySem.W.nsIn K mainGlobals "Output" = some (some (.ref COutput)))
    (pgOutput : PySem.W.plainGet K COutput Str.empty = true) (hdOutput : PySem.W.hasDictIn K COutput = true) (poOutput : PySem.W.plainOver K COutput = true) (saOutput : PySem.W.findIn K (.ref COutput) "__setattr__" = some (some (.builtin "object.__setattr__"))) (mkOutput : PySem.W.makesIn K COutput = true) (kcOutput : PySem.W.keepIn K (.ref COutput) = true)
    (nOutput_number : PySem.W.findIn K (.ref COutput) "number" = some none)
    (nOutput_x : PySem.W.findIn K (.ref COutput) "x" = some none)
    (nOutput_y : PySem.W.findIn K (.ref COutput) "y" = some none)
    (nOutput_width : PySem.W.findIn K (.ref COutput) "width" = some none)
    (nOutput_height : PySem.W.findIn K (.ref COutput) "height" = some none)
    (nOutput_scale : PySem.W.findIn K (.ref COutput) "scale" = some none)
    (nOutput_turn : PySem.W.findIn K (.ref COutput) "turn" = some none)
    (uRegistries : PySem.W.nsIn K mainGlobals "Registries" = some (some (.ref CRegistries)))
    (pgRegistries : PySem.W.plainGet K CRegistries Str.empty = true) (hdRegistries : PySem.W.hasDictIn K CRegistries = true) (poRegistries : PySem.W.plainOver K CRegistries = true) (saRegistries : PySem.W.findIn K (.ref CRegistries) "__setattr__" = some (some (.builtin "object.__setattr__"))) (mkRegistries : PySem.W.makesIn K CRegistries = true) (kcRegistries : PySem.W.keepIn K (.ref CRegistries) = true)
    (nRegistries__registries : PySem.W.findIn K (.ref CRegistries) "_registries" = some none)
    (nRegistries__owners : PySem.W.findIn K (.ref CRegistries) "_owners" = some none)
    (uReply : PySem.W.nsIn K mainGlobals "Reply" = some (some (.ref CReply)))
    (pgReply : PySem.W.plainGet K CReply Str.empty = true) (hdReply : PySem.W.hasDictIn K CReply = true) (poReply : PySem.W.plainOver K CReply = true) (saReply : PySem.W.findIn K (.ref CReply) "__setattr__" = some (some (.builtin "object.__setattr__"))) (mkReply : PySem.W.makesIn K CReply = true) (kcReply : PySem.W.keepIn K (.ref CReply) = true)
    (nReply_told : PySem.W.findIn K (.ref CReply) "told" = some none)
    (nReply_ended : PySem.W.findIn K (.ref CReply) "ended" = some none)
    (nReply_wishes : PySem.W.findIn K (.ref CReply) "wishes" = some none)
    (nReply_applied : PySem.W.findIn K (.ref CReply) "applied" = some none)
    (uRequest : PySem.W.nsIn K mainGlobals "Request" = some (some (.ref CRequest)))
    (pgRequest : PySem.W.plainGet K CRequest Str.empty = true) (hdRequest : PySem.W.hasDictIn K CRequest = true) (poRequest : PySem.W.plainOver K CRequest = true) (saRequest : PySem.W.findIn K (.ref CRequest) "__setattr__" = some (some (.builtin "object.__setattr__"))) (mkRequest : PySem.W.makesIn K CRequest = true) (kcRequest : PySem.W.keepIn K (.ref CRequest) = true)
    (nRequest_number : PySem.W.findIn K (.ref CRequest) "number" = some none)
    (nRequest_interface : PySem.W.findIn K (.ref CRequest) "interface" = some none)
    (nRequest_name : PySem.W.findIn K (.ref CRequest) "name" = some none)
    (nRequest_arguments : PySem.W.findIn K (.ref CRequest) "arguments" = some none)
    (nRequest_ends : PySem.W.findIn K (.ref CRequest) "ends" = some none)
    (uBadMessage : PySem.W.nsIn K mainGlobals "BadMessage" = some (some (.ref CBadMessage))) (xBadMessage : PySem.W.excIn K CBadMessage [.type "ValueError", .type "Exception", .type "BaseException", .type "object"] "ValueError.__new__" = true) (keBadMessage : PySem.W.keepIn K (.ref CBadMessage) = true) (bxBadMessage : PySem.W.subIn K (.ref CBadMessage) (.type "BaseException") = some true) (txBadMessage : PySem.W.typeIn K (.ref CBadMessage) = some (.type "type")) (ixBadMessage : PySem.W.isClsIn K CBadMessage = true) (sxBadMessage : PySem.W.subIn K (.ref CBadMessage) (.ref CBadMessage) = some true)
    (uMessageTooLong : PySem.W.nsIn K mainGlobals "MessageTooLong" = some (some (.ref CMessageTooLong))) (xMessageTooLong : PySem.W.excIn K CMessageTooLong [.type "ValueError", .type "Exception", .type "BaseException", .type "object"] "ValueError.__new__" = true) (keMessageTooLong : PySem.W.keepIn K (.ref CMessageTooLong) = true) (bxMessageTooLong : PySem.W.subIn K (.ref CMessageTooLong) (.type "BaseException") = some true) (txMessageTooLong : PySem.W.typeIn K (.ref CMessageTooLong) = some (.type "type")) (ixMessageTooLong : PySem.W.isClsIn K CMessageTooLong = true) (sxMessageTooLong : PySem.W.subIn K (.ref CMessageTooLong) (.ref CMessageTooLong) = some true)
    (uFault : PySem.W.nsIn K mainGlobals "Fault" = some (some (.ref CFault))) (loFault : K.lookup CFault = some (excClassObj nmFault qnFault CFault NFault bsFault bmFault true snFault sbFault abFault coFault ddFault k0Fault k1Fault k2Fault k3Fault k5Fault "ValueError.__new__")) (rmFault : PySem.HandSPX.refsVE bmFault = true) (keFault : PySem.W.keepIn K (.ref CFault) = true) (bxFault : PySem.W.subIn K (.ref CFault) (.type "BaseException") = some true) (txFault : PySem.W.typeIn K (.ref CFault) = some (.type "type")) (ixFault : PySem.W.isClsIn K CFault = true) (sxFault : PySem.W.subIn K (.ref CFault) (.ref CFault) = some true)
    (saFault : PySem.W.findIn K (.ref CFault) "__setattr__" = some (some (.builtin "object.__setattr__"))) (mrFault : PySem.W.mroIn K CFault (.ref CFault) = some true) (ksFault : PySem.W.ks_superIn K CFault CFault "__init__" = some (some (.builtin "ValueError.__init__"))) (veFault : PySem.W.subIn K (.ref CFault) (.type "ValueError") = some true) (tpFault : PySem.W.nsIn K PySem.cStatics "thirdparty.any" = some none)
    (gaFault : PySem.W.findIn K (.ref CFault) "__getattribute__" = some (some (.builtin "BaseException.__getattribute__"))) (gtFault : PySem.W.findIn K (.ref CFault) "__getattr__" = some none) (hxFault : PySem.W.hasDictIn K CFault = true) (fcFault : PySem.W.findIn K (.ref CFault) "__class__" = some (some (.builtin "object.__class__"))) (moFault : PySem.W.mroIn K CFault (.type "object") = some true) (sgFault : PySem.W.specialIn K (.builtin "object.__class__") "__get__" = some (some (.builtin "getset_descriptor.__get__"))) (tkFault : PySem.W.takesIn K (.builtin "object.__class__") = some true)
    (nFault_number : PySem.W.findIn K (.ref CFault) "number" = some none)
    (nFault_code : PySem.W.findIn K (.ref CFault) "code" = some none)
    (nFault_words : PySem.W.findIn K (.ref CFault) "words" = some none)
    : ∃ A : Adr, A.flaw = fa ∧ Txt0 P K mg A ∧ Dic w K A ∧ (∀ (s : Shared) (v : Value), BindsTo s A.dlaw ⟨[v], []⟩ [("script", v)]) := by
  have e := hfa.symm.trans (PySem.W.mg_of X G a31)
  cases e
  have F1 := fun_mk (st := s_output_numbered) l1 c1 k1
  have b1 := F1.binds (ps := ["outputs", "number"]) fun _ _ _ _ _ _ us hl => match us, hl with | [_, _], _ => rfl
  have F2 := fun_mk (st := s_global_rows) l2 c2 k2
  have b2 := F2.binds (ps := ["outputs"]) fun _ _ _ _ _ _ us hl => match us, hl with | [_], _ => rfl
  have F3 := fun_mk (st := s_bound_interface) l3 c3 k3
  have b3 := F3.binds (ps := ["number", "name"]) fun _ _ _ _ _ _ us hl => match us, hl with | [_, _], _ => rfl
  have F4 := fun_mk (st := s__global_number) l4 c4 k4
  have b4 := F4.binds (ps := ["output"]) fun _ _ _ _ _ _ us hl => match us, hl with | [_], _ => rfl
  have F5 := fun_mk (st := s__missing_in) l5 c5 k5
  have b5 := F5.binds (ps := ["outputs", "others"]) fun _ _ _ _ _ _ us hl => match us, hl with | [_, _], _ => rfl
  have F6 := fun_mk (st := s__size_row) l6 c6 k6
  have b6 := F6.binds (ps := ["output"]) fun _ _ _ _ _ _ us hl => match us, hl with | [_], _ => rfl
  have F7 := fun_mk (st := s__tell_size) l7 c7 k7
  have b7 := F7.binds (ps := ["number", "output", "reply"]) fun _ _ _ _ _ _ us hl => match us, hl with | [_, _, _], _ => rfl
  have F8 := fun_mk (st := s_is_integer) l8 c8 k8
  have b8 := F8.binds (ps := ["value", "least", "greatest"]) fun _ _ _ _ _ _ us hl => match us, hl with | [_, _, _], _ => rfl
  have F9 := fun_mk (st := s_is_text) l9 c9 k9
  have b9 := F9.binds (ps := ["value"]) fun _ _ _ _ _ _ us hl => match us, hl with | [_], _ => rfl
  have F10 := fun_mk (st := s_number_octets) l10 c10 k10
  have b10 := F10.binds (ps := ["number", "count"]) fun _ _ _ _ _ _ us hl => match us, hl with | [_, _], _ => rfl
  have F11 := fun_mk (st := s_field_octets) l11 c11 k11
  have b11 := F11.binds (ps := ["kind", "value"]) fun _ _ _ _ _ _ us hl => match us, hl with | [_, _], _ => rfl
  have F12 := fun_mk (st := s__is_code) l12 c12 k12
  have b12 := F12.binds (ps := ["code"]) fun _ _ _ _ _ _ us hl => match us, hl with | [_], _ => rfl
  have F13 := fun_mk (st := s__is_of) l13 c13 k13
  have b13 := F13.binds (ps := ["kind", "value"]) fun _ _ _ _ _ _ us hl => match us, hl with | [_, _], _ => rfl
  have F14 := fun_mk (st := s__are_octets) l14 c14 k14
  have b14 := F14.binds (ps := ["value"]) fun _ _ _ _ _ _ us hl => match us, hl with | [_], _ => rfl
  have F15 := fun_mk (st := s__is_bound) l15 c15 k15
  have b15 := F15.binds (ps := ["value"]) fun _ _ _ _ _ _ us hl => match us, hl with | [_], _ => rfl
  have F16 := fun_mk (st := s__text_octets) l16 c16 k16
  have b16 := F16.binds (ps := ["text"]) fun _ _ _ _ _ _ us hl => match us, hl with | [_], _ => rfl
  have F17 := fun_mk (st := s__padded) l17 c17 k17
  have b17 := F17.binds (ps := ["octets"]) fun _ _ _ _ _ _ us hl => match us, hl with | [_], _ => rfl
  have F18 := fun_mk (st := s_encode_message) l18 c18 k18
  have b18 := F18.binds (ps := ["number", "opcode", "arguments"]) fun _ _ _ _ _ _ us hl => match us, hl with | [_, _, _], _ => rfl
  have F19 := fun_mk (st := s_event_octets) l19 c19 k19
  have b19 := F19.binds (ps := ["number", "interface", "name", "values"]) fun _ _ _ _ _ _ us hl => match us, hl with | [_, _, _, _], _ => rfl
  have F20 := fun_mk (st := s__opcode_of) l20 c20 k20
  have b20 := F20.binds (ps := ["rows", "name"]) fun _ _ _ _ _ _ us hl => match us, hl with | [_, _], _ => rfl
  have F21 := fun_mk (st := s__law_cell) l21 c21 k21
  have b21 := F21.binds (ps := ["script", "k"]) fun _ _ _ _ _ _ us hl => match us, hl with | [_, _], _ => rfl
  have F22 := fun_mk (st := s__law_row) l22 c22 k22
  have b22 := F22.binds (ps := ["script", "k"]) fun _ _ _ _ _ _ us hl => match us, hl with | [_, _], _ => rfl
  have F23 := fun_mk (st := s__law_output) l23 c23 k23
  have b23 := F23.binds (ps := ["row", "number", "x"]) fun _ _ _ _ _ _ us hl => match us, hl with | [_, _, _], _ => rfl
  have F24 := fun_mk (st := s__law_outputs) l24 c24 k24
  have b24 := F24.binds (ps := ["row", "count"]) fun _ _ _ _ _ _ us hl => match us, hl with | [_, _], _ => rfl
  have F25 := fun_mk (st := s__law_size) l25 c25 k25
  have b25 := F25.binds (ps := ["output"]) fun _ _ _ _ _ _ us hl => match us, hl with | [_], _ => rfl
  have F26 := fun_mk (st := s__law_other) l26 c26 k26
  have b26 := F26.binds (ps := ["outputs", "row"]) fun _ _ _ _ _ _ us hl => match us, hl with | [_, _], _ => rfl
  have F27 := fun_mk (st := s__law_numbers) l27 c27 k27
  have b27 := F27.binds (ps := ["outputs"]) fun _ _ _ _ _ _ us hl => match us, hl with | [_], _ => rfl
  have F28 := fun_mk (st := s__law_by) l28 c28 k28
  have b28 := F28.binds (ps := ["outputs", "number"]) fun _ _ _ _ _ _ us hl => match us, hl with | [_, _], _ => rfl
  have F29 := fun_mk (st := s__law_due) l29 c29 k29
  have b29 := F29.binds (ps := ["before", "after", "registries", "shown"]) fun _ _ _ _ _ _ us hl => match us, hl with | [_, _, _, _], _ => rfl
  have F30 := fun_mk (st := s__law_begin) l30 c30 k30
  have b30 := F30.binds (ps := ["script", "outputs", "program", "registries", "shown"]) fun _ _ _ _ _ _ us hl => match us, hl with | [_, _, _, _, _], _ => rfl
  have F31 := fun_mk (st := s_law) l31 c31 k31
  have b31 := F31.binds (ps := ["script"]) fun _ _ _ _ _ _ us hl => match us, hl with | [_], _ => rfl
  have F32 : FunSup K "__init__" "Fault.__init__" s_Fault___init__ fFault___init__ (PySem.W.fnX "__init__" "Fault.__init__" (defArgs s_Fault___init__) (defBody s_Fault___init__) (defScope s_Fault___init__) [("__class__", cc32)] .none kV32 dc32 pm32 an32 (.ref cda32) ct32) CFault := ⟨⟨_, _, _, _, _, _, _, _, _, _, _, _, _, _, _, _, _, _, _, rfl, l32, c32, ld32, rv32, lc32, lD32⟩⟩
  have b32 : Binds K (PySem.W.fnX "__init__" "Fault.__init__" (defArgs s_Fault___init__) (defBody s_Fault___init__) (defScope s_Fault___init__) [("__class__", cc32)] .none kV32 dc32 pm32 an32 (.ref cda32) ct32) ["self", "number", "code", "words"] [] := .all fun us hl => match us, hl with | [_, _, _, _], _ => rfl
  have F33 := fun_mk (st := s_Output___init__) l33 c33 k33
  have b33 := F33.binds (ps := ["self", "number", "x", "y", "width", "height", "scale", "turn"]) fun _ _ _ _ _ _ us hl => match us, hl with | [_, _, _, _, _, _, _, _], _ => rfl
  have F34 := fun_mk (st := s_Registries___init__) l34 c34 k34
  have b34 := F34.binds (ps := ["self"]) fun _ _ _ _ _ _ us hl => match us, hl with | [_], _ => rfl
  have F35 := fun_mk (st := s_Registries_serve) l35 c35 k35
  have b35 := F35.binds (ps := ["self", "request", "outputs", "time", "reply"]) fun _ _ _ _ _ _ us hl => match us, hl with | [_, _, _, _, _], _ => rfl
  have F36 := fun_mk (st := s_Registries_changed) l36 c36 k36
  have b36 := F36.binds (ps := ["self", "before", "after", "reply"]) fun _ _ _ _ _ _ us hl => match us, hl with | [_, _, _, _], _ => rfl
  have F37 := fun_mk (st := s_Registries_forget) l37 c37 k37
  have b37 := F37.binds (ps := ["self", "number"]) fun _ _ _ _ _ _ us hl => match us, hl with | [_, _], _ => rfl
  have F38 := fun_mk (st := s_Registries__open_registry) l38 c38 k38
  have b38 := F38.binds (ps := ["self", "number", "outputs", "reply"]) fun _ _ _ _ _ _ us hl => match us, hl with | [_, _, _, _], _ => rfl
  have F39 := fun_mk (st := s_Registries__bind) l39 c39 k39
  have b39 := F39.binds (ps := ["self", "request", "outputs", "reply"]) fun _ _ _ _ _ _ us hl => match us, hl with | [_, _, _, _], _ => rfl
  have F40 := fun_mk (st := s_Reply___init__) l40 c40 k40
  have b40 := F40.binds (ps := ["self"]) fun _ _ _ _ _ _ us hl => match us, hl with | [_], _ => rfl
  have F41 := fun_mk (st := s_Reply_tell) l41 c41 k41
  have b41 := F41.binds (ps := ["self", "number", "interface", "name", "values"]) fun _ _ _ _ _ _ us hl => match us, hl with | [_, _, _, _, _], _ => rfl
  have F42 := fun_mk (st := s_Reply_end) l42 c42 k42
  have b42 := F42.binds (ps := ["self", "number"]) fun _ _ _ _ _ _ us hl => match us, hl with | [_, _], _ => rfl
  have F43 := fun_mk (st := s_Request___init__) l43 c43 k43
  have b43 := F43.binds (ps := ["self", "number", "interface", "name", "arguments", "ends"]) fun _ _ _ _ _ _ us hl => match us, hl with | [_, _, _, _, _, _], _ => rfl
  have oFault : OexC K CFault := ⟨⟨_, _, _, _, _, _, _, _, _, _, _, _, _, _, _, loFault, rmFault⟩, saFault, bxFault, txFault, keFault⟩
  refine ⟨{ foutput_numbered := foutput_numbered, doutput_numbered := (PySem.W.fnOf "output_numbered" "output_numbered" (defArgs s_output_numbered) (defBody s_output_numbered) (defScope s_output_numbered) .none kV1 dc1 pm1 an1 cd1 ct1), fglobal_rows := fglobal_rows, dglobal_rows := (PySem.W.fnOf "global_rows" "global_rows" (defArgs s_global_rows) (defBody s_global_rows) (defScope s_global_rows) .none kV2 dc2 pm2 an2 cd2 ct2), fbound_interface := fbound_interface, dbound_interface := (PySem.W.fnOf "bound_interface" "bound_interface" (defArgs s_bound_interface) (defBody s_bound_interface) (defScope s_bound_interface) .none kV3 dc3 pm3 an3 cd3 ct3), f_global_number := f_global_number, d_global_number := (PySem.W.fnOf "_global_number" "_global_number" (defArgs s__global_number) (defBody s__global_number) (defScope s__global_number) .none kV4 dc4 pm4 an4 cd4 ct4), f_missing_in := f_missing_in, d_missing_in := (PySem.W.fnOf "_missing_in" "_missing_in" (defArgs s__missing_in) (defBody s__missing_in) (defScope s__missing_in) .none kV5 dc5 pm5 an5 cd5 ct5), f_size_row := f_size_row, d_size_row := (PySem.W.fnOf "_size_row" "_size_row" (defArgs s__size_row) (defBody s__size_row) (defScope s__size_row) .none kV6 dc6 pm6 an6 cd6 ct6), f_tell_size := f_tell_size, d_tell_size := (PySem.W.fnOf "_tell_size" "_tell_size" (defArgs s__tell_size) (defBody s__tell_size) (defScope s__tell_size) .none kV7 dc7 pm7 an7 cd7 ct7), fis_integer := fis_integer, dis_integer := (PySem.W.fnOf "is_integer" "is_integer" (defArgs s_is_integer) (defBody s_is_integer) (defScope s_is_integer) .none kV8 dc8 pm8 an8 cd8 ct8), fis_text := fis_text, dis_text := (PySem.W.fnOf "is_text" "is_text" (defArgs s_is_text) (defBody s_is_text) (defScope s_is_text) .none kV9 dc9 pm9 an9 cd9 ct9), fnumber_octets := fnumber_octets, dnumber_octets := (PySem.W.fnOf "number_octets" "number_octets" (defArgs s_number_octets) (defBody s_number_octets) (defScope s_number_octets) .none kV10 dc10 pm10 an10 cd10 ct10), ffield_octets := ffield_octets, dfield_octets := (PySem.W.fnOf "field_octets" "field_octets" (defArgs s_field_octets) (defBody s_field_octets) (defScope s_field_octets) .none kV11 dc11 pm11 an11 cd11 ct11), f_is_code := f_is_code, d_is_code := (PySem.W.fnOf "_is_code" "_is_code" (defArgs s__is_code) (defBody s__is_code) (defScope s__is_code) .none kV12 dc12 pm12 an12 cd12 ct12), f_is_of := f_is_of, d_is_of := (PySem.W.fnOf "_is_of" "_is_of" (defArgs s__is_of) (defBody s__is_of) (defScope s__is_of) .none kV13 dc13 pm13 an13 cd13 ct13), f_are_octets := f_are_octets, d_are_octets := (PySem.W.fnOf "_are_octets" "_are_octets" (defArgs s__are_octets) (defBody s__are_octets) (defScope s__are_octets) .none kV14 dc14 pm14 an14 cd14 ct14), f_is_bound := f_is_bound, d_is_bound := (PySem.W.fnOf "_is_bound" "_is_bound" (defArgs s__is_bound) (defBody s__is_bound) (defScope s__is_bound) .none kV15 dc15 pm15 an15 cd15 ct15), f_text_octets := f_text_octets, d_text_octets := (PySem.W.fnOf "_text_octets" "_text_octets" (defArgs s__text_octets) (defBody s__text_octets) (defScope s__text_octets) .none kV16 dc16 pm16 an16 cd16 ct16), f_padded := f_padded, d_padded := (PySem.W.fnOf "_padded" "_padded" (defArgs s__padded) (defBody s__padded) (defScope s__padded) .none kV17 dc17 pm17 an17 cd17 ct17), fencode_message := fencode_message, dencode_message := (PySem.W.fnOf "encode_message" "encode_message" (defArgs s_encode_message) (defBody s_encode_message) (defScope s_encode_message) .none kV18 dc18 pm18 an18 cd18 ct18), fevent_octets := fevent_octets, devent_octets := (PySem.W.fnOf "event_octets" "event_octets" (defArgs s_event_octets) (defBody s_event_octets) (defScope s_event_octets) .none kV19 dc19 pm19 an19 cd19 ct19), f_opcode_of := f_opcode_of, d_opcode_of := (PySem.W.fnOf "_opcode_of" "_opcode_of" (defArgs s__opcode_of) (defBody s__opcode_of) (defScope s__opcode_of) .none kV20 dc20 pm20 an20 cd20 ct20), f_law_cell := f_law_cell, d_law_cell := (PySem.W.fnOf "_law_cell" "_law_cell" (defArgs s__law_cell) (defBody s__law_cell) (defScope s__law_cell) .none kV21 dc21 pm21 an21 cd21 ct21), f_law_row := f_law_row, d_law_row := (PySem.W.fnOf "_law_row" "_law_row" (defArgs s__law_row) (defBody s__law_row) (defScope s__law_row) .none kV22 dc22 pm22 an22 cd22 ct22), f_law_output := f_law_output, d_law_output := (PySem.W.fnOf "_law_output" "_law_output" (defArgs s__law_output) (defBody s__law_output) (defScope s__law_output) .none kV23 dc23 pm23 an23 cd23 ct23), f_law_outputs := f_law_outputs, d_law_outputs := (PySem.W.fnOf "_law_outputs" "_law_outputs" (defArgs s__law_outputs) (defBody s__law_outputs) (defScope s__law_outputs) .none kV24 dc24 pm24 an24 cd24 ct24), f_law_size := f_law_size, d_law_size := (PySem.W.fnOf "_law_size" "_law_size" (defArgs s__law_size) (defBody s__law_size) (defScope s__law_size) .none kV25 dc25 pm25 an25 cd25 ct25), f_law_other := f_law_other, d_law_other := (PySem.W.fnOf "_law_other" "_law_other" (defArgs s__law_other) (defBody s__law_other) (defScope s__law_other) .none kV26 dc26 pm26 an26 cd26 ct26), f_law_numbers := f_law_numbers, d_law_numbers := (PySem.W.fnOf "_law_numbers" "_law_numbers" (defArgs s__law_numbers) (defBody s__law_numbers) (defScope s__law_numbers) .none kV27 dc27 pm27 an27 cd27 ct27), f_law_by := f_law_by, d_law_by := (PySem.W.fnOf "_law_by" "_law_by" (defArgs s__law_by) (defBody s__law_by) (defScope s__law_by) .none kV28 dc28 pm28 an28 cd28 ct28), f_law_due := f_law_due, d_law_due := (PySem.W.fnOf "_law_due" "_law_due" (defArgs s__law_due) (defBody s__law_due) (defScope s__law_due) .none kV29 dc29 pm29 an29 cd29 ct29), f_law_begin := f_law_begin, d_law_begin := (PySem.W.fnOf "_law_begin" "_law_begin" (defArgs s__law_begin) (defBody s__law_begin) (defScope s__law_begin) .none kV30 dc30 pm30 an30 cd30 ct30), flaw := fa, dlaw := (PySem.W.fnOf "law" "law" (defArgs s_law) (defBody s_law) (defScope s_law) .none kV31 dc31 pm31 an31 cd31 ct31), fFault___init__ := fFault___init__, dFault___init__ := (PySem.W.fnX "__init__" "Fault.__init__" (defArgs s_Fault___init__) (defBody s_Fault___init__) (defScope s_Fault___init__) [("__class__", cc32)] .none kV32 dc32 pm32 an32 (.ref cda32) ct32), fOutput___init__ := fOutput___init__, dOutput___init__ := (PySem.W.fnOf "__init__" "Output.__init__" (defArgs s_Output___init__) (defBody s_Output___init__) (defScope s_Output___init__) .none kV33 dc33 pm33 an33 cd33 ct33), fRegistries___init__ := fRegistries___init__, dRegistries___init__ := (PySem.W.fnOf "__init__" "Registries.__init__" (defArgs s_Registries___init__) (defBody s_Registries___init__) (defScope s_Registries___init__) .none kV34 dc34 pm34 an34 cd34 ct34), fRegistries_serve := fRegistries_serve, dRegistries_serve := (PySem.W.fnOf "serve" "Registries.serve" (defArgs s_Registries_serve) (defBody s_Registries_serve) (defScope s_Registries_serve) .none kV35 dc35 pm35 an35 cd35 ct35), fRegistries_changed := fRegistries_changed, dRegistries_changed := (PySem.W.fnOf "changed" "Registries.changed" (defArgs s_Registries_changed) (defBody s_Registries_changed) (defScope s_Registries_changed) .none kV36 dc36 pm36 an36 cd36 ct36), fRegistries_forget := fRegistries_forget, dRegistries_forget := (PySem.W.fnOf "forget" "Registries.forget" (defArgs s_Registries_forget) (defBody s_Registries_forget) (defScope s_Registries_forget) .none kV37 dc37 pm37 an37 cd37 ct37), fRegistries__open_registry := fRegistries__open_registry, dRegistries__open_registry := (PySem.W.fnOf "_open_registry" "Registries._open_registry" (defArgs s_Registries__open_registry) (defBody s_Registries__open_registry) (defScope s_Registries__open_registry) .none kV38 dc38 pm38 an38 cd38 ct38), fRegistries__bind := fRegistries__bind, dRegistries__bind := (PySem.W.fnOf "_bind" "Registries._bind" (defArgs s_Registries__bind) (defBody s_Registries__bind) (defScope s_Registries__bind) .none kV39 dc39 pm39 an39 cd39 ct39), fReply___init__ := fReply___init__, dReply___init__ := (PySem.W.fnOf "__init__" "Reply.__init__" (defArgs s_Reply___init__) (defBody s_Reply___init__) (defScope s_Reply___init__) .none kV40 dc40 pm40 an40 cd40 ct40), fReply_tell := fReply_tell, dReply_tell := (PySem.W.fnOf "tell" "Reply.tell" (defArgs s_Reply_tell) (defBody s_Reply_tell) (defScope s_Reply_tell) .none kV41 dc41 pm41 an41 cd41 ct41), fReply_end := fReply_end, dReply_end := (PySem.W.fnOf "end" "Reply.end" (defArgs s_Reply_end) (defBody s_Reply_end) (defScope s_Reply_end) .none kV42 dc42 pm42 an42 cd42 ct42), fRequest___init__ := fRequest___init__, dRequest___init__ := (PySem.W.fnOf "__init__" "Request.__init__" (defArgs s_Request___init__) (defBody s_Request___init__) (defScope s_Request___init__) .none kV43 dc43 pm43 an43 cd43 ct43), a_GLOBALS := a_GLOBALS, a_GLOBALS_0 := a_GLOBALS_0, a_GLOBALS_1 := a_GLOBALS_1, a_GLOBALS_2 := a_GLOBALS_2, a_GLOBALS_3 := a_GLOBALS_3, a_GLOBALS_4 := a_GLOBALS_4, a_GLOBALS_5 := a_GLOBALS_5, t_FIRST_OUTPUT := t_FIRST_OUTPUT, tGREATEST_NUMBER := tGREATEST_NUMBER, tLEAST_INT := tLEAST_INT, tGREATEST_INT := tGREATEST_INT, tLONGEST_TEXT := tLONGEST_TEXT, tMOST_OCTETS := tMOST_OCTETS, t_FIRST_CODE := t_FIRST_CODE, t_LAST_CODE := t_LAST_CODE, t_PERCENT_CODE := t_PERCENT_CODE, tHEADER_SIZE := tHEADER_SIZE, tGREATEST_SIZE := tGREATEST_SIZE, tGREATEST_OPCODE := tGREATEST_OPCODE, tMOST_ARGUMENTS := tMOST_ARGUMENTS, a_EVENTS := a_EVENTS, a_EVENTS_k0 := a_EVENTS_k0, a_EVENTS_k0_0 := a_EVENTS_k0_0, a_EVENTS_k0_0_1 := a_EVENTS_k0_0_1, a_EVENTS_k0_1 := a_EVENTS_k0_1, a_EVENTS_k0_1_1 := a_EVENTS_k0_1_1, a_EVENTS_k1 := a_EVENTS_k1, a_EVENTS_k1_0 := a_EVENTS_k1_0, a_EVENTS_k1_0_1 := a_EVENTS_k1_0_1, a_EVENTS_k2 := a_EVENTS_k2, a_EVENTS_k2_0 := a_EVENTS_k2_0, a_EVENTS_k2_0_1 := a_EVENTS_k2_0_1, a_EVENTS_k2_1 := a_EVENTS_k2_1, a_EVENTS_k2_1_1 := a_EVENTS_k2_1_1, a_EVENTS_k3 := a_EVENTS_k3, a_EVENTS_k3_0 := a_EVENTS_k3_0, a_EVENTS_k3_0_1 := a_EVENTS_k3_0_1, a_EVENTS_k4 := a_EVENTS_k4, a_EVENTS_k4_0 := a_EVENTS_k4_0, a_EVENTS_k4_0_1 := a_EVENTS_k4_0_1, a_EVENTS_k5 := a_EVENTS_k5, a_EVENTS_k5_0 := a_EVENTS_k5_0, a_EVENTS_k5_0_1 := a_EVENTS_k5_0_1, a_EVENTS_k5_1 := a_EVENTS_k5_1, a_EVENTS_k5_1_1 := a_EVENTS_k5_1_1, a_EVENTS_k5_2 := a_EVENTS_k5_2, a_EVENTS_k5_2_1 := a_EVENTS_k5_2_1, a_EVENTS_k5_3 := a_EVENTS_k5_3, a_EVENTS_k5_3_1 := a_EVENTS_k5_3_1, a_EVENTS_k6 := a_EVENTS_k6, a_EVENTS_k6_0 := a_EVENTS_k6_0, a_EVENTS_k6_0_1 := a_EVENTS_k6_0_1, a_EVENTS_k6_1 := a_EVENTS_k6_1, a_EVENTS_k6_1_1 := a_EVENTS_k6_1_1, a_EVENTS_k7 := a_EVENTS_k7, a_EVENTS_k7_0 := a_EVENTS_k7_0, a_EVENTS_k7_0_1 := a_EVENTS_k7_0_1, a_EVENTS_k7_1 := a_EVENTS_k7_1, a_EVENTS_k7_1_1 := a_EVENTS_k7_1_1, a_EVENTS_k7_2 := a_EVENTS_k7_2, a_EVENTS_k7_2_1 := a_EVENTS_k7_2_1, a_EVENTS_k7_3 := a_EVENTS_k7_3, a_EVENTS_k7_3_1 := a_EVENTS_k7_3_1, a_EVENTS_k7_4 := a_EVENTS_k7_4, a_EVENTS_k7_4_1 := a_EVENTS_k7_4_1, a_EVENTS_k8 := a_EVENTS_k8, a_EVENTS_k8_0 := a_EVENTS_k8_0, a_EVENTS_k8_0_1 := a_EVENTS_k8_0_1, a_EVENTS_k8_1 := a_EVENTS_k8_1, a_EVENTS_k8_1_1 := a_EVENTS_k8_1_1, a_EVENTS_k8_2 := a_EVENTS_k8_2, a_EVENTS_k8_2_1 := a_EVENTS_k8_2_1, a_EVENTS_k8_3 := a_EVENTS_k8_3, a_EVENTS_k8_3_1 := a_EVENTS_k8_3_1, a_EVENTS_k8_4 := a_EVENTS_k8_4, a_EVENTS_k8_4_1 := a_EVENTS_k8_4_1, a_EVENTS_k9 := a_EVENTS_k9, a_EVENTS_k9_0 := a_EVENTS_k9_0, a_EVENTS_k9_0_1 := a_EVENTS_k9_0_1, a_EVENTS_k9_1 := a_EVENTS_k9_1, a_EVENTS_k9_1_1 := a_EVENTS_k9_1_1, a_EVENTS_k9_2 := a_EVENTS_k9_2, a_EVENTS_k9_2_1 := a_EVENTS_k9_2_1, a_EVENTS_k9_3 := a_EVENTS_k9_3, a_EVENTS_k9_3_1 := a_EVENTS_k9_3_1, a_EVENTS_k9_4 := a_EVENTS_k9_4, a_EVENTS_k9_4_1 := a_EVENTS_k9_4_1, a_EVENTS_k9_5 := a_EVENTS_k9_5, a_EVENTS_k9_5_1 := a_EVENTS_k9_5_1, a_EVENTS_k10 := a_EVENTS_k10, a_EVENTS_k10_0 := a_EVENTS_k10_0, a_EVENTS_k10_0_1 := a_EVENTS_k10_0_1, a_EVENTS_k10_1 := a_EVENTS_k10_1, a_EVENTS_k10_1_1 := a_EVENTS_k10_1_1, a_EVENTS_k11 := a_EVENTS_k11, a_EVENTS_k11_0 := a_EVENTS_k11_0, a_EVENTS_k11_0_1 := a_EVENTS_k11_0_1, a_EVENTS_k11_1 := a_EVENTS_k11_1, a_EVENTS_k11_1_1 := a_EVENTS_k11_1_1, a_EVENTS_k11_2 := a_EVENTS_k11_2, a_EVENTS_k11_2_1 := a_EVENTS_k11_2_1, a_EVENTS_k12 := a_EVENTS_k12, a_EVENTS_k12_0 := a_EVENTS_k12_0, a_EVENTS_k12_0_1 := a_EVENTS_k12_0_1, a_EVENTS_k12_1 := a_EVENTS_k12_1, a_EVENTS_k12_1_1 := a_EVENTS_k12_1_1, a_EVENTS_k12_2 := a_EVENTS_k12_2, a_EVENTS_k12_2_1 := a_EVENTS_k12_2_1, a_EVENTS_k13 := a_EVENTS_k13, a_EVENTS_k13_0 := a_EVENTS_k13_0, a_EVENTS_k13_0_1 := a_EVENTS_k13_0_1, a_EVENTS_k13_1 := a_EVENTS_k13_1, a_EVENTS_k13_1_1 := a_EVENTS_k13_1_1, COutput := COutput, CRegistries := CRegistries, CReply := CReply, CRequest := CRequest, CBadMessage := CBadMessage, CMessageTooLong := CMessageTooLong, CFault := CFault }, rfl, { Foutput_numbered := F1, boutput_numbered := b1, goutput_numbered := PySem.W.mg_of X G a1, koutput_numbered := k1, Fglobal_rows := F2, bglobal_rows := b2, gglobal_rows := PySem.W.mg_of X G a2, kglobal_rows := k2, Fbound_interface := F3, bbound_interface := b3, gbound_interface := PySem.W.mg_of X G a3, kbound_interface := k3, F_global_number := F4, b_global_number := b4, g_global_number := PySem.W.mg_of X G a4, k_global_number := k4, F_missing_in := F5, b_missing_in := b5, g_missing_in := PySem.W.mg_of X G a5, k_missing_in := k5, F_size_row := F6, b_size_row := b6, g_size_row := PySem.W.mg_of X G a6, k_size_row := k6, F_tell_size := F7, b_tell_size := b7, g_tell_size := PySem.W.mg_of X G a7, k_tell_size := k7, Fis_integer := F8, bis_integer := b8, gis_integer := PySem.W.mg_of X G a8, kis_integer := k8, Fis_text := F9, bis_text := b9, gis_text := PySem.W.mg_of X G a9, kis_text := k9, Fnumber_octets := F10, bnumber_octets := b10, gnumber_octets := PySem.W.mg_of X G a10, knumber_octets := k10, Ffield_octets := F11, bfield_octets := b11, gfield_octets := PySem.W.mg_of X G a11, kfield_octets := k11, F_is_code := F12, b_is_code := b12, g_is_code := PySem.W.mg_of X G a12, k_is_code := k12, F_is_of := F13, b_is_of := b13, g_is_of := PySem.W.mg_of X G a13, k_is_of := k13, F_are_octets := F14, b_are_octets := b14, g_are_octets := PySem.W.mg_of X G a14, k_are_octets := k14, F_is_bound := F15, b_is_bound := b15, g_is_bound := PySem.W.mg_of X G a15, k_is_bound := k15, F_text_octets := F16, b_text_octets := b16, g_text_octets := PySem.W.mg_of X G a16, k_text_octets := k16, F_padded := F17, b_padded := b17, g_padded := PySem.W.mg_of X G a17, k_padded := k17, Fencode_message := F18, bencode_message := b18, gencode_message := PySem.W.mg_of X G a18, kencode_message := k18, Fevent_octets := F19, bevent_octets := b19, gevent_octets := PySem.W.mg_of X G a19, kevent_octets := k19, F_opcode_of := F20, b_opcode_of := b20, g_opcode_of := PySem.W.mg_of X G a20, k_opcode_of := k20, F_law_cell := F21, b_law_cell := b21, g_law_cell := PySem.W.mg_of X G a21, k_law_cell := k21, F_law_row := F22, b_law_row := b22, g_law_row := PySem.W.mg_of X G a22, k_law_row := k22, F_law_output := F23, b_law_output := b23, g_law_output := PySem.W.mg_of X G a23, k_law_output := k23, F_law_outputs := F24, b_law_outputs := b24, g_law_outputs := PySem.W.mg_of X G a24, k_law_outputs := k24, F_law_size := F25, b_law_size := b25, g_law_size := PySem.W.mg_of X G a25, k_law_size := k25, F_law_other := F26, b_law_other := b26, g_law_other := PySem.W.mg_of X G a26, k_law_other := k26, F_law_numbers := F27, b_law_numbers := b27, g_law_numbers := PySem.W.mg_of X G a27, k_law_numbers := k27, F_law_by := F28, b_law_by := b28, g_law_by := PySem.W.mg_of X G a28, k_law_by := k28, F_law_due := F29, b_law_due := b29, g_law_due := PySem.W.mg_of X G a29, k_law_due := k29, F_law_begin := F30, b_law_begin := b30, g_law_begin := PySem.W.mg_of X G a30, k_law_begin := k30, Flaw := F31, blaw := b31, glaw := PySem.W.mg_of X G a31, klaw := k31, FFault___init__ := F32, bFault___init__ := b32, MFault := a32, TFault := ty32, FOutput___init__ := F33, bOutput___init__ := b33, MOutput := ⟨mkOutput, a33, i33, kcOutput⟩, FRegistries___init__ := F34, bRegistries___init__ := b34, MRegistries := ⟨mkRegistries, a34, i34, kcRegistries⟩, FRegistries_serve := F35, bRegistries_serve := b35, mRegistries_serve := ⟨a35, i35, k35⟩, FRegistries_changed := F36, bRegistries_changed := b36, mRegistries_changed := ⟨a36, i36, k36⟩, FRegistries_forget := F37, bRegistries_forget := b37, mRegistries_forget := ⟨a37, i37, k37⟩, FRegistries__open_registry := F38, bRegistries__open_registry := b38, mRegistries__open_registry := ⟨a38, i38, k38⟩, FRegistries__bind := F39, bRegistries__bind := b39, mRegistries__bind := ⟨a39, i39, k39⟩, FReply___init__ := F40, bReply___init__ := b40, MReply := ⟨mkReply, a40, i40, kcReply⟩, FReply_tell := F41, bReply_tell := b41, mReply_tell := ⟨a41, i41, k41⟩, FReply_end := F42, bReply_end := b42, mReply_end := ⟨a42, i42, k42⟩, FRequest___init__ := F43, bRequest___init__ := b43, MRequest := ⟨mkRequest, a43, i43, kcRequest⟩, all := PySem.W.mg_none_of X G z_all, bool := PySem.W.mg_none_of X G z_bool, int := PySem.W.mg_none_of X G z_int, isinstance := PySem.W.mg_none_of X G z_isinstance, len := PySem.W.mg_none_of X G z_len, list := PySem.W.mg_none_of X G z_list, min := PySem.W.mg_none_of X G z_min, ord := PySem.W.mg_none_of X G z_ord, range := PySem.W.mg_none_of X G z_range, str := PySem.W.mg_none_of X G z_str, super := PySem.W.mg_none_of X G z_super, tuple := PySem.W.mg_none_of X G z_tuple, zip := PySem.W.mg_none_of X G z_zip, g_GLOBALS := PySem.W.mg_of X G q__GLOBALS, w_GLOBALS := fun _ => .inr ⟨_, _, _, w_GLOBALS, rfl, rfl, len_line (Nat.le_of_ble_eq_true rfl), (.cons rfl (.cons rfl (.cons rfl (.cons rfl (.cons rfl (.cons rfl .nil))))))⟩, w_GLOBALS_0 := fun _ => .inr ⟨_, _, _, w_GLOBALS_0, rfl, rfl, len_line (Nat.le_of_ble_eq_true rfl), (.cons ⟨_, rfl⟩ (.cons ⟨_, rfl⟩ .nil))⟩, w_GLOBALS_1 := fun _ => .inr ⟨_, _, _, w_GLOBALS_1, rfl, rfl, len_line (Nat.le_of_ble_eq_true rfl), (.cons ⟨_, rfl⟩ (.cons ⟨_, rfl⟩ .nil))⟩, w_GLOBALS_2 := fun _ => .inr ⟨_, _, _, w_GLOBALS_2, rfl, rfl, len_line (Nat.le_of_ble_eq_true rfl), (.cons ⟨_, rfl⟩ (.cons ⟨_, rfl⟩ .nil))⟩, w_GLOBALS_3 := fun _ => .inr ⟨_, _, _, w_GLOBALS_3, rfl, rfl, len_line (Nat.le_of_ble_eq_true rfl), (.cons ⟨_, rfl⟩ (.cons ⟨_, rfl⟩ .nil))⟩, w_GLOBALS_4 := fun _ => .inr ⟨_, _, _, w_GLOBALS_4, rfl, rfl, len_line (Nat.le_of_ble_eq_true rfl), (.cons ⟨_, rfl⟩ (.cons ⟨_, rfl⟩ .nil))⟩, w_GLOBALS_5 := fun _ => .inr ⟨_, _, _, w_GLOBALS_5, rfl, rfl, len_line (Nat.le_of_ble_eq_true rfl), (.cons ⟨_, rfl⟩ (.cons ⟨_, rfl⟩ .nil))⟩, g_FIRST_OUTPUT := PySem.W.mg_of X G q__FIRST_OUTPUT, gGREATEST_NUMBER := PySem.W.mg_of X G q_GREATEST_NUMBER, gLEAST_INT := PySem.W.mg_of X G q_LEAST_INT, gGREATEST_INT := PySem.W.mg_of X G q_GREATEST_INT, gLONGEST_TEXT := PySem.W.mg_of X G q_LONGEST_TEXT, gMOST_OCTETS := PySem.W.mg_of X G q_MOST_OCTETS, g_FIRST_CODE := PySem.W.mg_of X G q__FIRST_CODE, g_LAST_CODE := PySem.W.mg_of X G q__LAST_CODE, g_PERCENT_CODE := PySem.W.mg_of X G q__PERCENT_CODE, gHEADER_SIZE := PySem.W.mg_of X G q_HEADER_SIZE, gGREATEST_SIZE := PySem.W.mg_of X G q_GREATEST_SIZE, gGREATEST_OPCODE := PySem.W.mg_of X G q_GREATEST_OPCODE, gMOST_ARGUMENTS := PySem.W.mg_of X G q_MOST_ARGUMENTS, g_EVENTS := PySem.W.mg_of X G q__EVENTS, w_EVENTS_k0 := fun _ => .inr ⟨_, _, _, w_EVENTS_k0, rfl, rfl, len_line (Nat.le_of_ble_eq_true rfl), (.cons rfl (.cons rfl .nil))⟩, w_EVENTS_k0_0 := fun _ => .inr ⟨_, _, _, w_EVENTS_k0_0, rfl, rfl, len_line (Nat.le_of_ble_eq_true rfl), (.cons ⟨_, rfl⟩ (.cons rfl .nil))⟩, w_EVENTS_k0_0_1 := fun _ => .inr ⟨_, _, _, w_EVENTS_k0_0_1, rfl, rfl, len_line (Nat.le_of_ble_eq_true rfl), (.cons ⟨_, rfl⟩ (.cons ⟨_, rfl⟩ (.cons ⟨_, rfl⟩ .nil)))⟩, w_EVENTS_k0_1 := fun _ => .inr ⟨_, _, _, w_EVENTS_k0_1, rfl, rfl, len_line (Nat.le_of_ble_eq_true rfl), (.cons ⟨_, rfl⟩ (.cons rfl .nil))⟩, w_EVENTS_k0_1_1 := fun _ => .inr ⟨_, _, _, w_EVENTS_k0_1_1, rfl, rfl, len_line (Nat.le_of_ble_eq_true rfl), (.cons ⟨_, rfl⟩ .nil)⟩, w_EVENTS_k1 := fun _ => .inr ⟨_, _, _, w_EVENTS_k1, rfl, rfl, len_line (Nat.le_of_ble_eq_true rfl), (.cons rfl .nil)⟩, w_EVENTS_k1_0 := fun _ => .inr ⟨_, _, _, w_EVENTS_k1_0, rfl, rfl, len_line (Nat.le_of_ble_eq_true rfl), (.cons ⟨_, rfl⟩ (.cons rfl .nil))⟩, w_EVENTS_k1_0_1 := fun _ => .inr ⟨_, _, _, w_EVENTS_k1_0_1, rfl, rfl, len_line (Nat.le_of_ble_eq_true rfl), (.cons ⟨_, rfl⟩ .nil)⟩, w_EVENTS_k2 := fun _ => .inr ⟨_, _, _, w_EVENTS_k2, rfl, rfl, len_line (Nat.le_of_ble_eq_true rfl), (.cons rfl (.cons rfl .nil))⟩, w_EVENTS_k2_0 := fun _ => .inr ⟨_, _, _, w_EVENTS_k2_0, rfl, rfl, len_line (Nat.le_of_ble_eq_true rfl), (.cons ⟨_, rfl⟩ (.cons rfl .nil))⟩, w_EVENTS_k2_0_1 := fun _ => .inr ⟨_, _, _, w_EVENTS_k2_0_1, rfl, rfl, len_line (Nat.le_of_ble_eq_true rfl), (.cons ⟨_, rfl⟩ (.cons ⟨_, rfl⟩ .nil))⟩, w_EVENTS_k2_1 := fun _ => .inr ⟨_, _, _, w_EVENTS_k2_1, rfl, rfl, len_line (Nat.le_of_ble_eq_true rfl), (.cons ⟨_, rfl⟩ (.cons rfl .nil))⟩, w_EVENTS_k2_1_1 := fun _ => .inr ⟨_, _, _, w_EVENTS_k2_1_1, rfl, rfl, len_line (Nat.le_of_ble_eq_true rfl), (.cons ⟨_, rfl⟩ .nil)⟩, w_EVENTS_k3 := fun _ => .inr ⟨_, _, _, w_EVENTS_k3, rfl, rfl, len_line (Nat.le_of_ble_eq_true rfl), (.cons rfl .nil)⟩, w_EVENTS_k3_0 := fun _ => .inr ⟨_, _, _, w_EVENTS_k3_0, rfl, rfl, len_line (Nat.le_of_ble_eq_true rfl), (.cons ⟨_, rfl⟩ (.cons rfl .nil))⟩, w_EVENTS_k3_0_1 := fun _ => .inr ⟨_, _, _, w_EVENTS_k3_0_1, rfl, rfl, len_line (Nat.le_of_ble_eq_true rfl), .nil⟩, w_EVENTS_k4 := fun _ => .inr ⟨_, _, _, w_EVENTS_k4, rfl, rfl, len_line (Nat.le_of_ble_eq_true rfl), (.cons rfl .nil)⟩, w_EVENTS_k4_0 := fun _ => .inr ⟨_, _, _, w_EVENTS_k4_0, rfl, rfl, len_line (Nat.le_of_ble_eq_true rfl), (.cons ⟨_, rfl⟩ (.cons rfl .nil))⟩, w_EVENTS_k4_0_1 := fun _ => .inr ⟨_, _, _, w_EVENTS_k4_0_1, rfl, rfl, len_line (Nat.le_of_ble_eq_true rfl), (.cons ⟨_, rfl⟩ (.cons ⟨_, rfl⟩ (.cons ⟨_, rfl⟩ (.cons ⟨_, rfl⟩ .nil))))⟩, w_EVENTS_k5 := fun _ => .inr ⟨_, _, _, w_EVENTS_k5, rfl, rfl, len_line (Nat.le_of_ble_eq_true rfl), (.cons rfl (.cons rfl (.cons rfl (.cons rfl .nil))))⟩, w_EVENTS_k5_0 := fun _ => .inr ⟨_, _, _, w_EVENTS_k5_0, rfl, rfl, len_line (Nat.le_of_ble_eq_true rfl), (.cons ⟨_, rfl⟩ (.cons rfl .nil))⟩, w_EVENTS_k5_0_1 := fun _ => .inr ⟨_, _, _, w_EVENTS_k5_0_1, rfl, rfl, len_line (Nat.le_of_ble_eq_true rfl), (.cons ⟨_, rfl⟩ (.cons ⟨_, rfl⟩ (.cons ⟨_, rfl⟩ (.cons ⟨_, rfl⟩ .nil))))⟩, w_EVENTS_k5_1 := fun _ => .inr ⟨_, _, _, w_EVENTS_k5_1, rfl, rfl, len_line (Nat.le_of_ble_eq_true rfl), (.cons ⟨_, rfl⟩ (.cons rfl .nil))⟩, w_EVENTS_k5_1_1 := fun _ => .inr ⟨_, _, _, w_EVENTS_k5_1_1, rfl, rfl, len_line (Nat.le_of_ble_eq_true rfl), .nil⟩, w_EVENTS_k5_2 := fun _ => .inr ⟨_, _, _, w_EVENTS_k5_2, rfl, rfl, len_line (Nat.le_of_ble_eq_true rfl), (.cons ⟨_, rfl⟩ (.cons rfl .nil))⟩, w_EVENTS_k5_2_1 := fun _ => .inr ⟨_, _, _, w_EVENTS_k5_2_1, rfl, rfl, len_line (Nat.le_of_ble_eq_true rfl), (.cons ⟨_, rfl⟩ .nil)⟩, w_EVENTS_k5_3 := fun _ => .inr ⟨_, _, _, w_EVENTS_k5_3, rfl, rfl, len_line (Nat.le_of_ble_eq_true rfl), (.cons ⟨_, rfl⟩ (.cons rfl .nil))⟩, w_EVENTS_k5_3_1 := fun _ => .inr ⟨_, _, _, w_EVENTS_k5_3_1, rfl, rfl, len_line (Nat.le_of_ble_eq_true rfl), (.cons ⟨_, rfl⟩ .nil)⟩, w_EVENTS_k6 := fun _ => .inr ⟨_, _, _, w_EVENTS_k6, rfl, rfl, len_line (Nat.le_of_ble_eq_true rfl), (.cons rfl (.cons rfl .nil))⟩, w_EVENTS_k6_0 := fun _ => .inr ⟨_, _, _, w_EVENTS_k6_0, rfl, rfl, len_line (Nat.le_of_ble_eq_true rfl), (.cons ⟨_, rfl⟩ (.cons rfl .nil))⟩, w_EVENTS_k6_0_1 := fun _ => .inr ⟨_, _, _, w_EVENTS_k6_0_1, rfl, rfl, len_line (Nat.le_of_ble_eq_true rfl), (.cons ⟨_, rfl⟩ (.cons ⟨_, rfl⟩ (.cons ⟨_, rfl⟩ (.cons ⟨_, rfl⟩ .nil))))⟩, w_EVENTS_k6_1 := fun _ => .inr ⟨_, _, _, w_EVENTS_k6_1, rfl, rfl, len_line (Nat.le_of_ble_eq_true rfl), (.cons ⟨_, rfl⟩ (.cons rfl .nil))⟩, w_EVENTS_k6_1_1 := fun _ => .inr ⟨_, _, _, w_EVENTS_k6_1_1, rfl, rfl, len_line (Nat.le_of_ble_eq_true rfl), .nil⟩, w_EVENTS_k7 := fun _ => .inr ⟨_, _, _, w_EVENTS_k7, rfl, rfl, len_line (Nat.le_of_ble_eq_true rfl), (.cons rfl (.cons rfl (.cons rfl (.cons rfl (.cons rfl .nil)))))⟩, w_EVENTS_k7_0 := fun _ => .inr ⟨_, _, _, w_EVENTS_k7_0, rfl, rfl, len_line (Nat.le_of_ble_eq_true rfl), (.cons ⟨_, rfl⟩ (.cons rfl .nil))⟩, w_EVENTS_k7_0_1 := fun _ => .inr ⟨_, _, _, w_EVENTS_k7_0_1, rfl, rfl, len_line (Nat.le_of_ble_eq_true rfl), (.cons ⟨_, rfl⟩ (.cons ⟨_, rfl⟩ (.cons ⟨_, rfl⟩ .nil)))⟩, w_EVENTS_k7_1 := fun _ => .inr ⟨_, _, _, w_EVENTS_k7_1, rfl, rfl, len_line (Nat.le_of_ble_eq_true rfl), (.cons ⟨_, rfl⟩ (.cons rfl .nil))⟩, w_EVENTS_k7_1_1 := fun _ => .inr ⟨_, _, _, w_EVENTS_k7_1_1, rfl, rfl, len_line (Nat.le_of_ble_eq_true rfl), (.cons ⟨_, rfl⟩ .nil)⟩, w_EVENTS_k7_2 := fun _ => .inr ⟨_, _, _, w_EVENTS_k7_2, rfl, rfl, len_line (Nat.le_of_ble_eq_true rfl), (.cons ⟨_, rfl⟩ (.cons rfl .nil))⟩, w_EVENTS_k7_2_1 := fun _ => .inr ⟨_, _, _, w_EVENTS_k7_2_1, rfl, rfl, len_line (Nat.le_of_ble_eq_true rfl), (.cons ⟨_, rfl⟩ (.cons ⟨_, rfl⟩ (.cons ⟨_, rfl⟩ .nil)))⟩, w_EVENTS_k7_3 := fun _ => .inr ⟨_, _, _, w_EVENTS_k7_3, rfl, rfl, len_line (Nat.le_of_ble_eq_true rfl), (.cons ⟨_, rfl⟩ (.cons rfl .nil))⟩, w_EVENTS_k7_3_1 := fun _ => .inr ⟨_, _, _, w_EVENTS_k7_3_1, rfl, rfl, len_line (Nat.le_of_ble_eq_true rfl), (.cons ⟨_, rfl⟩ (.cons ⟨_, rfl⟩ (.cons ⟨_, rfl⟩ (.cons ⟨_, rfl⟩ .nil))))⟩, w_EVENTS_k7_4 := fun _ => .inr ⟨_, _, _, w_EVENTS_k7_4, rfl, rfl, len_line (Nat.le_of_ble_eq_true rfl), (.cons ⟨_, rfl⟩ (.cons rfl .nil))⟩, w_EVENTS_k7_4_1 := fun _ => .inr ⟨_, _, _, w_EVENTS_k7_4_1, rfl, rfl, len_line (Nat.le_of_ble_eq_true rfl), (.cons ⟨_, rfl⟩ (.cons ⟨_, rfl⟩ (.cons ⟨_, rfl⟩ .nil)))⟩, w_EVENTS_k8 := fun _ => .inr ⟨_, _, _, w_EVENTS_k8, rfl, rfl, len_line (Nat.le_of_ble_eq_true rfl), (.cons rfl (.cons rfl (.cons rfl (.cons rfl (.cons rfl .nil)))))⟩, w_EVENTS_k8_0 := fun _ => .inr ⟨_, _, _, w_EVENTS_k8_0, rfl, rfl, len_line (Nat.le_of_ble_eq_true rfl), (.cons ⟨_, rfl⟩ (.cons rfl .nil))⟩, w_EVENTS_k8_0_1 := fun _ => .inr ⟨_, _, _, w_EVENTS_k8_0_1, rfl, rfl, len_line (Nat.le_of_ble_eq_true rfl), (.cons ⟨_, rfl⟩ .nil)⟩, w_EVENTS_k8_1 := fun _ => .inr ⟨_, _, _, w_EVENTS_k8_1, rfl, rfl, len_line (Nat.le_of_ble_eq_true rfl), (.cons ⟨_, rfl⟩ (.cons rfl .nil))⟩, w_EVENTS_k8_1_1 := fun _ => .inr ⟨_, _, _, w_EVENTS_k8_1_1, rfl, rfl, len_line (Nat.le_of_ble_eq_true rfl), (.cons ⟨_, rfl⟩ .nil)⟩, w_EVENTS_k8_2 := fun _ => .inr ⟨_, _, _, w_EVENTS_k8_2, rfl, rfl, len_line (Nat.le_of_ble_eq_true rfl), (.cons ⟨_, rfl⟩ (.cons rfl .nil))⟩, w_EVENTS_k8_2_1 := fun _ => .inr ⟨_, _, _, w_EVENTS_k8_2_1, rfl, rfl, len_line (Nat.le_of_ble_eq_true rfl), (.cons ⟨_, rfl⟩ .nil)⟩, w_EVENTS_k8_3 := fun _ => .inr ⟨_, _, _, w_EVENTS_k8_3, rfl, rfl, len_line (Nat.le_of_ble_eq_true rfl), (.cons ⟨_, rfl⟩ (.cons rfl .nil))⟩, w_EVENTS_k8_3_1 := fun _ => .inr ⟨_, _, _, w_EVENTS_k8_3_1, rfl, rfl, len_line (Nat.le_of_ble_eq_true rfl), (.cons ⟨_, rfl⟩ (.cons ⟨_, rfl⟩ (.cons ⟨_, rfl⟩ (.cons ⟨_, rfl⟩ .nil))))⟩, w_EVENTS_k8_4 := fun _ => .inr ⟨_, _, _, w_EVENTS_k8_4, rfl, rfl, len_line (Nat.le_of_ble_eq_true rfl), (.cons ⟨_, rfl⟩ (.cons rfl .nil))⟩, w_EVENTS_k8_4_1 := fun _ => .inr ⟨_, _, _, w_EVENTS_k8_4_1, rfl, rfl, len_line (Nat.le_of_ble_eq_true rfl), (.cons ⟨_, rfl⟩ (.cons ⟨_, rfl⟩ (.cons ⟨_, rfl⟩ .nil)))⟩, w_EVENTS_k9 := fun _ => .inr ⟨_, _, _, w_EVENTS_k9, rfl, rfl, len_line (Nat.le_of_ble_eq_true rfl), (.cons rfl (.cons rfl (.cons rfl (.cons rfl (.cons rfl (.cons rfl .nil))))))⟩, w_EVENTS_k9_0 := fun _ => .inr ⟨_, _, _, w_EVENTS_k9_0, rfl, rfl, len_line (Nat.le_of_ble_eq_true rfl), (.cons ⟨_, rfl⟩ (.cons rfl .nil))⟩, w_EVENTS_k9_0_1 := fun _ => .inr ⟨_, _, _, w_EVENTS_k9_0_1, rfl, rfl, len_line (Nat.le_of_ble_eq_true rfl), (.cons ⟨_, rfl⟩ (.cons ⟨_, rfl⟩ .nil))⟩, w_EVENTS_k9_1 := fun _ => .inr ⟨_, _, _, w_EVENTS_k9_1, rfl, rfl, len_line (Nat.le_of_ble_eq_true rfl), (.cons ⟨_, rfl⟩ (.cons rfl .nil))⟩, w_EVENTS_k9_1_1 := fun _ => .inr ⟨_, _, _, w_EVENTS_k9_1_1, rfl, rfl, len_line (Nat.le_of_ble_eq_true rfl), (.cons ⟨_, rfl⟩ (.cons ⟨_, rfl⟩ (.cons ⟨_, rfl⟩ .nil)))⟩, w_EVENTS_k9_2 := fun _ => .inr ⟨_, _, _, w_EVENTS_k9_2, rfl, rfl, len_line (Nat.le_of_ble_eq_true rfl), (.cons ⟨_, rfl⟩ (.cons rfl .nil))⟩, w_EVENTS_k9_2_1 := fun _ => .inr ⟨_, _, _, w_EVENTS_k9_2_1, rfl, rfl, len_line (Nat.le_of_ble_eq_true rfl), (.cons ⟨_, rfl⟩ .nil)⟩, w_EVENTS_k9_3 := fun _ => .inr ⟨_, _, _, w_EVENTS_k9_3, rfl, rfl, len_line (Nat.le_of_ble_eq_true rfl), (.cons ⟨_, rfl⟩ (.cons rfl .nil))⟩, w_EVENTS_k9_3_1 := fun _ => .inr ⟨_, _, _, w_EVENTS_k9_3_1, rfl, rfl, len_line (Nat.le_of_ble_eq_true rfl), (.cons ⟨_, rfl⟩ (.cons ⟨_, rfl⟩ (.cons ⟨_, rfl⟩ .nil)))⟩, w_EVENTS_k9_4 := fun _ => .inr ⟨_, _, _, w_EVENTS_k9_4, rfl, rfl, len_line (Nat.le_of_ble_eq_true rfl), (.cons ⟨_, rfl⟩ (.cons rfl .nil))⟩, w_EVENTS_k9_4_1 := fun _ => .inr ⟨_, _, _, w_EVENTS_k9_4_1, rfl, rfl, len_line (Nat.le_of_ble_eq_true rfl), .nil⟩, w_EVENTS_k9_5 := fun _ => .inr ⟨_, _, _, w_EVENTS_k9_5, rfl, rfl, len_line (Nat.le_of_ble_eq_true rfl), (.cons ⟨_, rfl⟩ (.cons rfl .nil))⟩, w_EVENTS_k9_5_1 := fun _ => .inr ⟨_, _, _, w_EVENTS_k9_5_1, rfl, rfl, len_line (Nat.le_of_ble_eq_true rfl), .nil⟩, w_EVENTS_k10 := fun _ => .inr ⟨_, _, _, w_EVENTS_k10, rfl, rfl, len_line (Nat.le_of_ble_eq_true rfl), (.cons rfl (.cons rfl .nil))⟩, w_EVENTS_k10_0 := fun _ => .inr ⟨_, _, _, w_EVENTS_k10_0, rfl, rfl, len_line (Nat.le_of_ble_eq_true rfl), (.cons ⟨_, rfl⟩ (.cons rfl .nil))⟩, w_EVENTS_k10_0_1 := fun _ => .inr ⟨_, _, _, w_EVENTS_k10_0_1, rfl, rfl, len_line (Nat.le_of_ble_eq_true rfl), (.cons ⟨_, rfl⟩ (.cons ⟨_, rfl⟩ .nil))⟩, w_EVENTS_k10_1 := fun _ => .inr ⟨_, _, _, w_EVENTS_k10_1, rfl, rfl, len_line (Nat.le_of_ble_eq_true rfl), (.cons ⟨_, rfl⟩ (.cons rfl .nil))⟩, w_EVENTS_k10_1_1 := fun _ => .inr ⟨_, _, _, w_EVENTS_k10_1_1, rfl, rfl, len_line (Nat.le_of_ble_eq_true rfl), (.cons ⟨_, rfl⟩ (.cons ⟨_, rfl⟩ (.cons ⟨_, rfl⟩ .nil)))⟩, w_EVENTS_k11 := fun _ => .inr ⟨_, _, _, w_EVENTS_k11, rfl, rfl, len_line (Nat.le_of_ble_eq_true rfl), (.cons rfl (.cons rfl (.cons rfl .nil)))⟩, w_EVENTS_k11_0 := fun _ => .inr ⟨_, _, _, w_EVENTS_k11_0, rfl, rfl, len_line (Nat.le_of_ble_eq_true rfl), (.cons ⟨_, rfl⟩ (.cons rfl .nil))⟩, w_EVENTS_k11_0_1 := fun _ => .inr ⟨_, _, _, w_EVENTS_k11_0_1, rfl, rfl, len_line (Nat.le_of_ble_eq_true rfl), (.cons ⟨_, rfl⟩ (.cons ⟨_, rfl⟩ .nil))⟩, w_EVENTS_k11_1 := fun _ => .inr ⟨_, _, _, w_EVENTS_k11_1, rfl, rfl, len_line (Nat.le_of_ble_eq_true rfl), (.cons ⟨_, rfl⟩ (.cons rfl .nil))⟩, w_EVENTS_k11_1_1 := fun _ => .inr ⟨_, _, _, w_EVENTS_k11_1_1, rfl, rfl, len_line (Nat.le_of_ble_eq_true rfl), .nil⟩, w_EVENTS_k11_2 := fun _ => .inr ⟨_, _, _, w_EVENTS_k11_2, rfl, rfl, len_line (Nat.le_of_ble_eq_true rfl), (.cons ⟨_, rfl⟩ (.cons rfl .nil))⟩, w_EVENTS_k11_2_1 := fun _ => .inr ⟨_, _, _, w_EVENTS_k11_2_1, rfl, rfl, len_line (Nat.le_of_ble_eq_true rfl), (.cons ⟨_, rfl⟩ (.cons ⟨_, rfl⟩ .nil))⟩, w_EVENTS_k12 := fun _ => .inr ⟨_, _, _, w_EVENTS_k12, rfl, rfl, len_line (Nat.le_of_ble_eq_true rfl), (.cons rfl (.cons rfl (.cons rfl .nil)))⟩, w_EVENTS_k12_0 := fun _ => .inr ⟨_, _, _, w_EVENTS_k12_0, rfl, rfl, len_line (Nat.le_of_ble_eq_true rfl), (.cons ⟨_, rfl⟩ (.cons rfl .nil))⟩, w_EVENTS_k12_0_1 := fun _ => .inr ⟨_, _, _, w_EVENTS_k12_0_1, rfl, rfl, len_line (Nat.le_of_ble_eq_true rfl), (.cons ⟨_, rfl⟩ .nil)⟩, w_EVENTS_k12_1 := fun _ => .inr ⟨_, _, _, w_EVENTS_k12_1, rfl, rfl, len_line (Nat.le_of_ble_eq_true rfl), (.cons ⟨_, rfl⟩ (.cons rfl .nil))⟩, w_EVENTS_k12_1_1 := fun _ => .inr ⟨_, _, _, w_EVENTS_k12_1_1, rfl, rfl, len_line (Nat.le_of_ble_eq_true rfl), .nil⟩, w_EVENTS_k12_2 := fun _ => .inr ⟨_, _, _, w_EVENTS_k12_2, rfl, rfl, len_line (Nat.le_of_ble_eq_true rfl), (.cons ⟨_, rfl⟩ (.cons rfl .nil))⟩, w_EVENTS_k12_2_1 := fun _ => .inr ⟨_, _, _, w_EVENTS_k12_2_1, rfl, rfl, len_line (Nat.le_of_ble_eq_true rfl), (.cons ⟨_, rfl⟩ (.cons ⟨_, rfl⟩ .nil))⟩, w_EVENTS_k13 := fun _ => .inr ⟨_, _, _, w_EVENTS_k13, rfl, rfl, len_line (Nat.le_of_ble_eq_true rfl), (.cons rfl (.cons rfl .nil))⟩, w_EVENTS_k13_0 := fun _ => .inr ⟨_, _, _, w_EVENTS_k13_0, rfl, rfl, len_line (Nat.le_of_ble_eq_true rfl), (.cons ⟨_, rfl⟩ (.cons rfl .nil))⟩, w_EVENTS_k13_0_1 := fun _ => .inr ⟨_, _, _, w_EVENTS_k13_0_1, rfl, rfl, len_line (Nat.le_of_ble_eq_true rfl), .nil⟩, w_EVENTS_k13_1 := fun _ => .inr ⟨_, _, _, w_EVENTS_k13_1, rfl, rfl, len_line (Nat.le_of_ble_eq_true rfl), (.cons ⟨_, rfl⟩ (.cons rfl .nil))⟩, w_EVENTS_k13_1_1 := fun _ => .inr ⟨_, _, _, w_EVENTS_k13_1_1, rfl, rfl, len_line (Nat.le_of_ble_eq_true rfl), .nil⟩, clOutput := ⟨pgOutput, hdOutput, poOutput, saOutput⟩, gOutput := PySem.W.mg_of X G uOutput, nOutput_number := nOutput_number, nOutput_x := nOutput_x, nOutput_y := nOutput_y, nOutput_width := nOutput_width, nOutput_height := nOutput_height, nOutput_scale := nOutput_scale, nOutput_turn := nOutput_turn, clRegistries := ⟨pgRegistries, hdRegistries, poRegistries, saRegistries⟩, gRegistries := PySem.W.mg_of X G uRegistries, nRegistries__registries := nRegistries__registries, nRegistries__owners := nRegistries__owners, clReply := ⟨pgReply, hdReply, poReply, saReply⟩, gReply := PySem.W.mg_of X G uReply, nReply_told := nReply_told, nReply_ended := nReply_ended, nReply_wishes := nReply_wishes, nReply_applied := nReply_applied, clRequest := ⟨pgRequest, hdRequest, poRequest, saRequest⟩, gRequest := PySem.W.mg_of X G uRequest, nRequest_number := nRequest_number, nRequest_interface := nRequest_interface, nRequest_name := nRequest_name, nRequest_arguments := nRequest_arguments, nRequest_ends := nRequest_ends, gBadMessage := PySem.W.mg_of X G uBadMessage, xBadMessage := xBadMessage, kBadMessage := keBadMessage, bxBadMessage := bxBadMessage, txBadMessage := txBadMessage, exBadMessage := exm_self bxBadMessage ixBadMessage txBadMessage sxBadMessage, gMessageTooLong := PySem.W.mg_of X G uMessageTooLong, xMessageTooLong := xMessageTooLong, kMessageTooLong := keMessageTooLong, bxMessageTooLong := bxMessageTooLong, txMessageTooLong := txMessageTooLong, exMessageTooLong := exm_self bxMessageTooLong ixMessageTooLong txMessageTooLong sxMessageTooLong, gFault := PySem.W.mg_of X G uFault, oFault := oFault, vFault := ⟨oFault, mrFault, ksFault, veFault, tpFault⟩, xfFault := ⟨gaFault, gtFault, bxFault, hxFault⟩, iXFault := ⟨gaFault, gtFault, bxFault, hxFault, fcFault, sgFault, tkFault, moFault⟩, kFault := keFault, bxFault := bxFault, txFault := txFault, exFault := exm_self bxFault ixFault txFault sxFault, nFault_number := nFault_number, nFault_code := nFault_code, nFault_words := nFault_words, prg := hP }, { d_EVENTS_k0 := ⟨_, _, _, dl_EVENTS, dk_EVENTS, de_EVENTS_k0, rfl⟩, d_EVENTS_k1 := ⟨_, _, _, dl_EVENTS, dk_EVENTS, de_EVENTS_k1, rfl⟩, d_EVENTS_k2 := ⟨_, _, _, dl_EVENTS, dk_EVENTS, de_EVENTS_k2, rfl⟩, d_EVENTS_k3 := ⟨_, _, _, dl_EVENTS, dk_EVENTS, de_EVENTS_k3, rfl⟩, d_EVENTS_k4 := ⟨_, _, _, dl_EVENTS, dk_EVENTS, de_EVENTS_k4, rfl⟩, d_EVENTS_k5 := ⟨_, _, _, dl_EVENTS, dk_EVENTS, de_EVENTS_k5, rfl⟩, d_EVENTS_k6 := ⟨_, _, _, dl_EVENTS, dk_EVENTS, de_EVENTS_k6, rfl⟩, d_EVENTS_k7 := ⟨_, _, _, dl_EVENTS, dk_EVENTS, de_EVENTS_k7, rfl⟩, d_EVENTS_k8 := ⟨_, _, _, dl_EVENTS, dk_EVENTS, de_EVENTS_k8, rfl⟩, d_EVENTS_k9 := ⟨_, _, _, dl_EVENTS, dk_EVENTS, de_EVENTS_k9, rfl⟩, d_EVENTS_k10 := ⟨_, _, _, dl_EVENTS, dk_EVENTS, de_EVENTS_k10, rfl⟩, d_EVENTS_k11 := ⟨_, _, _, dl_EVENTS, dk_EVENTS, de_EVENTS_k11, rfl⟩, d_EVENTS_k12 := ⟨_, _, _, dl_EVENTS, dk_EVENTS, de_EVENTS_k12, rfl⟩, d_EVENTS_k13 := ⟨_, _, _, dl_EVENTS, dk_EVENTS, de_EVENTS_k13, rfl⟩ }, fun s v => .of_eq rfl⟩
theorem walk {l : PySem.W.OpenLaw} {q : Program} {loose : List Str} {XP : (Str → Option Value) → Heap → Prop} {YP : World → Heap → Prop} {d : DefRec} {K : Params → PySem.W.Frag} (hn : l.most = some 63) (hdf : d.params.defaults = [])
    (hY : ∀ (w : World) (h : Heap), YP w h → (K w.params).In h)
    (F : ∀ (w : World) (mg : Str → Option Value) (fa : Addr) (h : Heap), (K w.params).In h → h.Ns mainGlobals mg → mg d.name = some (.ref fa) →
      ∃ A : Adr, A.flaw = fa ∧ Txt0 l.prog (K w.params) mg A ∧ Dic w (K w.params) A ∧ (∀ (s : Shared) (v : Value), BindsTo s A.dlaw ⟨[v], []⟩ [("script", v)])) :
    PySem.W.WalkO q loose XP YP l.row.toRowW d [] (fun f vs => PySem.call f vs) :=
  L2.walk_of (n := 63) (k := 14) (x := "script") (CX := fun _ => CX0) (sp := fun w => sp_law (K w.params)) hn (by decide) hdf ⟨rfl, by decide, by decide⟩ hY (fun w mg fa h X G hfa => by
    obtain ⟨A, rfl, T, D, b⟩ := F w mg fa h X G hfa
    exact ⟨A.dlaw, b, fun base _ _ => ok_law T D⟩) (fun _ _ a ns hl _ hS => ⟨a, ns, rfl, hS, hl, fun _ => rfl⟩) fun _ _ _ _ _ z => z
end My
open PySem PySem.W PyProof.Rows
set_option maxRecDepth 100000 in
set_option maxHeartbeats 0 in
theorem PySem.Challenge.cw_sillwatch_k16_outputs_that_change_holds : PySem.Challenge.rw_sillwatch_k16_outputs_that_change.Holds := by
  w_on; o_law; k_head; (case hw => w_witness2)
  k_fill
  refine My.walk (l := PySem.Challenge.rw_sillwatch_k16_outputs_that_change) rfl rfl (fun w h Y => PySem.W.kIn_of Y) ?F
  case F =>
    intro w mg fa h KX G hmg
    refine' My.all_mk (P := PySem.Challenge.rw_sillwatch_k16_outputs_that_change.prog) ⟨by first | rfl | decide +kernel, by first | rfl | decide +kernel⟩ KX G hmg ?a1 ?l1 ?c1 ?k1 ?a2 ?l2 ?c2 ?k2 ?a3 ?l3 ?c3 ?k3 ?a4 ?l4 ?c4 ?k4 ?a5 ?l5 ?c5 ?k5 ?a6 ?l6 ?c6 ?k6 ?a7 ?l7 ?c7 ?k7 ?a8 ?l8 ?c8 ?k8 ?a9 ?l9 ?c9 ?k9 ?a10 ?l10 ?c10 ?k10 ?a11 ?l11 ?c11 ?k11 ?a12 ?l12 ?c12 ?k12 ?a13 ?l13 ?c13 ?k13 ?a14 ?l14 ?c14 ?k14 ?a15 ?l15 ?c15 ?k15 ?a16 ?l16 ?c16 ?k16 ?a17 ?l17 ?c17 ?k17 ?a18 ?l18 ?c18 ?k18 ?a19 ?l19 ?c19 ?k19 ?a20 ?l20 ?c20 ?k20 ?a21 ?l21 ?c21 ?k21 ?a22 ?l22 ?c22 ?k22 ?a23 ?l23 ?c23 ?k23 ?a24 ?l24 ?c24 ?k24 ?a25 ?l25 ?c25 ?k25 ?a26 ?l26 ?c26 ?k26 ?a27 ?l27 ?c27 ?k27 ?a28 ?l28 ?c28 ?k28 ?a29 ?l29 ?c29 ?k29 ?a30 ?l30 ?c30 ?k30 ?a31 ?l31 ?c31 ?k31 ?a32 ?i32 ?l32 ?c32 ?k32 ?lc32 ?ld32 ?rv32 ?lD32 ?ty32 ?a33 ?i33 ?l33 ?c33 ?k33 ?a34 ?i34 ?l34 ?c34 ?k34 ?a35 ?i35 ?l35 ?c35 ?k35 ?a36 ?i36 ?l36 ?c36 ?k36 ?a37 ?i37 ?l37 ?c37 ?k37 ?a38 ?i38 ?l38 ?c38 ?k38 ?a39 ?i39 ?l39 ?c39 ?k39 ?a40 ?i40 ?l40 ?c40 ?k40 ?a41 ?i41 ?l41 ?c41 ?k41 ?a42 ?i42 ?l42 ?c42 ?k42 ?a43 ?i43 ?l43 ?c43 ?k43 ?z_all ?z_bool ?z_int ?z_isinstance ?z_len ?z_list ?z_min ?z_ord ?z_range ?z_str ?z_super ?z_tuple ?z_zip ?q__GLOBALS ?w_GLOBALS ?w_GLOBALS_0 ?w_GLOBALS_1 ?w_GLOBALS_2 ?w_GLOBALS_3 ?w_GLOBALS_4 ?w_GLOBALS_5 ?q__FIRST_OUTPUT ?q_GREATEST_NUMBER ?q_LEAST_INT ?q_GREATEST_INT ?q_LONGEST_TEXT ?q_MOST_OCTETS ?q__FIRST_CODE ?q__LAST_CODE ?q__PERCENT_CODE ?q_HEADER_SIZE ?q_GREATEST_SIZE ?q_GREATEST_OPCODE ?q_MOST_ARGUMENTS ?q__EVENTS ?dl_EVENTS ?dk_EVENTS ?de_EVENTS_k0 ?de_EVENTS_k1 ?de_EVENTS_k2 ?de_EVENTS_k3 ?de_EVENTS_k4 ?de_EVENTS_k5 ?de_EVENTS_k6 ?de_EVENTS_k7 ?de_EVENTS_k8 ?de_EVENTS_k9 ?de_EVENTS_k10 ?de_EVENTS_k11 ?de_EVENTS_k12 ?de_EVENTS_k13 ?w_EVENTS_k0 ?w_EVENTS_k0_0 ?w_EVENTS_k0_0_1 ?w_EVENTS_k0_1 ?w_EVENTS_k0_1_1 ?w_EVENTS_k1 ?w_EVENTS_k1_0 ?w_EVENTS_k1_0_1 ?w_EVENTS_k2 ?w_EVENTS_k2_0 ?w_EVENTS_k2_0_1 ?w_EVENTS_k2_1 ?w_EVENTS_k2_1_1 ?w_EVENTS_k3 ?w_EVENTS_k3_0 ?w_EVENTS_k3_0_1 ?w_EVENTS_k4 ?w_EVENTS_k4_0 ?w_EVENTS_k4_0_1 ?w_EVENTS_k5 ?w_EVENTS_k5_0 ?w_EVENTS_k5_0_1 ?w_EVENTS_k5_1 ?w_EVENTS_k5_1_1 ?w_EVENTS_k5_2 ?w_EVENTS_k5_2_1 ?w_EVENTS_k5_3 ?w_EVENTS_k5_3_1 ?w_EVENTS_k6 ?w_EVENTS_k6_0 ?w_EVENTS_k6_0_1 ?w_EVENTS_k6_1 ?w_EVENTS_k6_1_1 ?w_EVENTS_k7 ?w_EVENTS_k7_0 ?w_EVENTS_k7_0_1 ?w_EVENTS_k7_1 ?w_EVENTS_k7_1_1 ?w_EVENTS_k7_2 ?w_EVENTS_k7_2_1 ?w_EVENTS_k7_3 ?w_EVENTS_k7_3_1 ?w_EVENTS_k7_4 ?w_EVENTS_k7_4_1 ?w_EVENTS_k8 ?w_EVENTS_k8_0 ?w_EVENTS_k8_0_1 ?w_EVENTS_k8_1 ?w_EVENTS_k8_1_1 ?w_EVENTS_k8_2 ?w_EVENTS_k8_2_1 ?w_EVENTS_k8_3 ?w_EVENTS_k8_3_1 ?w_EVENTS_k8_4 ?w_EVENTS_k8_4_1 ?w_EVENTS_k9 ?w_EVENTS_k9_0 ?w_EVENTS_k9_0_1 ?w_EVENTS_k9_1 ?w_EVENTS_k9_1_1 ?w_EVENTS_k9_2 ?w_EVENTS_k9_2_1 ?w_EVENTS_k9_3 ?w_EVENTS_k9_3_1 ?w_EVENTS_k9_4 ?w_EVENTS_k9_4_1 ?w_EVENTS_k9_5 ?w_EVENTS_k9_5_1 ?w_EVENTS_k10 ?w_EVENTS_k10_0 ?w_EVENTS_k10_0_1 ?w_EVENTS_k10_1 ?w_EVENTS_k10_1_1 ?w_EVENTS_k11 ?w_EVENTS_k11_0 ?w_EVENTS_k11_0_1 ?w_EVENTS_k11_1 ?w_EVENTS_k11_1_1 ?w_EVENTS_k11_2 ?w_EVENTS_k11_2_1 ?w_EVENTS_k12 ?w_EVENTS_k12_0 ?w_EVENTS_k12_0_1 ?w_EVENTS_k12_1 ?w_EVENTS_k12_1_1 ?w_EVENTS_k12_2 ?w_EVENTS_k12_2_1 ?w_EVENTS_k13 ?w_EVENTS_k13_0 ?w_EVENTS_k13_0_1 ?w_EVENTS_k13_1 ?w_EVENTS_k13_1_1 ?uOutput ?pgOutput ?hdOutput ?poOutput ?saOutput ?mkOutput ?kcOutput ?nOutput_number ?nOutput_x ?nOutput_y ?nOutput_width ?nOutput_height ?nOutput_scale ?nOutput_turn ?uRegistries ?pgRegistries ?hdRegistries ?poRegistries ?saRegistries ?mkRegistries ?kcRegistries ?nRegistries__registries ?nRegistries__owners ?uReply ?pgReply ?hdReply ?poReply ?saReply ?mkReply ?kcReply ?nReply_told ?nReply_ended ?nReply_wishes ?nReply_applied ?uRequest ?pgRequest ?hdRequest ?poRequest ?saRequest ?mkRequest ?kcRequest ?nRequest_number ?nRequest_interface ?nRequest_name ?nRequest_arguments ?nRequest_ends ?uBadMessage ?xBadMessage ?keBadMessage ?bxBadMessage ?txBadMessage ?ixBadMessage ?sxBadMessage ?uMessageTooLong ?xMessageTooLong ?keMessageTooLong ?bxMessageTooLong ?txMessageTooLong ?ixMessageTooLong ?sxMessageTooLong ?uFault ?loFault ?rmFault ?keFault ?bxFault ?txFault ?ixFault ?sxFault ?saFault ?mrFault ?ksFault ?veFault ?tpFault ?gaFault ?gtFault ?hxFault ?fcFault ?moFault ?sgFault ?tkFault ?nFault_number ?nFault_code ?nFault_words
    (case uOutput => k_is)
    (case uRegistries => k_is)
    (case uReply => k_is)
    (case uRequest => k_is)
    (case uBadMessage => k_is)
    (case uMessageTooLong => k_is)
    (case uFault => k_is)
    (case a1 => k_is)
    (case l1 => k_is)
    (case c1 => k_is)
    (case k1 => k_is)
    (case a2 => k_is)
    (case l2 => k_is)
    (case c2 => k_is)
    (case k2 => k_is)
    (case a3 => k_is)
    (case l3 => k_is)
    (case c3 => k_is)
    (case k3 => k_is)
    (case a4 => k_is)
    (case l4 => k_is)
    (case c4 => k_is)
    (case k4 => k_is)
    (case a5 => k_is)
    (case l5 => k_is)
    (case c5 => k_is)
    (case k5 => k_is)
    (case a6 => k_is)
    (case l6 => k_is)
    (case c6 => k_is)
    (case k6 => k_is)
    (case a7 => k_is)
    (case l7 => k_is)
    (case c7 => k_is)
    (case k7 => k_is)
    (case a8 => k_is)
    (case l8 => k_is)
    (case c8 => k_is)
    (case k8 => k_is)
    (case a9 => k_is)
    (case l9 => k_is)
    (case c9 => k_is)
    (case k9 => k_is)
    (case a10 => k_is)
    (case l10 => k_is)
    (case c10 => k_is)
    (case k10 => k_is)
    (case a11 => k_is)
    (case l11 => k_is)
    (case c11 => k_is)
    (case k11 => k_is)
    (case a12 => k_is)
    (case l12 => k_is)
    (case c12 => k_is)
    (case k12 => k_is)
    (case a13 => k_is)
    (case l13 => k_is)
    (case c13 => k_is)
    (case k13 => k_is)
    (case a14 => k_is)
    (case l14 => k_is)
    (case c14 => k_is)
    (case k14 => k_is)
    (case a15 => k_is)
    (case l15 => k_is)
    (case c15 => k_is)
    (case k15 => k_is)
    (case a16 => k_is)
    (case l16 => k_is)
    (case c16 => k_is)
    (case k16 => k_is)
    (case a17 => k_is)
    (case l17 => k_is)
    (case c17 => k_is)
    (case k17 => k_is)
    (case a18 => k_is)
    (case l18 => k_is)
    (case c18 => k_is)
    (case k18 => k_is)
    (case a19 => k_is)
    (case l19 => k_is)
    (case c19 => k_is)
    (case k19 => k_is)
    (case a20 => k_is)
    (case l20 => k_is)
    (case c20 => k_is)
    (case k20 => k_is)
    (case a21 => k_is)
    (case l21 => k_is)
    (case c21 => k_is)
    (case k21 => k_is)
    (case a22 => k_is)
    (case l22 => k_is)
    (case c22 => k_is)
    (case k22 => k_is)
    (case a23 => k_is)
    (case l23 => k_is)
    (case c23 => k_is)
    (case k23 => k_is)
    (case a24 => k_is)
    (case l24 => k_is)
    (case c24 => k_is)
    (case k24 => k_is)
    (case a25 => k_is)
    (case l25 => k_is)
    (case c25 => k_is)
    (case k25 => k_is)
    (case a26 => k_is)
    (case l26 => k_is)
    (case c26 => k_is)
    (case k26 => k_is)
    (case a27 => k_is)
    (case l27 => k_is)
    (case c27 => k_is)
    (case k27 => k_is)
    (case a28 => k_is)
    (case l28 => k_is)
    (case c28 => k_is)
    (case k28 => k_is)
    (case a29 => k_is)
    (case l29 => k_is)
    (case c29 => k_is)
    (case k29 => k_is)
    (case a30 => k_is)
    (case l30 => k_is)
    (case c30 => k_is)
    (case k30 => k_is)
    (case a31 => k_is)
    (case l31 => k_is)
    (case c31 => k_is)
    (case k31 => k_is)
    (case a32 => k_is)
    (case i32 => k_is)
    (case l32 => k_is)
    (case c32 => k_is)
    (case k32 => k_is)
    (case lc32 => k_is)
    (case ld32 => k_is)
    (case rv32 => first | rfl | decide +kernel)
    (case lD32 => k_is)
    (case ty32 => k_is)
    (case a33 => k_is)
    (case i33 => k_is)
    (case l33 => k_is)
    (case c33 => k_is)
    (case k33 => k_is)
    (case a34 => k_is)
    (case i34 => k_is)
    (case l34 => k_is)
    (case c34 => k_is)
    (case k34 => k_is)
    (case a35 => k_is)
    (case i35 => k_is)
    (case l35 => k_is)
    (case c35 => k_is)
    (case k35 => k_is)
    (case a36 => k_is)
    (case i36 => k_is)
    (case l36 => k_is)
    (case c36 => k_is)
    (case k36 => k_is)
    (case a37 => k_is)
    (case i37 => k_is)
    (case l37 => k_is)
    (case c37 => k_is)
    (case k37 => k_is)
    (case a38 => k_is)
    (case i38 => k_is)
    (case l38 => k_is)
    (case c38 => k_is)
    (case k38 => k_is)
    (case a39 => k_is)
    (case i39 => k_is)
    (case l39 => k_is)
    (case c39 => k_is)
    (case k39 => k_is)
    (case a40 => k_is)
    (case i40 => k_is)
    (case l40 => k_is)
    (case c40 => k_is)
    (case k40 => k_is)
    (case a41 => k_is)
    (case i41 => k_is)
    (case l41 => k_is)
    (case c41 => k_is)
    (case k41 => k_is)
    (case a42 => k_is)
    (case i42 => k_is)
    (case l42 => k_is)
    (case c42 => k_is)
    (case k42 => k_is)
    (case a43 => k_is)
    (case i43 => k_is)
    (case l43 => k_is)
    (case c43 => k_is)
    (case k43 => k_is)
    (case z_all => k_is)
    (case z_bool => k_is)
    (case z_int => k_is)
    (case z_isinstance => k_is)
    (case z_len => k_is)
    (case z_list => k_is)
    (case z_min => k_is)
    (case z_ord => k_is)
    (case z_range => k_is)
    (case z_str => k_is)
    (case z_super => k_is)
    (case z_tuple => k_is)
    (case z_zip => k_is)
    (case q__GLOBALS => k_is)
    (case w_GLOBALS => k_is)
    (case w_GLOBALS_0 => k_is)
    (case w_GLOBALS_1 => k_is)
    (case w_GLOBALS_2 => k_is)
    (case w_GLOBALS_3 => k_is)
    (case w_GLOBALS_4 => k_is)
    (case w_GLOBALS_5 => k_is)
    (case q__FIRST_OUTPUT => k_is)
    (case q_GREATEST_NUMBER => k_is)
    (case q_LEAST_INT => k_is)
    (case q_GREATEST_INT => k_is)
    (case q_LONGEST_TEXT => k_is)
    (case q_MOST_OCTETS => k_is)
    (case q__FIRST_CODE => k_is)
    (case q__LAST_CODE => k_is)
    (case q__PERCENT_CODE => k_is)
    (case q_HEADER_SIZE => k_is)
    (case q_GREATEST_SIZE => k_is)
    (case q_GREATEST_OPCODE => k_is)
    (case q_MOST_ARGUMENTS => k_is)
    (case q__EVENTS => k_is)
    (case dl_EVENTS => k_is)
    (case dk_EVENTS => k_keys)
    (case de_EVENTS_k0 => k_is)
    (case de_EVENTS_k1 => k_is)
    (case de_EVENTS_k2 => k_is)
    (case de_EVENTS_k3 => k_is)
    (case de_EVENTS_k4 => k_is)
    (case de_EVENTS_k5 => k_is)
    (case de_EVENTS_k6 => k_is)
    (case de_EVENTS_k7 => k_is)
    (case de_EVENTS_k8 => k_is)
    (case de_EVENTS_k9 => k_is)
    (case de_EVENTS_k10 => k_is)
    (case de_EVENTS_k11 => k_is)
    (case de_EVENTS_k12 => k_is)
    (case de_EVENTS_k13 => k_is)
    (case w_EVENTS_k0 => k_is)
    (case w_EVENTS_k0_0 => k_is)
    (case w_EVENTS_k0_0_1 => k_is)
    (case w_EVENTS_k0_1 => k_is)
    (case w_EVENTS_k0_1_1 => k_is)
    (case w_EVENTS_k1 => k_is)
    (case w_EVENTS_k1_0 => k_is)
    (case w_EVENTS_k1_0_1 => k_is)
    (case w_EVENTS_k2 => k_is)
    (case w_EVENTS_k2_0 => k_is)
    (case w_EVENTS_k2_0_1 => k_is)
    (case w_EVENTS_k2_1 => k_is)
    (case w_EVENTS_k2_1_1 => k_is)
    (case w_EVENTS_k3 => k_is)
    (case w_EVENTS_k3_0 => k_is)
    (case w_EVENTS_k3_0_1 => k_is)
    (case w_EVENTS_k4 => k_is)
    (case w_EVENTS_k4_0 => k_is)
    (case w_EVENTS_k4_0_1 => k_is)
    (case w_EVENTS_k5 => k_is)
    (case w_EVENTS_k5_0 => k_is)
    (case w_EVENTS_k5_0_1 => k_is)
    (case w_EVENTS_k5_1 => k_is)
    (case w_EVENTS_k5_1_1 => k_is)
    (case w_EVENTS_k5_2 => k_is)
    (case w_EVENTS_k5_2_1 => k_is)
    (case w_EVENTS_k5_3 => k_is)
    (case w_EVENTS_k5_3_1 => k_is)
    (case w_EVENTS_k6 => k_is)
    (case w_EVENTS_k6_0 => k_is)
    (case w_EVENTS_k6_0_1 => k_is)
    (case w_EVENTS_k6_1 => k_is)
    (case w_EVENTS_k6_1_1 => k_is)
    (case w_EVENTS_k7 => k_is)
    (case w_EVENTS_k7_0 => k_is)
    (case w_EVENTS_k7_0_1 => k_is)
    (case w_EVENTS_k7_1 => k_is)
    (case w_EVENTS_k7_1_1 => k_is)
    (case w_EVENTS_k7_2 => k_is)
    (case w_EVENTS_k7_2_1 => k_is)
    (case w_EVENTS_k7_3 => k_is)
    (case w_EVENTS_k7_3_1 => k_is)
    (case w_EVENTS_k7_4 => k_is)
    (case w_EVENTS_k7_4_1 => k_is)
    (case w_EVENTS_k8 => k_is)
    (case w_EVENTS_k8_0 => k_is)
    (case w_EVENTS_k8_0_1 => k_is)
    (case w_EVENTS_k8_1 => k_is)
    (case w_EVENTS_k8_1_1 => k_is)
    (case w_EVENTS_k8_2 => k_is)
    (case w_EVENTS_k8_2_1 => k_is)
    (case w_EVENTS_k8_3 => k_is)
    (case w_EVENTS_k8_3_1 => k_is)
    (case w_EVENTS_k8_4 => k_is)
    (case w_EVENTS_k8_4_1 => k_is)
    (case w_EVENTS_k9 => k_is)
    (case w_EVENTS_k9_0 => k_is)
    (case w_EVENTS_k9_0_1 => k_is)
    (case w_EVENTS_k9_1 => k_is)
    (case w_EVENTS_k9_1_1 => k_is)
    (case w_EVENTS_k9_2 => k_is)
    (case w_EVENTS_k9_2_1 => k_is)
    (case w_EVENTS_k9_3 => k_is)
    (case w_EVENTS_k9_3_1 => k_is)
    (case w_EVENTS_k9_4 => k_is)
    (case w_EVENTS_k9_4_1 => k_is)
    (case w_EVENTS_k9_5 => k_is)
    (case w_EVENTS_k9_5_1 => k_is)
    (case w_EVENTS_k10 => k_is)
    (case w_EVENTS_k10_0 => k_is)
    (case w_EVENTS_k10_0_1 => k_is)
    (case w_EVENTS_k10_1 => k_is)
    (case w_EVENTS_k10_1_1 => k_is)
    (case w_EVENTS_k11 => k_is)
    (case w_EVENTS_k11_0 => k_is)
    (case w_EVENTS_k11_0_1 => k_is)
    (case w_EVENTS_k11_1 => k_is)
    (case w_EVENTS_k11_1_1 => k_is)
    (case w_EVENTS_k11_2 => k_is)
    (case w_EVENTS_k11_2_1 => k_is)
    (case w_EVENTS_k12 => k_is)
    (case w_EVENTS_k12_0 => k_is)
    (case w_EVENTS_k12_0_1 => k_is)
    (case w_EVENTS_k12_1 => k_is)
    (case w_EVENTS_k12_1_1 => k_is)
    (case w_EVENTS_k12_2 => k_is)
    (case w_EVENTS_k12_2_1 => k_is)
    (case w_EVENTS_k13 => k_is)
    (case w_EVENTS_k13_0 => k_is)
    (case w_EVENTS_k13_0_1 => k_is)
    (case w_EVENTS_k13_1 => k_is)
    (case w_EVENTS_k13_1_1 => k_is)
    (case pgOutput => k_is)
    (case hdOutput => k_is)
    (case poOutput => k_is)
    (case saOutput => k_is)
    (case mkOutput => k_is)
    (case kcOutput => k_is)
    (case nOutput_number => k_is)
    (case nOutput_x => k_is)
    (case nOutput_y => k_is)
    (case nOutput_width => k_is)
    (case nOutput_height => k_is)
    (case nOutput_scale => k_is)
    (case nOutput_turn => k_is)
    (case pgRegistries => k_is)
    (case hdRegistries => k_is)
    (case poRegistries => k_is)
    (case saRegistries => k_is)
    (case mkRegistries => k_is)
    (case kcRegistries => k_is)
    (case nRegistries__registries => k_is)
    (case nRegistries__owners => k_is)
    (case pgReply => k_is)
    (case hdReply => k_is)
    (case poReply => k_is)
    (case saReply => k_is)
    (case mkReply => k_is)
    (case kcReply => k_is)
    (case nReply_told => k_is)
    (case nReply_ended => k_is)
    (case nReply_wishes => k_is)
    (case nReply_applied => k_is)
    (case pgRequest => k_is)
    (case hdRequest => k_is)
    (case poRequest => k_is)
    (case saRequest => k_is)
    (case mkRequest => k_is)
    (case kcRequest => k_is)
    (case nRequest_number => k_is)
    (case nRequest_interface => k_is)
    (case nRequest_name => k_is)
    (case nRequest_arguments => k_is)
    (case nRequest_ends => k_is)
    (case xBadMessage => k_exc)
    (case keBadMessage => k_is)
    (case bxBadMessage => k_is)
    (case txBadMessage => k_is)
    (case ixBadMessage => k_is)
    (case sxBadMessage => first | rfl | k_is)
    (case xMessageTooLong => k_exc)
    (case keMessageTooLong => k_is)
    (case bxMessageTooLong => k_is)
    (case txMessageTooLong => k_is)
    (case ixMessageTooLong => k_is)
    (case sxMessageTooLong => first | rfl | k_is)
    (case loFault => k_is)
    (case rmFault => first | rfl | decide +kernel)
    (case keFault => k_is)
    (case bxFault => k_is)
    (case txFault => k_is)
    (case ixFault => k_is)
    (case sxFault => first | rfl | k_is)
    (case saFault => k_is)
    (case mrFault => k_is)
    (case ksFault => ks_is)
    (case veFault => k_is)
    (case tpFault => k_is)
    (case gaFault => k_is)
    (case gtFault => k_is)
    (case hxFault => k_is)
    (case fcFault => k_is)
    (case moFault => k_is)
    (case sgFault => k_is)
    (case tkFault => k_is)
    (case nFault_number => k_is)
    (case nFault_code => k_is)
    (case nFault_words => k_is)
