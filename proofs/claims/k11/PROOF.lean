import PyProof.Rows.All
import Wide.All
import OpenK.AllK
import Wide.FinOn
import HandS.ForMost
import HandS.Exc
import HandS.TryOnly
import HandS.ExcOwn
import HandS.WordsExc
import HandS.IsInst
import HandS.Wide
import HandS.Flow
import HandS.More
import HandS.Codes
import HandS.Walk
import HandS.TupLe
import HandS.WordsDict
import HandS.Conv
import HandS.TryMany
import HandS.ExcIs
import KE.KBits
import HandS.CallLocal
import HandS.Strs
import HandS.SetFor
import HandS.Set
import HandS.Property
import KE.GoesMore
import KE.KTurns
import KE.KDictZip
import HandS.Keys
import HandS.Replace
import HandS.Text
import HandS.NoneIn
import PySem.Challenge.RW_sillwatch_k11_interface_table
set_option Elab.async false
set_option linter.all false
set_option maxRecDepth 100000
set_option maxHeartbeats 4000000
namespace My
open PySem L2
/-! ### a dict of the module with text keys: get with a default, where the key is there; list -/
/-- all the keys of such a dict -/
def KKeys (K : PySem.W.Frag) (w : World) (a : Addr) (ks : List Str) : Prop := ∃ es n us, K.lookup a = some ⟨.type "dict", none, .dict es n, #[]⟩ ∧ PySem.W.KeysLit w.params es.toList ∧ es.toList.map (fun e : DictEntry => e.key) = us ∧ Vals (ks.map V.str) us ∧ (a == sysModules) = false
theorem find_none {es : List DictEntry} {n : Str} : ∀ {ks : List Str} {us : List Value}, es.map (fun e : DictEntry => e.key) = us → Vals (ks.map V.str) us → n ∉ ks → es.find? (fun e : DictEntry => Value.isStrOf n e.key) = none := by
  induction es with
  | nil => intro _ _ _ _ _; rfl
  | cons e es ih =>
    intro ks us hu hv hn
    subst hu
    cases ks with
    | nil => cases hv
    | cons k ks =>
      cases hv with
      | cons h1 h2 =>
        obtain ⟨t, ht⟩ := h1
        have ht' : e.key = .str k t := ht
        have hne : k ≠ n := fun z => hn (by rw [z]; exact List.mem_cons_self ..)
        rw [List.find?_cons_of_neg (by show ¬ Value.isStrOf n e.key = true; rw [ht']; show ¬ (k == n) = true; rw [beq_eq_false_iff_ne.mpr hne]; exact fun z => by cases z)]
        exact ih rfl h2 (fun z => hn (List.mem_cons_of_mem _ z))
def KGet (K : PySem.W.Frag) (w : World) (a : Addr) (n : Str) : Option V → Prop
  | some v => KDct K w a n v
  | none => ∃ ks, KKeys K w a ks ∧ n ∉ ks
def tKGet2 (K : PySem.W.Frag) (w : World) (td ty tx : TE) : TE := fun σ H Q => td σ H fun x H1 => ∃ a n o, x = .ref a ∧ (a == sysModules) = false ∧ KGet K w a n o ∧ ty σ H1 fun y H2 => y = .str n ∧ tx σ H2 fun z H3 => Q (o.getD z) H3
theorem kget_type {X : Cx} {pins : List (Addr × Obj)} {σ : St} {H : Hp} {s : Shared} {a : Addr} {n : Str} {o : Option V} (I : Inv X pins σ H s) (h : KGet X.K X.w a n o) :
    ∃ es, s.heap.MapOf (strKind X.prog X.w) a (fun k => findBy Value.isStrOf es k) ∧ match o with | some v => ∃ u, findBy Value.isStrOf es n = some u ∧ RelV v u | none => findBy Value.isStrOf es n = none := by
  cases o with
  | some v =>
    obtain ⟨es, m, u0, hl, hk, e, ru⟩ := h
    exact ⟨es, PySem.W.mapOf_K (prog := X.prog) (w := X.w) I.kIn hl hk, u0, PySem.W.find_K hl e, ru⟩
  | none =>
    obtain ⟨ks, ⟨es, m, us, hl, hk, hu, hv, _⟩, hn⟩ := h
    refine ⟨es, PySem.W.mapOf_K (prog := X.prog) (w := X.w) I.kIn hl hk, ?_⟩
    obtain ⟨l⟩ := es
    show findBy Value.isStrOf ⟨l⟩ n = none
    unfold findBy
    rw [List.find?_toArray, find_none hu hv hn]; rfl
theorem pe_kget2 {X : Cx} {o e f : Expr} {apos cpos : Pos} {td ty tx : TE} (ho : PE X o td) (he : PE X e ty) (hf : PE X f tx) (m : M2 X o "get" apos e f cpos) : PE X (.Call (.Attribute o "get" apos) [e, f] [] cpos) (tKGet2 X.K X.w td ty tx) := by
  refine ⟨fun pins s σ H Q I h => ?_⟩
  refine wpAny_Call_method m.base m.few m.line PySem.F.plainAttrs_dict PySem.F.slot_dict_get PySem.F.type_dict_get (thn (ho.run pins s σ H _ I h) fun u s1 ⟨x, H1, I1, rx, a, n, v, ex, hs, d, q1⟩ => ?_)
  subst ex
  obtain rfl : u = Value.ref a := rx
  obtain ⟨es0, hm0, _⟩ := kget_type I1 d
  refine ⟨hm0.typeIs, fun b q => ?_, ?_⟩
  · cases q
    obtain ⟨ob, _, _, h1, h2, _⟩ := hm0
    exact ⟨ob, h1, h2.2.1⟩
  rw [m.trees]
  refine Calls.callWith_builtin rfl (Calls.evalArgs_plain (Calls.spliced_cons (thn (he.run pins s1 σ H1 _ I1 q1) fun iv s2 ⟨y, H2, I2, ry, ey, q2⟩ =>
    Calls.spliced_cons (thn (hf.run pins s2 σ H2 _ I2 q2) fun fv s3 ⟨z, H3, I3, rz, q3⟩ => Calls.spliced_nil ?_))))
  subst ey
  obtain ⟨t, rfl⟩ := ry
  obtain ⟨es, hm, hf⟩ := kget_type I3 d
  refine call_meetsIn PySem.F.slot_dict_get hm.typeIs PySem.F.entry_dict_get (PySem.F.args_dict_get_3 _ _ _) (meets_dict_get_default (strKind X.prog X.w) a (strKind_is X.prog X.w n t) hs fv) ⟨_, hm, ?_⟩
  cases v with
  | some v =>
    obtain ⟨u, h1, h2⟩ := hf
    rw [h1]
    exact ⟨v, H3, I3.tok _, h2, q3⟩
  | none =>
    rw [show findBy Value.isStrOf es n = none from hf]
    exact ⟨z, H3, I3.tok _, rz, q3⟩
theorem pairs_of {P : Program} {w : World} : ∀ {es : List DictEntry} {ks : List Str} {us : List Value}, es.map (fun e : DictEntry => e.key) = us → Vals (ks.map V.str) us → ∃ kvs : List (Str × Value), Pairs (strKind P w) es kvs ∧ kvs.map (·.1) = ks
  | [], [], _, rfl, _ => ⟨[], .nil, rfl⟩
  | [], _ :: _, _, rfl, h => by cases h
  | _ :: _, [], _, rfl, h => by cases h
  | e :: es, k :: ks, _, rfl, h => by
    cases h with
    | cons h1 h2 =>
      obtain ⟨t, ht⟩ := h1
      obtain ⟨kvs, p, hk⟩ := pairs_of (P := P) (w := w) (es := es) (ks := ks) rfl h2
      have ht' : e.key = .str k t := ht
      exact ⟨(k, e.val) :: kvs, .cons (by show (strKind P w).is k e.key = true; rw [ht']; exact strKind_is P w k t) rfl p, by rw [List.map_cons, hk]⟩
theorem call_listK {X : Cx} (hcalm : X.calm = true) : CallR X (.type "list") (fun xs H Q => ∃ (a : Addr) (ks : List Str), xs = [.ref a] ∧ KKeys X.K X.w a ks ∧ ks.Nodup ∧ ks.length ≤ 1000 ∧ ∀ p, H p = none → Q (.ref p) (upd H p (.lst (ks.map V.str)))) := by
  intro pins s σ H xs us Q I r q
  obtain ⟨a, ks, ex, ⟨es, n, us0, hl, hk, hu, hv, lo⟩, hnd, hz, q⟩ := q
  subst ex
  obtain ⟨u, eu, rx⟩ := vals1 r
  subst eu
  cases rx
  obtain ⟨kvs, hp, hks⟩ := pairs_of (P := X.prog) (w := X.w) hu hv
  have hat : s.heap.DictAt (strKind X.prog X.w) a kvs n := ⟨_, es, I.kIn _ _ hl, ⟨rfl, rfl, rfl⟩, rfl, fun e he => by
    obtain ⟨x, t, e1, e2⟩ := hk.all e (Array.mem_toList_iff.mpr he)
    exact ⟨x, by rw [e1]; exact strKind_is X.prog X.w x t, e2⟩, hp, by rw [hks]; exact hnd⟩
  have hlen : kvs.length = ks.length := by rw [← hks, List.length_map]
  refine PySem.W.kdl_call (PySem.W.kdl_dict (knd := strKind X.prog X.w) (kvs := kvs) (ep := n) lo) (I.ok.hd hcalm) hat (by rw [hlen]; exact Nat.le_trans hz (by show 1000 ≤ sizeLine; decide)) fun h' tk acc c' hk' hD hacc => ?_
  have hv2 : Vals (ks.map V.str) acc.toList := by
    have : ∀ (ks : List Str) (vs : List Value), vs.length = ks.length → (∀ (j : Nat) (v : Value) (k : Str), vs[j]? = some v → ks[j]? = some k → ∃ t, v = .str k t) → Vals (ks.map V.str) vs := by
      intro ks
      induction ks with
      | nil => intro vs hl _; cases vs with
        | nil => exact .nil
        | cons _ _ => cases hl
      | cons k ks ih => intro vs hl h; cases vs with
        | nil => cases hl
        | cons v vs => exact .cons (h 0 v k rfl rfl) (ih vs (Nat.succ.inj hl) fun j v' k' h1 h2 => h (j + 1) v' k' h1 h2)
    refine this ks acc.toList (by rw [Array.length_toList, hacc.1, hlen]) fun j v k hj hkj => ?_
    obtain ⟨k', x, e1, e2⟩ := hacc.2 j v (by rw [← Array.getElem?_toList]; exact hj)
    have ek : k' = k := by
      rw [← hks, List.getElem?_map, e1] at hkj
      exact Option.some.inj hkj
    subst ek
    cases v with
    | str y t => exact ⟨t, by
        have := (strKind X.prog X.w).inj (.str y t) y k' (strKind_is X.prog X.w y t) e2
        rw [this]⟩
    | _ => exact absurd e2 (by intro z; cases z)
  refine ⟨.ref s.heap.objs.size, upd H s.heap.objs.size (.lst (ks.map V.str)), I.laid (t' := tk) hk' (Nat.le_refl _)
    (show ObjOk X.prog X.w _ _ _ (.lst (ks.map V.str)) from ⟨by rw [List.length_map]; exact Nat.le_trans hz (by show 1000 ≤ sizeLine; decide), acc.toList, c', hv2, by rw [Array.toArray_toList]; exact hD⟩), rfl, q _ (I.hok.fresh (Nat.le_refl _))⟩
def topS (i : Nat) : Stmt := PySem.Challenge.pw_sillwatch_k11_interface_table.main.body.getD i (.Pass ⟨0, 0, 0, 0⟩)
abbrev s_is_integer : Stmt := topS 13
abbrev s_is_text : Stmt := topS 14
abbrev s_number_octets : Stmt := topS 15
abbrev s_field_octets : Stmt := topS 16
abbrev s__is_code : Stmt := topS 17
abbrev s__is_of : Stmt := topS 18
abbrev s__are_octets : Stmt := topS 19
abbrev s__is_bound : Stmt := topS 20
abbrev s__text_octets : Stmt := topS 21
abbrev s__padded : Stmt := topS 22
abbrev s_encode_message : Stmt := topS 28
abbrev s_interface_names : Stmt := topS 32
abbrev s_request_row : Stmt := topS 33
abbrev s_request_opcode : Stmt := topS 34
abbrev s_event_row : Stmt := topS 35
abbrev s_event_octets : Stmt := topS 36
abbrev s__row_at : Stmt := topS 37
abbrev s__opcode_of : Stmt := topS 38
abbrev s__law_cell : Stmt := topS 40
abbrev s__law_row : Stmt := topS 41
abbrev s__law_rows : Stmt := topS 42
abbrev s__law_list : Stmt := topS 43
abbrev s__law_split : Stmt := topS 44
abbrev s__law_table : Stmt := topS 45
abbrev s__law_sign : Stmt := topS 46
abbrev s__law_text : Stmt := topS 47
abbrev s__law_octets : Stmt := topS 48
abbrev s__law_value : Stmt := topS 49
abbrev s__law_row_fits : Stmt := topS 51
abbrev s__law_event_fits : Stmt := topS 52
abbrev s_law : Stmt := topS 53
structure Adr where
  fis_integer : Addr
  dis_integer : FuncData
  fis_text : Addr
  dis_text : FuncData
  fnumber_octets : Addr
  dnumber_octets : FuncData
  ffield_octets : Addr
  dfield_octets : FuncData
  f_is_code : Addr
  d_is_code : FuncData
  f_is_of : Addr
  d_is_of : FuncData
  f_are_octets : Addr
  d_are_octets : FuncData
  f_is_bound : Addr
  d_is_bound : FuncData
  f_text_octets : Addr
  d_text_octets : FuncData
  f_padded : Addr
  d_padded : FuncData
  fencode_message : Addr
  dencode_message : FuncData
  finterface_names : Addr
  dinterface_names : FuncData
  frequest_row : Addr
  drequest_row : FuncData
  frequest_opcode : Addr
  drequest_opcode : FuncData
  fevent_row : Addr
  devent_row : FuncData
  fevent_octets : Addr
  devent_octets : FuncData
  f_row_at : Addr
  d_row_at : FuncData
  f_opcode_of : Addr
  d_opcode_of : FuncData
  f_law_cell : Addr
  d_law_cell : FuncData
  f_law_row : Addr
  d_law_row : FuncData
  f_law_rows : Addr
  d_law_rows : FuncData
  f_law_list : Addr
  d_law_list : FuncData
  f_law_split : Addr
  d_law_split : FuncData
  f_law_table : Addr
  d_law_table : FuncData
  f_law_sign : Addr
  d_law_sign : FuncData
  f_law_text : Addr
  d_law_text : FuncData
  f_law_octets : Addr
  d_law_octets : FuncData
  f_law_value : Addr
  d_law_value : FuncData
  f_law_row_fits : Addr
  d_law_row_fits : FuncData
  f_law_event_fits : Addr
  d_law_event_fits : FuncData
  flaw : Addr
  dlaw : FuncData
  tGREATEST_NUMBER : Tok
  tLEAST_INT : Tok
  tGREATEST_INT : Tok
  tLONGEST_TEXT : Tok
  tMOST_OCTETS : Tok
  t_FIRST_CODE : Tok
  t_LAST_CODE : Tok
  t_PERCENT_CODE : Tok
  tHEADER_SIZE : Tok
  tGREATEST_SIZE : Tok
  tGREATEST_OPCODE : Tok
  tMOST_ARGUMENTS : Tok
  a_REQUESTS : Addr
  a_REQUESTS_k0 : Addr
  a_REQUESTS_k0_0 : Addr
  a_REQUESTS_k0_0_1 : Addr
  a_REQUESTS_k0_1 : Addr
  a_REQUESTS_k0_1_1 : Addr
  a_REQUESTS_k1 : Addr
  a_REQUESTS_k2 : Addr
  a_REQUESTS_k2_0 : Addr
  a_REQUESTS_k2_0_1 : Addr
  a_REQUESTS_k3 : Addr
  a_REQUESTS_k3_0 : Addr
  a_REQUESTS_k3_0_1 : Addr
  a_REQUESTS_k3_1 : Addr
  a_REQUESTS_k3_1_1 : Addr
  a_REQUESTS_k4 : Addr
  a_REQUESTS_k4_0 : Addr
  a_REQUESTS_k4_0_1 : Addr
  a_REQUESTS_k4_1 : Addr
  a_REQUESTS_k4_1_1 : Addr
  a_REQUESTS_k4_2 : Addr
  a_REQUESTS_k4_2_1 : Addr
  a_REQUESTS_k5 : Addr
  a_REQUESTS_k5_0 : Addr
  a_REQUESTS_k5_0_1 : Addr
  a_REQUESTS_k5_1 : Addr
  a_REQUESTS_k5_1_1 : Addr
  a_REQUESTS_k5_2 : Addr
  a_REQUESTS_k5_2_1 : Addr
  a_REQUESTS_k6 : Addr
  a_REQUESTS_k6_0 : Addr
  a_REQUESTS_k6_0_1 : Addr
  a_REQUESTS_k6_1 : Addr
  a_REQUESTS_k6_1_1 : Addr
  a_REQUESTS_k6_2 : Addr
  a_REQUESTS_k6_2_1 : Addr
  a_REQUESTS_k7 : Addr
  a_REQUESTS_k7_0 : Addr
  a_REQUESTS_k7_0_1 : Addr
  a_REQUESTS_k7_1 : Addr
  a_REQUESTS_k7_1_1 : Addr
  a_REQUESTS_k7_2 : Addr
  a_REQUESTS_k7_2_1 : Addr
  a_REQUESTS_k7_3 : Addr
  a_REQUESTS_k7_3_1 : Addr
  a_REQUESTS_k7_4 : Addr
  a_REQUESTS_k7_4_1 : Addr
  a_REQUESTS_k7_5 : Addr
  a_REQUESTS_k7_5_1 : Addr
  a_REQUESTS_k7_6 : Addr
  a_REQUESTS_k7_6_1 : Addr
  a_REQUESTS_k8 : Addr
  a_REQUESTS_k8_0 : Addr
  a_REQUESTS_k8_0_1 : Addr
  a_REQUESTS_k8_1 : Addr
  a_REQUESTS_k8_1_1 : Addr
  a_REQUESTS_k9 : Addr
  a_REQUESTS_k9_0 : Addr
  a_REQUESTS_k9_0_1 : Addr
  a_REQUESTS_k9_1 : Addr
  a_REQUESTS_k9_1_1 : Addr
  a_REQUESTS_k9_2 : Addr
  a_REQUESTS_k9_2_1 : Addr
  a_REQUESTS_k9_3 : Addr
  a_REQUESTS_k9_3_1 : Addr
  a_REQUESTS_k9_4 : Addr
  a_REQUESTS_k9_4_1 : Addr
  a_REQUESTS_k9_5 : Addr
  a_REQUESTS_k9_5_1 : Addr
  a_REQUESTS_k10 : Addr
  a_REQUESTS_k10_0 : Addr
  a_REQUESTS_k10_0_1 : Addr
  a_REQUESTS_k11 : Addr
  a_REQUESTS_k11_0 : Addr
  a_REQUESTS_k11_0_1 : Addr
  a_REQUESTS_k11_1 : Addr
  a_REQUESTS_k11_1_1 : Addr
  a_REQUESTS_k12 : Addr
  a_REQUESTS_k12_0 : Addr
  a_REQUESTS_k12_0_1 : Addr
  a_REQUESTS_k12_1 : Addr
  a_REQUESTS_k12_1_1 : Addr
  a_REQUESTS_k12_2 : Addr
  a_REQUESTS_k12_2_1 : Addr
  a_REQUESTS_k12_3 : Addr
  a_REQUESTS_k12_3_1 : Addr
  a_REQUESTS_k12_4 : Addr
  a_REQUESTS_k12_4_1 : Addr
  a_REQUESTS_k12_5 : Addr
  a_REQUESTS_k12_5_1 : Addr
  a_REQUESTS_k12_6 : Addr
  a_REQUESTS_k12_6_1 : Addr
  a_REQUESTS_k12_7 : Addr
  a_REQUESTS_k12_7_1 : Addr
  a_REQUESTS_k12_8 : Addr
  a_REQUESTS_k12_8_1 : Addr
  a_REQUESTS_k12_9 : Addr
  a_REQUESTS_k12_9_1 : Addr
  a_REQUESTS_k12_10 : Addr
  a_REQUESTS_k12_10_1 : Addr
  a_REQUESTS_k12_11 : Addr
  a_REQUESTS_k12_11_1 : Addr
  a_REQUESTS_k13 : Addr
  a_REQUESTS_k13_0 : Addr
  a_REQUESTS_k13_0_1 : Addr
  a_REQUESTS_k13_1 : Addr
  a_REQUESTS_k13_1_1 : Addr
  a_REQUESTS_k14 : Addr
  a_REQUESTS_k14_0 : Addr
  a_REQUESTS_k14_0_1 : Addr
  a_REQUESTS_k14_1 : Addr
  a_REQUESTS_k14_1_1 : Addr
  a_REQUESTS_k15 : Addr
  a_REQUESTS_k15_0 : Addr
  a_REQUESTS_k15_0_1 : Addr
  a_REQUESTS_k15_1 : Addr
  a_REQUESTS_k15_1_1 : Addr
  a_REQUESTS_k16 : Addr
  a_REQUESTS_k16_0 : Addr
  a_REQUESTS_k16_0_1 : Addr
  a_REQUESTS_k17 : Addr
  a_REQUESTS_k17_0 : Addr
  a_REQUESTS_k17_0_1 : Addr
  a_REQUESTS_k17_1 : Addr
  a_REQUESTS_k17_1_1 : Addr
  a_REQUESTS_k17_2 : Addr
  a_REQUESTS_k17_2_1 : Addr
  a_REQUESTS_k17_3 : Addr
  a_REQUESTS_k17_3_1 : Addr
  a_REQUESTS_k17_4 : Addr
  a_REQUESTS_k17_4_1 : Addr
  a_REQUESTS_k17_5 : Addr
  a_REQUESTS_k17_5_1 : Addr
  a_REQUESTS_k17_6 : Addr
  a_REQUESTS_k17_6_1 : Addr
  a_REQUESTS_k17_7 : Addr
  a_REQUESTS_k17_7_1 : Addr
  a_REQUESTS_k17_8 : Addr
  a_REQUESTS_k17_8_1 : Addr
  a_REQUESTS_k18 : Addr
  a_REQUESTS_k18_0 : Addr
  a_REQUESTS_k18_0_1 : Addr
  a_REQUESTS_k18_1 : Addr
  a_REQUESTS_k18_1_1 : Addr
  a_REQUESTS_k19 : Addr
  a_REQUESTS_k19_0 : Addr
  a_REQUESTS_k19_0_1 : Addr
  a_REQUESTS_k19_1 : Addr
  a_REQUESTS_k19_1_1 : Addr
  a_REQUESTS_k20 : Addr
  a_REQUESTS_k20_0 : Addr
  a_REQUESTS_k20_0_1 : Addr
  a_REQUESTS_k20_1 : Addr
  a_REQUESTS_k20_1_1 : Addr
  a_REQUESTS_k21 : Addr
  a_REQUESTS_k21_0 : Addr
  a_REQUESTS_k21_0_1 : Addr
  a_REQUESTS_k21_1 : Addr
  a_REQUESTS_k21_1_1 : Addr
  a_REQUESTS_k22 : Addr
  a_REQUESTS_k22_0 : Addr
  a_REQUESTS_k22_0_1 : Addr
  a_EVENTS : Addr
  a_EVENTS_k0 : Addr
  a_EVENTS_k0_0 : Addr
  a_EVENTS_k0_0_1 : Addr
  a_EVENTS_k0_1 : Addr
  a_EVENTS_k0_1_1 : Addr
  a_EVENTS_k1 : Addr
  a_EVENTS_k1_0 : Addr
  a_EVENTS_k1_0_1 : Addr
  a_EVENTS_k2 : Addr
  a_EVENTS_k2_0 : Addr
  a_EVENTS_k2_0_1 : Addr
  a_EVENTS_k2_1 : Addr
  a_EVENTS_k2_1_1 : Addr
  a_EVENTS_k3 : Addr
  a_EVENTS_k3_0 : Addr
  a_EVENTS_k3_0_1 : Addr
  a_EVENTS_k4 : Addr
  a_EVENTS_k4_0 : Addr
  a_EVENTS_k4_0_1 : Addr
  a_EVENTS_k5 : Addr
  a_EVENTS_k5_0 : Addr
  a_EVENTS_k5_0_1 : Addr
  a_EVENTS_k5_1 : Addr
  a_EVENTS_k5_1_1 : Addr
  a_EVENTS_k5_2 : Addr
  a_EVENTS_k5_2_1 : Addr
  a_EVENTS_k5_3 : Addr
  a_EVENTS_k5_3_1 : Addr
  a_EVENTS_k6 : Addr
  a_EVENTS_k6_0 : Addr
  a_EVENTS_k6_0_1 : Addr
  a_EVENTS_k6_1 : Addr
  a_EVENTS_k6_1_1 : Addr
  a_EVENTS_k7 : Addr
  a_EVENTS_k7_0 : Addr
  a_EVENTS_k7_0_1 : Addr
  a_EVENTS_k7_1 : Addr
  a_EVENTS_k7_1_1 : Addr
  a_EVENTS_k7_2 : Addr
  a_EVENTS_k7_2_1 : Addr
  a_EVENTS_k7_3 : Addr
  a_EVENTS_k7_3_1 : Addr
  a_EVENTS_k7_4 : Addr
  a_EVENTS_k7_4_1 : Addr
  a_EVENTS_k8 : Addr
  a_EVENTS_k8_0 : Addr
  a_EVENTS_k8_0_1 : Addr
  a_EVENTS_k8_1 : Addr
  a_EVENTS_k8_1_1 : Addr
  a_EVENTS_k8_2 : Addr
  a_EVENTS_k8_2_1 : Addr
  a_EVENTS_k8_3 : Addr
  a_EVENTS_k8_3_1 : Addr
  a_EVENTS_k8_4 : Addr
  a_EVENTS_k8_4_1 : Addr
  a_EVENTS_k9 : Addr
  a_EVENTS_k9_0 : Addr
  a_EVENTS_k9_0_1 : Addr
  a_EVENTS_k9_1 : Addr
  a_EVENTS_k9_1_1 : Addr
  a_EVENTS_k9_2 : Addr
  a_EVENTS_k9_2_1 : Addr
  a_EVENTS_k9_3 : Addr
  a_EVENTS_k9_3_1 : Addr
  a_EVENTS_k9_4 : Addr
  a_EVENTS_k9_4_1 : Addr
  a_EVENTS_k9_5 : Addr
  a_EVENTS_k9_5_1 : Addr
  a_EVENTS_k10 : Addr
  a_EVENTS_k10_0 : Addr
  a_EVENTS_k10_0_1 : Addr
  a_EVENTS_k10_1 : Addr
  a_EVENTS_k10_1_1 : Addr
  a_EVENTS_k11 : Addr
  a_EVENTS_k11_0 : Addr
  a_EVENTS_k11_0_1 : Addr
  a_EVENTS_k11_1 : Addr
  a_EVENTS_k11_1_1 : Addr
  a_EVENTS_k11_2 : Addr
  a_EVENTS_k11_2_1 : Addr
  a_EVENTS_k12 : Addr
  a_EVENTS_k12_0 : Addr
  a_EVENTS_k12_0_1 : Addr
  a_EVENTS_k12_1 : Addr
  a_EVENTS_k12_1_1 : Addr
  a_EVENTS_k12_2 : Addr
  a_EVENTS_k12_2_1 : Addr
  a_EVENTS_k13 : Addr
  a_EVENTS_k13_0 : Addr
  a_EVENTS_k13_0_1 : Addr
  a_EVENTS_k13_1 : Addr
  a_EVENTS_k13_1_1 : Addr
  CBadMessage : Addr
  CMessageTooLong : Addr
structure Txt (K : PySem.W.Frag) (mg : Str → Option Value) (A : Adr) : Prop where
  Fis_integer : Fun K "is_integer" "is_integer" s_is_integer A.fis_integer A.dis_integer
  bis_integer : Binds K A.dis_integer ["value", "least", "greatest"] []
  gis_integer : mg "is_integer" = some (.ref A.fis_integer)
  kis_integer : PySem.W.keepIn K (.ref A.fis_integer) = true
  Fis_text : Fun K "is_text" "is_text" s_is_text A.fis_text A.dis_text
  bis_text : Binds K A.dis_text ["value"] []
  gis_text : mg "is_text" = some (.ref A.fis_text)
  kis_text : PySem.W.keepIn K (.ref A.fis_text) = true
  Fnumber_octets : Fun K "number_octets" "number_octets" s_number_octets A.fnumber_octets A.dnumber_octets
  bnumber_octets : Binds K A.dnumber_octets ["number", "count"] []
  gnumber_octets : mg "number_octets" = some (.ref A.fnumber_octets)
  knumber_octets : PySem.W.keepIn K (.ref A.fnumber_octets) = true
  Ffield_octets : Fun K "field_octets" "field_octets" s_field_octets A.ffield_octets A.dfield_octets
  bfield_octets : Binds K A.dfield_octets ["kind", "value"] []
  gfield_octets : mg "field_octets" = some (.ref A.ffield_octets)
  kfield_octets : PySem.W.keepIn K (.ref A.ffield_octets) = true
  F_is_code : Fun K "_is_code" "_is_code" s__is_code A.f_is_code A.d_is_code
  b_is_code : Binds K A.d_is_code ["code"] []
  g_is_code : mg "_is_code" = some (.ref A.f_is_code)
  k_is_code : PySem.W.keepIn K (.ref A.f_is_code) = true
  F_is_of : Fun K "_is_of" "_is_of" s__is_of A.f_is_of A.d_is_of
  b_is_of : Binds K A.d_is_of ["kind", "value"] []
  g_is_of : mg "_is_of" = some (.ref A.f_is_of)
  k_is_of : PySem.W.keepIn K (.ref A.f_is_of) = true
  F_are_octets : Fun K "_are_octets" "_are_octets" s__are_octets A.f_are_octets A.d_are_octets
  b_are_octets : Binds K A.d_are_octets ["value"] []
  g_are_octets : mg "_are_octets" = some (.ref A.f_are_octets)
  k_are_octets : PySem.W.keepIn K (.ref A.f_are_octets) = true
  F_is_bound : Fun K "_is_bound" "_is_bound" s__is_bound A.f_is_bound A.d_is_bound
  b_is_bound : Binds K A.d_is_bound ["value"] []
  g_is_bound : mg "_is_bound" = some (.ref A.f_is_bound)
  k_is_bound : PySem.W.keepIn K (.ref A.f_is_bound) = true
  F_text_octets : Fun K "_text_octets" "_text_octets" s__text_octets A.f_text_octets A.d_text_octets
  b_text_octets : Binds K A.d_text_octets ["text"] []
  g_text_octets : mg "_text_octets" = some (.ref A.f_text_octets)
  k_text_octets : PySem.W.keepIn K (.ref A.f_text_octets) = true
  F_padded : Fun K "_padded" "_padded" s__padded A.f_padded A.d_padded
  b_padded : Binds K A.d_padded ["octets"] []
  g_padded : mg "_padded" = some (.ref A.f_padded)
  k_padded : PySem.W.keepIn K (.ref A.f_padded) = true
  Fencode_message : Fun K "encode_message" "encode_message" s_encode_message A.fencode_message A.dencode_message
  bencode_message : Binds K A.dencode_message ["number", "opcode", "arguments"] []
  gencode_message : mg "encode_message" = some (.ref A.fencode_message)
  kencode_message : PySem.W.keepIn K (.ref A.fencode_message) = true
  Finterface_names : Fun K "interface_names" "interface_names" s_interface_names A.finterface_names A.dinterface_names
  binterface_names : Binds K A.dinterface_names [] []
  ginterface_names : mg "interface_names" = some (.ref A.finterface_names)
  kinterface_names : PySem.W.keepIn K (.ref A.finterface_names) = true
  Frequest_row : Fun K "request_row" "request_row" s_request_row A.frequest_row A.drequest_row
  brequest_row : Binds K A.drequest_row ["interface", "opcode"] []
  grequest_row : mg "request_row" = some (.ref A.frequest_row)
  krequest_row : PySem.W.keepIn K (.ref A.frequest_row) = true
  Frequest_opcode : Fun K "request_opcode" "request_opcode" s_request_opcode A.frequest_opcode A.drequest_opcode
  brequest_opcode : Binds K A.drequest_opcode ["interface", "name"] []
  grequest_opcode : mg "request_opcode" = some (.ref A.frequest_opcode)
  krequest_opcode : PySem.W.keepIn K (.ref A.frequest_opcode) = true
  Fevent_row : Fun K "event_row" "event_row" s_event_row A.fevent_row A.devent_row
  bevent_row : Binds K A.devent_row ["interface", "opcode"] []
  gevent_row : mg "event_row" = some (.ref A.fevent_row)
  kevent_row : PySem.W.keepIn K (.ref A.fevent_row) = true
  Fevent_octets : Fun K "event_octets" "event_octets" s_event_octets A.fevent_octets A.devent_octets
  bevent_octets : Binds K A.devent_octets ["number", "interface", "name", "values"] []
  gevent_octets : mg "event_octets" = some (.ref A.fevent_octets)
  kevent_octets : PySem.W.keepIn K (.ref A.fevent_octets) = true
  F_row_at : Fun K "_row_at" "_row_at" s__row_at A.f_row_at A.d_row_at
  b_row_at : Binds K A.d_row_at ["rows", "opcode"] []
  g_row_at : mg "_row_at" = some (.ref A.f_row_at)
  k_row_at : PySem.W.keepIn K (.ref A.f_row_at) = true
  F_opcode_of : Fun K "_opcode_of" "_opcode_of" s__opcode_of A.f_opcode_of A.d_opcode_of
  b_opcode_of : Binds K A.d_opcode_of ["rows", "name"] []
  g_opcode_of : mg "_opcode_of" = some (.ref A.f_opcode_of)
  k_opcode_of : PySem.W.keepIn K (.ref A.f_opcode_of) = true
  F_law_cell : Fun K "_law_cell" "_law_cell" s__law_cell A.f_law_cell A.d_law_cell
  b_law_cell : Binds K A.d_law_cell ["script", "k"] []
  g_law_cell : mg "_law_cell" = some (.ref A.f_law_cell)
  k_law_cell : PySem.W.keepIn K (.ref A.f_law_cell) = true
  F_law_row : Fun K "_law_row" "_law_row" s__law_row A.f_law_row A.d_law_row
  b_law_row : Binds K A.d_law_row ["script", "k"] []
  g_law_row : mg "_law_row" = some (.ref A.f_law_row)
  k_law_row : PySem.W.keepIn K (.ref A.f_law_row) = true
  F_law_rows : Fun K "_law_rows" "_law_rows" s__law_rows A.f_law_rows A.d_law_rows
  b_law_rows : Binds K A.d_law_rows [] []
  g_law_rows : mg "_law_rows" = some (.ref A.f_law_rows)
  k_law_rows : PySem.W.keepIn K (.ref A.f_law_rows) = true
  F_law_list : Fun K "_law_list" "_law_list" s__law_list A.f_law_list A.d_law_list
  b_law_list : Binds K A.d_law_list ["text"] []
  g_law_list : mg "_law_list" = some (.ref A.f_law_list)
  k_law_list : PySem.W.keepIn K (.ref A.f_law_list) = true
  F_law_split : Fun K "_law_split" "_law_split" s__law_split A.f_law_split A.d_law_split
  b_law_split : Binds K A.d_law_split ["text"] []
  g_law_split : mg "_law_split" = some (.ref A.f_law_split)
  k_law_split : PySem.W.keepIn K (.ref A.f_law_split) = true
  F_law_table : Fun K "_law_table" "_law_table" s__law_table A.f_law_table A.d_law_table
  b_law_table : Binds K A.d_law_table [] []
  g_law_table : mg "_law_table" = some (.ref A.f_law_table)
  k_law_table : PySem.W.keepIn K (.ref A.f_law_table) = true
  F_law_sign : Fun K "_law_sign" "_law_sign" s__law_sign A.f_law_sign A.d_law_sign
  b_law_sign : Binds K A.d_law_sign ["digit"] []
  g_law_sign : mg "_law_sign" = some (.ref A.f_law_sign)
  k_law_sign : PySem.W.keepIn K (.ref A.f_law_sign) = true
  F_law_text : Fun K "_law_text" "_law_text" s__law_text A.f_law_text A.d_law_text
  b_law_text : Binds K A.d_law_text ["row", "size"] []
  g_law_text : mg "_law_text" = some (.ref A.f_law_text)
  k_law_text : PySem.W.keepIn K (.ref A.f_law_text) = true
  F_law_octets : Fun K "_law_octets" "_law_octets" s__law_octets A.f_law_octets A.d_law_octets
  b_law_octets : Binds K A.d_law_octets ["row", "size"] []
  g_law_octets : mg "_law_octets" = some (.ref A.f_law_octets)
  k_law_octets : PySem.W.keepIn K (.ref A.f_law_octets) = true
  F_law_value : Fun K "_law_value" "_law_value" s__law_value A.f_law_value A.d_law_value
  b_law_value : Binds K A.d_law_value ["kind", "row"] []
  g_law_value : mg "_law_value" = some (.ref A.f_law_value)
  k_law_value : PySem.W.keepIn K (.ref A.f_law_value) = true
  F_law_row_fits : Fun K "_law_row_fits" "_law_row_fits" s__law_row_fits A.f_law_row_fits A.d_law_row_fits
  b_law_row_fits : Binds K A.d_law_row_fits ["row"] []
  g_law_row_fits : mg "_law_row_fits" = some (.ref A.f_law_row_fits)
  k_law_row_fits : PySem.W.keepIn K (.ref A.f_law_row_fits) = true
  F_law_event_fits : Fun K "_law_event_fits" "_law_event_fits" s__law_event_fits A.f_law_event_fits A.d_law_event_fits
  b_law_event_fits : Binds K A.d_law_event_fits ["row", "number", "cell"] []
  g_law_event_fits : mg "_law_event_fits" = some (.ref A.f_law_event_fits)
  k_law_event_fits : PySem.W.keepIn K (.ref A.f_law_event_fits) = true
  Flaw : Fun K "law" "law" s_law A.flaw A.dlaw
  blaw : Binds K A.dlaw ["script"] []
  glaw : mg "law" = some (.ref A.flaw)
  klaw : PySem.W.keepIn K (.ref A.flaw) = true
  all : mg "all" = none
  bool : mg "bool" = none
  int : mg "int" = none
  isinstance : mg "isinstance" = none
  len : mg "len" = none
  list : mg "list" = none
  max : mg "max" = none
  min : mg "min" = none
  ord : mg "ord" = none
  range : mg "range" = none
  str : mg "str" = none
  tuple : mg "tuple" = none
  zip : mg "zip" = none
  gGREATEST_NUMBER : mg "GREATEST_NUMBER" = some (.int (4294967295) A.tGREATEST_NUMBER)
  gLEAST_INT : mg "LEAST_INT" = some (.int (-2147483648) A.tLEAST_INT)
  gGREATEST_INT : mg "GREATEST_INT" = some (.int (2147483647) A.tGREATEST_INT)
  gLONGEST_TEXT : mg "LONGEST_TEXT" = some (.int (1000) A.tLONGEST_TEXT)
  gMOST_OCTETS : mg "MOST_OCTETS" = some (.int (16384) A.tMOST_OCTETS)
  g_FIRST_CODE : mg "_FIRST_CODE" = some (.int (32) A.t_FIRST_CODE)
  g_LAST_CODE : mg "_LAST_CODE" = some (.int (126) A.t_LAST_CODE)
  g_PERCENT_CODE : mg "_PERCENT_CODE" = some (.int (37) A.t_PERCENT_CODE)
  gHEADER_SIZE : mg "HEADER_SIZE" = some (.int (8) A.tHEADER_SIZE)
  gGREATEST_SIZE : mg "GREATEST_SIZE" = some (.int (20480) A.tGREATEST_SIZE)
  gGREATEST_OPCODE : mg "GREATEST_OPCODE" = some (.int (65535) A.tGREATEST_OPCODE)
  gMOST_ARGUMENTS : mg "MOST_ARGUMENTS" = some (.int (20) A.tMOST_ARGUMENTS)
  g_REQUESTS : mg "_REQUESTS" = some (.ref A.a_REQUESTS)
  w_REQUESTS_k0 : ∀ H : Hp, SqT K H A.a_REQUESTS_k0 [.ref A.a_REQUESTS_k0_0, .ref A.a_REQUESTS_k0_1]
  w_REQUESTS_k0_0 : ∀ H : Hp, SqT K H A.a_REQUESTS_k0_0 [.str "sync", .ref A.a_REQUESTS_k0_0_1, .bl false]
  w_REQUESTS_k0_0_1 : ∀ H : Hp, SqT K H A.a_REQUESTS_k0_0_1 [.str "new callback"]
  w_REQUESTS_k0_1 : ∀ H : Hp, SqT K H A.a_REQUESTS_k0_1 [.str "registry", .ref A.a_REQUESTS_k0_1_1, .bl false]
  w_REQUESTS_k0_1_1 : ∀ H : Hp, SqT K H A.a_REQUESTS_k0_1_1 [.str "new registry"]
  w_REQUESTS_k1 : ∀ H : Hp, SqT K H A.a_REQUESTS_k1 []
  w_REQUESTS_k2 : ∀ H : Hp, SqT K H A.a_REQUESTS_k2 [.ref A.a_REQUESTS_k2_0]
  w_REQUESTS_k2_0 : ∀ H : Hp, SqT K H A.a_REQUESTS_k2_0 [.str "bind", .ref A.a_REQUESTS_k2_0_1, .bl false]
  w_REQUESTS_k2_0_1 : ∀ H : Hp, SqT K H A.a_REQUESTS_k2_0_1 [.str "uint", .str "bound"]
  w_REQUESTS_k3 : ∀ H : Hp, SqT K H A.a_REQUESTS_k3 [.ref A.a_REQUESTS_k3_0, .ref A.a_REQUESTS_k3_1]
  w_REQUESTS_k3_0 : ∀ H : Hp, SqT K H A.a_REQUESTS_k3_0 [.str "buffer", .ref A.a_REQUESTS_k3_0_1, .bl false]
  w_REQUESTS_k3_0_1 : ∀ H : Hp, SqT K H A.a_REQUESTS_k3_0_1 [.str "new buffer", .str "uint", .str "uint"]
  w_REQUESTS_k3_1 : ∀ H : Hp, SqT K H A.a_REQUESTS_k3_1 [.str "destroy", .ref A.a_REQUESTS_k3_1_1, .bl true]
  w_REQUESTS_k3_1_1 : ∀ H : Hp, SqT K H A.a_REQUESTS_k3_1_1 []
  w_REQUESTS_k4 : ∀ H : Hp, SqT K H A.a_REQUESTS_k4 [.ref A.a_REQUESTS_k4_0, .ref A.a_REQUESTS_k4_1, .ref A.a_REQUESTS_k4_2]
  w_REQUESTS_k4_0 : ∀ H : Hp, SqT K H A.a_REQUESTS_k4_0 [.str "write", .ref A.a_REQUESTS_k4_0_1, .bl false]
  w_REQUESTS_k4_0_1 : ∀ H : Hp, SqT K H A.a_REQUESTS_k4_0_1 [.str "uint", .str "octets"]
  w_REQUESTS_k4_1 : ∀ H : Hp, SqT K H A.a_REQUESTS_k4_1 [.str "fill", .ref A.a_REQUESTS_k4_1_1, .bl false]
  w_REQUESTS_k4_1_1 : ∀ H : Hp, SqT K H A.a_REQUESTS_k4_1_1 [.str "int", .str "int", .str "uint", .str "uint", .str "uint"]
  w_REQUESTS_k4_2 : ∀ H : Hp, SqT K H A.a_REQUESTS_k4_2 [.str "destroy", .ref A.a_REQUESTS_k4_2_1, .bl true]
  w_REQUESTS_k4_2_1 : ∀ H : Hp, SqT K H A.a_REQUESTS_k4_2_1 []
  w_REQUESTS_k5 : ∀ H : Hp, SqT K H A.a_REQUESTS_k5 [.ref A.a_REQUESTS_k5_0, .ref A.a_REQUESTS_k5_1, .ref A.a_REQUESTS_k5_2]
  w_REQUESTS_k5_0 : ∀ H : Hp, SqT K H A.a_REQUESTS_k5_0 [.str "surface", .ref A.a_REQUESTS_k5_0_1, .bl false]
  w_REQUESTS_k5_0_1 : ∀ H : Hp, SqT K H A.a_REQUESTS_k5_0_1 [.str "new surface"]
  w_REQUESTS_k5_1 : ∀ H : Hp, SqT K H A.a_REQUESTS_k5_1 [.str "region", .ref A.a_REQUESTS_k5_1_1, .bl false]
  w_REQUESTS_k5_1_1 : ∀ H : Hp, SqT K H A.a_REQUESTS_k5_1_1 [.str "new region"]
  w_REQUESTS_k5_2 : ∀ H : Hp, SqT K H A.a_REQUESTS_k5_2 [.str "destroy", .ref A.a_REQUESTS_k5_2_1, .bl true]
  w_REQUESTS_k5_2_1 : ∀ H : Hp, SqT K H A.a_REQUESTS_k5_2_1 []
  w_REQUESTS_k6 : ∀ H : Hp, SqT K H A.a_REQUESTS_k6 [.ref A.a_REQUESTS_k6_0, .ref A.a_REQUESTS_k6_1, .ref A.a_REQUESTS_k6_2]
  w_REQUESTS_k6_0 : ∀ H : Hp, SqT K H A.a_REQUESTS_k6_0 [.str "add", .ref A.a_REQUESTS_k6_0_1, .bl false]
  w_REQUESTS_k6_0_1 : ∀ H : Hp, SqT K H A.a_REQUESTS_k6_0_1 [.str "int", .str "int", .str "uint", .str "uint"]
  w_REQUESTS_k6_1 : ∀ H : Hp, SqT K H A.a_REQUESTS_k6_1 [.str "subtract", .ref A.a_REQUESTS_k6_1_1, .bl false]
  w_REQUESTS_k6_1_1 : ∀ H : Hp, SqT K H A.a_REQUESTS_k6_1_1 [.str "int", .str "int", .str "uint", .str "uint"]
  w_REQUESTS_k6_2 : ∀ H : Hp, SqT K H A.a_REQUESTS_k6_2 [.str "destroy", .ref A.a_REQUESTS_k6_2_1, .bl true]
  w_REQUESTS_k6_2_1 : ∀ H : Hp, SqT K H A.a_REQUESTS_k6_2_1 []
  w_REQUESTS_k7 : ∀ H : Hp, SqT K H A.a_REQUESTS_k7 [.ref A.a_REQUESTS_k7_0, .ref A.a_REQUESTS_k7_1, .ref A.a_REQUESTS_k7_2, .ref A.a_REQUESTS_k7_3, .ref A.a_REQUESTS_k7_4, .ref A.a_REQUESTS_k7_5, .ref A.a_REQUESTS_k7_6]
  w_REQUESTS_k7_0 : ∀ H : Hp, SqT K H A.a_REQUESTS_k7_0 [.str "attach", .ref A.a_REQUESTS_k7_0_1, .bl false]
  w_REQUESTS_k7_0_1 : ∀ H : Hp, SqT K H A.a_REQUESTS_k7_0_1 [.str "maybe buffer"]
  w_REQUESTS_k7_1 : ∀ H : Hp, SqT K H A.a_REQUESTS_k7_1 [.str "frame", .ref A.a_REQUESTS_k7_1_1, .bl false]
  w_REQUESTS_k7_1_1 : ∀ H : Hp, SqT K H A.a_REQUESTS_k7_1_1 [.str "new callback"]
  w_REQUESTS_k7_2 : ∀ H : Hp, SqT K H A.a_REQUESTS_k7_2 [.str "hears", .ref A.a_REQUESTS_k7_2_1, .bl false]
  w_REQUESTS_k7_2_1 : ∀ H : Hp, SqT K H A.a_REQUESTS_k7_2_1 [.str "maybe region"]
  w_REQUESTS_k7_3 : ∀ H : Hp, SqT K H A.a_REQUESTS_k7_3 [.str "commit", .ref A.a_REQUESTS_k7_3_1, .bl false]
  w_REQUESTS_k7_3_1 : ∀ H : Hp, SqT K H A.a_REQUESTS_k7_3_1 []
  w_REQUESTS_k7_4 : ∀ H : Hp, SqT K H A.a_REQUESTS_k7_4 [.str "turn", .ref A.a_REQUESTS_k7_4_1, .bl false]
  w_REQUESTS_k7_4_1 : ∀ H : Hp, SqT K H A.a_REQUESTS_k7_4_1 [.str "uint"]
  w_REQUESTS_k7_5 : ∀ H : Hp, SqT K H A.a_REQUESTS_k7_5 [.str "scale", .ref A.a_REQUESTS_k7_5_1, .bl false]
  w_REQUESTS_k7_5_1 : ∀ H : Hp, SqT K H A.a_REQUESTS_k7_5_1 [.str "uint"]
  w_REQUESTS_k7_6 : ∀ H : Hp, SqT K H A.a_REQUESTS_k7_6 [.str "destroy", .ref A.a_REQUESTS_k7_6_1, .bl true]
  w_REQUESTS_k7_6_1 : ∀ H : Hp, SqT K H A.a_REQUESTS_k7_6_1 []
  w_REQUESTS_k8 : ∀ H : Hp, SqT K H A.a_REQUESTS_k8 [.ref A.a_REQUESTS_k8_0, .ref A.a_REQUESTS_k8_1]
  w_REQUESTS_k8_0 : ∀ H : Hp, SqT K H A.a_REQUESTS_k8_0 [.str "join", .ref A.a_REQUESTS_k8_0_1, .bl false]
  w_REQUESTS_k8_0_1 : ∀ H : Hp, SqT K H A.a_REQUESTS_k8_0_1 [.str "new sub", .str "object surface", .str "object surface"]
  w_REQUESTS_k8_1 : ∀ H : Hp, SqT K H A.a_REQUESTS_k8_1 [.str "destroy", .ref A.a_REQUESTS_k8_1_1, .bl true]
  w_REQUESTS_k8_1_1 : ∀ H : Hp, SqT K H A.a_REQUESTS_k8_1_1 []
  w_REQUESTS_k9 : ∀ H : Hp, SqT K H A.a_REQUESTS_k9 [.ref A.a_REQUESTS_k9_0, .ref A.a_REQUESTS_k9_1, .ref A.a_REQUESTS_k9_2, .ref A.a_REQUESTS_k9_3, .ref A.a_REQUESTS_k9_4, .ref A.a_REQUESTS_k9_5]
  w_REQUESTS_k9_0 : ∀ H : Hp, SqT K H A.a_REQUESTS_k9_0 [.str "place", .ref A.a_REQUESTS_k9_0_1, .bl false]
  w_REQUESTS_k9_0_1 : ∀ H : Hp, SqT K H A.a_REQUESTS_k9_0_1 [.str "int", .str "int"]
  w_REQUESTS_k9_1 : ∀ H : Hp, SqT K H A.a_REQUESTS_k9_1 [.str "above", .ref A.a_REQUESTS_k9_1_1, .bl false]
  w_REQUESTS_k9_1_1 : ∀ H : Hp, SqT K H A.a_REQUESTS_k9_1_1 [.str "object surface"]
  w_REQUESTS_k9_2 : ∀ H : Hp, SqT K H A.a_REQUESTS_k9_2 [.str "below", .ref A.a_REQUESTS_k9_2_1, .bl false]
  w_REQUESTS_k9_2_1 : ∀ H : Hp, SqT K H A.a_REQUESTS_k9_2_1 [.str "object surface"]
  w_REQUESTS_k9_3 : ∀ H : Hp, SqT K H A.a_REQUESTS_k9_3 [.str "sync", .ref A.a_REQUESTS_k9_3_1, .bl false]
  w_REQUESTS_k9_3_1 : ∀ H : Hp, SqT K H A.a_REQUESTS_k9_3_1 []
  w_REQUESTS_k9_4 : ∀ H : Hp, SqT K H A.a_REQUESTS_k9_4 [.str "desync", .ref A.a_REQUESTS_k9_4_1, .bl false]
  w_REQUESTS_k9_4_1 : ∀ H : Hp, SqT K H A.a_REQUESTS_k9_4_1 []
  w_REQUESTS_k9_5 : ∀ H : Hp, SqT K H A.a_REQUESTS_k9_5 [.str "destroy", .ref A.a_REQUESTS_k9_5_1, .bl true]
  w_REQUESTS_k9_5_1 : ∀ H : Hp, SqT K H A.a_REQUESTS_k9_5_1 []
  w_REQUESTS_k10 : ∀ H : Hp, SqT K H A.a_REQUESTS_k10 [.ref A.a_REQUESTS_k10_0]
  w_REQUESTS_k10_0 : ∀ H : Hp, SqT K H A.a_REQUESTS_k10_0 [.str "destroy", .ref A.a_REQUESTS_k10_0_1, .bl true]
  w_REQUESTS_k10_0_1 : ∀ H : Hp, SqT K H A.a_REQUESTS_k10_0_1 []
  w_REQUESTS_k11 : ∀ H : Hp, SqT K H A.a_REQUESTS_k11 [.ref A.a_REQUESTS_k11_0, .ref A.a_REQUESTS_k11_1]
  w_REQUESTS_k11_0 : ∀ H : Hp, SqT K H A.a_REQUESTS_k11_0 [.str "window", .ref A.a_REQUESTS_k11_0_1, .bl false]
  w_REQUESTS_k11_0_1 : ∀ H : Hp, SqT K H A.a_REQUESTS_k11_0_1 [.str "new window", .str "object surface"]
  w_REQUESTS_k11_1 : ∀ H : Hp, SqT K H A.a_REQUESTS_k11_1 [.str "popup", .ref A.a_REQUESTS_k11_1_1, .bl false]
  w_REQUESTS_k11_1_1 : ∀ H : Hp, SqT K H A.a_REQUESTS_k11_1_1 [.str "new popup", .str "object surface", .str "object window|popup", .str "int", .str "int", .str "int", .str "int", .str "int", .str "int", .str "int", .str "int", .str "uint", .str "uint", .str "int", .str "int", .str "uint", .str "uint"]
  w_REQUESTS_k12 : ∀ H : Hp, SqT K H A.a_REQUESTS_k12 [.ref A.a_REQUESTS_k12_0, .ref A.a_REQUESTS_k12_1, .ref A.a_REQUESTS_k12_2, .ref A.a_REQUESTS_k12_3, .ref A.a_REQUESTS_k12_4, .ref A.a_REQUESTS_k12_5, .ref A.a_REQUESTS_k12_6, .ref A.a_REQUESTS_k12_7, .ref A.a_REQUESTS_k12_8, .ref A.a_REQUESTS_k12_9, .ref A.a_REQUESTS_k12_10, .ref A.a_REQUESTS_k12_11]
  w_REQUESTS_k12_0 : ∀ H : Hp, SqT K H A.a_REQUESTS_k12_0 [.str "destroy", .ref A.a_REQUESTS_k12_0_1, .bl true]
  w_REQUESTS_k12_0_1 : ∀ H : Hp, SqT K H A.a_REQUESTS_k12_0_1 []
  w_REQUESTS_k12_1 : ∀ H : Hp, SqT K H A.a_REQUESTS_k12_1 [.str "title", .ref A.a_REQUESTS_k12_1_1, .bl false]
  w_REQUESTS_k12_1_1 : ∀ H : Hp, SqT K H A.a_REQUESTS_k12_1_1 [.str "text"]
  w_REQUESTS_k12_2 : ∀ H : Hp, SqT K H A.a_REQUESTS_k12_2 [.str "name", .ref A.a_REQUESTS_k12_2_1, .bl false]
  w_REQUESTS_k12_2_1 : ∀ H : Hp, SqT K H A.a_REQUESTS_k12_2_1 [.str "text"]
  w_REQUESTS_k12_3 : ∀ H : Hp, SqT K H A.a_REQUESTS_k12_3 [.str "least", .ref A.a_REQUESTS_k12_3_1, .bl false]
  w_REQUESTS_k12_3_1 : ∀ H : Hp, SqT K H A.a_REQUESTS_k12_3_1 [.str "uint", .str "uint"]
  w_REQUESTS_k12_4 : ∀ H : Hp, SqT K H A.a_REQUESTS_k12_4 [.str "largest", .ref A.a_REQUESTS_k12_4_1, .bl false]
  w_REQUESTS_k12_4_1 : ∀ H : Hp, SqT K H A.a_REQUESTS_k12_4_1 [.str "uint", .str "uint"]
  w_REQUESTS_k12_5 : ∀ H : Hp, SqT K H A.a_REQUESTS_k12_5 [.str "ack", .ref A.a_REQUESTS_k12_5_1, .bl false]
  w_REQUESTS_k12_5_1 : ∀ H : Hp, SqT K H A.a_REQUESTS_k12_5_1 [.str "uint"]
  w_REQUESTS_k12_6 : ∀ H : Hp, SqT K H A.a_REQUESTS_k12_6 [.str "map_with", .ref A.a_REQUESTS_k12_6_1, .bl false]
  w_REQUESTS_k12_6_1 : ∀ H : Hp, SqT K H A.a_REQUESTS_k12_6_1 [.str "uint"]
  w_REQUESTS_k12_7 : ∀ H : Hp, SqT K H A.a_REQUESTS_k12_7 [.str "smaller", .ref A.a_REQUESTS_k12_7_1, .bl false]
  w_REQUESTS_k12_7_1 : ∀ H : Hp, SqT K H A.a_REQUESTS_k12_7_1 [.str "uint", .str "uint"]
  w_REQUESTS_k12_8 : ∀ H : Hp, SqT K H A.a_REQUESTS_k12_8 [.str "grow", .ref A.a_REQUESTS_k12_8_1, .bl false]
  w_REQUESTS_k12_8_1 : ∀ H : Hp, SqT K H A.a_REQUESTS_k12_8_1 [.str "uint", .str "uint", .str "uint"]
  w_REQUESTS_k12_9 : ∀ H : Hp, SqT K H A.a_REQUESTS_k12_9 [.str "raise", .ref A.a_REQUESTS_k12_9_1, .bl false]
  w_REQUESTS_k12_9_1 : ∀ H : Hp, SqT K H A.a_REQUESTS_k12_9_1 [.str "uint"]
  w_REQUESTS_k12_10 : ∀ H : Hp, SqT K H A.a_REQUESTS_k12_10 [.str "maximize", .ref A.a_REQUESTS_k12_10_1, .bl false]
  w_REQUESTS_k12_10_1 : ∀ H : Hp, SqT K H A.a_REQUESTS_k12_10_1 [.str "uint"]
  w_REQUESTS_k12_11 : ∀ H : Hp, SqT K H A.a_REQUESTS_k12_11 [.str "restore", .ref A.a_REQUESTS_k12_11_1, .bl false]
  w_REQUESTS_k12_11_1 : ∀ H : Hp, SqT K H A.a_REQUESTS_k12_11_1 []
  w_REQUESTS_k13 : ∀ H : Hp, SqT K H A.a_REQUESTS_k13 [.ref A.a_REQUESTS_k13_0, .ref A.a_REQUESTS_k13_1]
  w_REQUESTS_k13_0 : ∀ H : Hp, SqT K H A.a_REQUESTS_k13_0 [.str "destroy", .ref A.a_REQUESTS_k13_0_1, .bl true]
  w_REQUESTS_k13_0_1 : ∀ H : Hp, SqT K H A.a_REQUESTS_k13_0_1 []
  w_REQUESTS_k13_1 : ∀ H : Hp, SqT K H A.a_REQUESTS_k13_1 [.str "place", .ref A.a_REQUESTS_k13_1_1, .bl false]
  w_REQUESTS_k13_1_1 : ∀ H : Hp, SqT K H A.a_REQUESTS_k13_1_1 [.str "int", .str "int", .str "int", .str "int", .str "int", .str "int", .str "int", .str "int", .str "uint", .str "uint", .str "int", .str "int", .str "uint"]
  w_REQUESTS_k14 : ∀ H : Hp, SqT K H A.a_REQUESTS_k14 [.ref A.a_REQUESTS_k14_0, .ref A.a_REQUESTS_k14_1]
  w_REQUESTS_k14_0 : ∀ H : Hp, SqT K H A.a_REQUESTS_k14_0 [.str "pointer", .ref A.a_REQUESTS_k14_0_1, .bl false]
  w_REQUESTS_k14_0_1 : ∀ H : Hp, SqT K H A.a_REQUESTS_k14_0_1 [.str "new pointer"]
  w_REQUESTS_k14_1 : ∀ H : Hp, SqT K H A.a_REQUESTS_k14_1 [.str "keyboard", .ref A.a_REQUESTS_k14_1_1, .bl false]
  w_REQUESTS_k14_1_1 : ∀ H : Hp, SqT K H A.a_REQUESTS_k14_1_1 [.str "new keyboard"]
  w_REQUESTS_k15 : ∀ H : Hp, SqT K H A.a_REQUESTS_k15 [.ref A.a_REQUESTS_k15_0, .ref A.a_REQUESTS_k15_1]
  w_REQUESTS_k15_0 : ∀ H : Hp, SqT K H A.a_REQUESTS_k15_0 [.str "destroy", .ref A.a_REQUESTS_k15_0_1, .bl true]
  w_REQUESTS_k15_0_1 : ∀ H : Hp, SqT K H A.a_REQUESTS_k15_0_1 []
  w_REQUESTS_k15_1 : ∀ H : Hp, SqT K H A.a_REQUESTS_k15_1 [.str "cursor", .ref A.a_REQUESTS_k15_1_1, .bl false]
  w_REQUESTS_k15_1_1 : ∀ H : Hp, SqT K H A.a_REQUESTS_k15_1_1 [.str "uint"]
  w_REQUESTS_k16 : ∀ H : Hp, SqT K H A.a_REQUESTS_k16 [.ref A.a_REQUESTS_k16_0]
  w_REQUESTS_k16_0 : ∀ H : Hp, SqT K H A.a_REQUESTS_k16_0 [.str "destroy", .ref A.a_REQUESTS_k16_0_1, .bl true]
  w_REQUESTS_k16_0_1 : ∀ H : Hp, SqT K H A.a_REQUESTS_k16_0_1 []
  w_REQUESTS_k17 : ∀ H : Hp, SqT K H A.a_REQUESTS_k17 [.ref A.a_REQUESTS_k17_0, .ref A.a_REQUESTS_k17_1, .ref A.a_REQUESTS_k17_2, .ref A.a_REQUESTS_k17_3, .ref A.a_REQUESTS_k17_4, .ref A.a_REQUESTS_k17_5, .ref A.a_REQUESTS_k17_6, .ref A.a_REQUESTS_k17_7, .ref A.a_REQUESTS_k17_8]
  w_REQUESTS_k17_0 : ∀ H : Hp, SqT K H A.a_REQUESTS_k17_0 [.str "source", .ref A.a_REQUESTS_k17_0_1, .bl false]
  w_REQUESTS_k17_0_1 : ∀ H : Hp, SqT K H A.a_REQUESTS_k17_0_1 [.str "new source"]
  w_REQUESTS_k17_1 : ∀ H : Hp, SqT K H A.a_REQUESTS_k17_1 [.str "give", .ref A.a_REQUESTS_k17_1_1, .bl false]
  w_REQUESTS_k17_1_1 : ∀ H : Hp, SqT K H A.a_REQUESTS_k17_1_1 [.str "object source", .str "uint", .str "uint"]
  w_REQUESTS_k17_2 : ∀ H : Hp, SqT K H A.a_REQUESTS_k17_2 [.str "drag", .ref A.a_REQUESTS_k17_2_1, .bl false]
  w_REQUESTS_k17_2_1 : ∀ H : Hp, SqT K H A.a_REQUESTS_k17_2_1 [.str "object source", .str "uint"]
  w_REQUESTS_k17_3 : ∀ H : Hp, SqT K H A.a_REQUESTS_k17_3 [.str "send", .ref A.a_REQUESTS_k17_3_1, .bl false]
  w_REQUESTS_k17_3_1 : ∀ H : Hp, SqT K H A.a_REQUESTS_k17_3_1 [.str "text", .str "octets"]
  w_REQUESTS_k17_4 : ∀ H : Hp, SqT K H A.a_REQUESTS_k17_4 [.str "unsend", .ref A.a_REQUESTS_k17_4_1, .bl false]
  w_REQUESTS_k17_4_1 : ∀ H : Hp, SqT K H A.a_REQUESTS_k17_4_1 [.str "text"]
  w_REQUESTS_k17_5 : ∀ H : Hp, SqT K H A.a_REQUESTS_k17_5 [.str "ask", .ref A.a_REQUESTS_k17_5_1, .bl false]
  w_REQUESTS_k17_5_1 : ∀ H : Hp, SqT K H A.a_REQUESTS_k17_5_1 [.str "new capture", .str "object output", .str "int", .str "int", .str "uint", .str "uint"]
  w_REQUESTS_k17_6 : ∀ H : Hp, SqT K H A.a_REQUESTS_k17_6 [.str "fetch", .ref A.a_REQUESTS_k17_6_1, .bl false]
  w_REQUESTS_k17_6_1 : ∀ H : Hp, SqT K H A.a_REQUESTS_k17_6_1 [.str "new fetch", .str "text"]
  w_REQUESTS_k17_7 : ∀ H : Hp, SqT K H A.a_REQUESTS_k17_7 [.str "watch", .ref A.a_REQUESTS_k17_7_1, .bl false]
  w_REQUESTS_k17_7_1 : ∀ H : Hp, SqT K H A.a_REQUESTS_k17_7_1 [.str "new watch", .str "text"]
  w_REQUESTS_k17_8 : ∀ H : Hp, SqT K H A.a_REQUESTS_k17_8 [.str "destroy", .ref A.a_REQUESTS_k17_8_1, .bl true]
  w_REQUESTS_k17_8_1 : ∀ H : Hp, SqT K H A.a_REQUESTS_k17_8_1 []
  w_REQUESTS_k18 : ∀ H : Hp, SqT K H A.a_REQUESTS_k18 [.ref A.a_REQUESTS_k18_0, .ref A.a_REQUESTS_k18_1]
  w_REQUESTS_k18_0 : ∀ H : Hp, SqT K H A.a_REQUESTS_k18_0 [.str "write", .ref A.a_REQUESTS_k18_0_1, .bl false]
  w_REQUESTS_k18_0_1 : ∀ H : Hp, SqT K H A.a_REQUESTS_k18_0_1 [.str "text", .str "octets"]
  w_REQUESTS_k18_1 : ∀ H : Hp, SqT K H A.a_REQUESTS_k18_1 [.str "destroy", .ref A.a_REQUESTS_k18_1_1, .bl true]
  w_REQUESTS_k18_1_1 : ∀ H : Hp, SqT K H A.a_REQUESTS_k18_1_1 []
  w_REQUESTS_k19 : ∀ H : Hp, SqT K H A.a_REQUESTS_k19 [.ref A.a_REQUESTS_k19_0, .ref A.a_REQUESTS_k19_1]
  w_REQUESTS_k19_0 : ∀ H : Hp, SqT K H A.a_REQUESTS_k19_0 [.str "read", .ref A.a_REQUESTS_k19_0_1, .bl false]
  w_REQUESTS_k19_0_1 : ∀ H : Hp, SqT K H A.a_REQUESTS_k19_0_1 [.str "text", .str "uint", .str "uint"]
  w_REQUESTS_k19_1 : ∀ H : Hp, SqT K H A.a_REQUESTS_k19_1 [.str "destroy", .ref A.a_REQUESTS_k19_1_1, .bl true]
  w_REQUESTS_k19_1_1 : ∀ H : Hp, SqT K H A.a_REQUESTS_k19_1_1 []
  w_REQUESTS_k20 : ∀ H : Hp, SqT K H A.a_REQUESTS_k20 [.ref A.a_REQUESTS_k20_0, .ref A.a_REQUESTS_k20_1]
  w_REQUESTS_k20_0 : ∀ H : Hp, SqT K H A.a_REQUESTS_k20_0 [.str "read", .ref A.a_REQUESTS_k20_0_1, .bl false]
  w_REQUESTS_k20_0_1 : ∀ H : Hp, SqT K H A.a_REQUESTS_k20_0_1 [.str "uint", .str "uint"]
  w_REQUESTS_k20_1 : ∀ H : Hp, SqT K H A.a_REQUESTS_k20_1 [.str "destroy", .ref A.a_REQUESTS_k20_1_1, .bl true]
  w_REQUESTS_k20_1_1 : ∀ H : Hp, SqT K H A.a_REQUESTS_k20_1_1 []
  w_REQUESTS_k21 : ∀ H : Hp, SqT K H A.a_REQUESTS_k21 [.ref A.a_REQUESTS_k21_0, .ref A.a_REQUESTS_k21_1]
  w_REQUESTS_k21_0 : ∀ H : Hp, SqT K H A.a_REQUESTS_k21_0 [.str "read", .ref A.a_REQUESTS_k21_0_1, .bl false]
  w_REQUESTS_k21_0_1 : ∀ H : Hp, SqT K H A.a_REQUESTS_k21_0_1 [.str "uint", .str "uint"]
  w_REQUESTS_k21_1 : ∀ H : Hp, SqT K H A.a_REQUESTS_k21_1 [.str "destroy", .ref A.a_REQUESTS_k21_1_1, .bl true]
  w_REQUESTS_k21_1_1 : ∀ H : Hp, SqT K H A.a_REQUESTS_k21_1_1 []
  w_REQUESTS_k22 : ∀ H : Hp, SqT K H A.a_REQUESTS_k22 [.ref A.a_REQUESTS_k22_0]
  w_REQUESTS_k22_0 : ∀ H : Hp, SqT K H A.a_REQUESTS_k22_0 [.str "destroy", .ref A.a_REQUESTS_k22_0_1, .bl true]
  w_REQUESTS_k22_0_1 : ∀ H : Hp, SqT K H A.a_REQUESTS_k22_0_1 []
  g_EVENTS : mg "_EVENTS" = some (.ref A.a_EVENTS)
  w_EVENTS_k0 : ∀ H : Hp, SqT K H A.a_EVENTS_k0 [.ref A.a_EVENTS_k0_0, .ref A.a_EVENTS_k0_1]
  w_EVENTS_k0_0 : ∀ H : Hp, SqT K H A.a_EVENTS_k0_0 [.str "error", .ref A.a_EVENTS_k0_0_1]
  w_EVENTS_k0_0_1 : ∀ H : Hp, SqT K H A.a_EVENTS_k0_0_1 [.str "uint", .str "uint", .str "text"]
  w_EVENTS_k0_1 : ∀ H : Hp, SqT K H A.a_EVENTS_k0_1 [.str "removed", .ref A.a_EVENTS_k0_1_1]
  w_EVENTS_k0_1_1 : ∀ H : Hp, SqT K H A.a_EVENTS_k0_1_1 [.str "uint"]
  w_EVENTS_k1 : ∀ H : Hp, SqT K H A.a_EVENTS_k1 [.ref A.a_EVENTS_k1_0]
  w_EVENTS_k1_0 : ∀ H : Hp, SqT K H A.a_EVENTS_k1_0 [.str "done", .ref A.a_EVENTS_k1_0_1]
  w_EVENTS_k1_0_1 : ∀ H : Hp, SqT K H A.a_EVENTS_k1_0_1 [.str "uint"]
  w_EVENTS_k2 : ∀ H : Hp, SqT K H A.a_EVENTS_k2 [.ref A.a_EVENTS_k2_0, .ref A.a_EVENTS_k2_1]
  w_EVENTS_k2_0 : ∀ H : Hp, SqT K H A.a_EVENTS_k2_0 [.str "there", .ref A.a_EVENTS_k2_0_1]
  w_EVENTS_k2_0_1 : ∀ H : Hp, SqT K H A.a_EVENTS_k2_0_1 [.str "uint", .str "text"]
  w_EVENTS_k2_1 : ∀ H : Hp, SqT K H A.a_EVENTS_k2_1 [.str "gone", .ref A.a_EVENTS_k2_1_1]
  w_EVENTS_k2_1_1 : ∀ H : Hp, SqT K H A.a_EVENTS_k2_1_1 [.str "uint"]
  w_EVENTS_k3 : ∀ H : Hp, SqT K H A.a_EVENTS_k3 [.ref A.a_EVENTS_k3_0]
  w_EVENTS_k3_0 : ∀ H : Hp, SqT K H A.a_EVENTS_k3_0 [.str "release", .ref A.a_EVENTS_k3_0_1]
  w_EVENTS_k3_0_1 : ∀ H : Hp, SqT K H A.a_EVENTS_k3_0_1 []
  w_EVENTS_k4 : ∀ H : Hp, SqT K H A.a_EVENTS_k4 [.ref A.a_EVENTS_k4_0]
  w_EVENTS_k4_0 : ∀ H : Hp, SqT K H A.a_EVENTS_k4_0 [.str "size", .ref A.a_EVENTS_k4_0_1]
  w_EVENTS_k4_0_1 : ∀ H : Hp, SqT K H A.a_EVENTS_k4_0_1 [.str "uint", .str "uint", .str "uint", .str "uint"]
  w_EVENTS_k5 : ∀ H : Hp, SqT K H A.a_EVENTS_k5 [.ref A.a_EVENTS_k5_0, .ref A.a_EVENTS_k5_1, .ref A.a_EVENTS_k5_2, .ref A.a_EVENTS_k5_3]
  w_EVENTS_k5_0 : ∀ H : Hp, SqT K H A.a_EVENTS_k5_0 [.str "configure", .ref A.a_EVENTS_k5_0_1]
  w_EVENTS_k5_0_1 : ∀ H : Hp, SqT K H A.a_EVENTS_k5_0_1 [.str "uint", .str "uint", .str "uint", .str "uint"]
  w_EVENTS_k5_1 : ∀ H : Hp, SqT K H A.a_EVENTS_k5_1 [.str "close", .ref A.a_EVENTS_k5_1_1]
  w_EVENTS_k5_1_1 : ∀ H : Hp, SqT K H A.a_EVENTS_k5_1_1 []
  w_EVENTS_k5_2 : ∀ H : Hp, SqT K H A.a_EVENTS_k5_2 [.str "output", .ref A.a_EVENTS_k5_2_1]
  w_EVENTS_k5_2_1 : ∀ H : Hp, SqT K H A.a_EVENTS_k5_2_1 [.str "uint"]
  w_EVENTS_k5_3 : ∀ H : Hp, SqT K H A.a_EVENTS_k5_3 [.str "left", .ref A.a_EVENTS_k5_3_1]
  w_EVENTS_k5_3_1 : ∀ H : Hp, SqT K H A.a_EVENTS_k5_3_1 [.str "uint"]
  w_EVENTS_k6 : ∀ H : Hp, SqT K H A.a_EVENTS_k6 [.ref A.a_EVENTS_k6_0, .ref A.a_EVENTS_k6_1]
  w_EVENTS_k6_0 : ∀ H : Hp, SqT K H A.a_EVENTS_k6_0 [.str "placed", .ref A.a_EVENTS_k6_0_1]
  w_EVENTS_k6_0_1 : ∀ H : Hp, SqT K H A.a_EVENTS_k6_0_1 [.str "int", .str "int", .str "uint", .str "uint"]
  w_EVENTS_k6_1 : ∀ H : Hp, SqT K H A.a_EVENTS_k6_1 [.str "done", .ref A.a_EVENTS_k6_1_1]
  w_EVENTS_k6_1_1 : ∀ H : Hp, SqT K H A.a_EVENTS_k6_1_1 []
  w_EVENTS_k7 : ∀ H : Hp, SqT K H A.a_EVENTS_k7 [.ref A.a_EVENTS_k7_0, .ref A.a_EVENTS_k7_1, .ref A.a_EVENTS_k7_2, .ref A.a_EVENTS_k7_3, .ref A.a_EVENTS_k7_4]
  w_EVENTS_k7_0 : ∀ H : Hp, SqT K H A.a_EVENTS_k7_0 [.str "enter", .ref A.a_EVENTS_k7_0_1]
  w_EVENTS_k7_0_1 : ∀ H : Hp, SqT K H A.a_EVENTS_k7_0_1 [.str "object", .str "int", .str "int"]
  w_EVENTS_k7_1 : ∀ H : Hp, SqT K H A.a_EVENTS_k7_1 [.str "leave", .ref A.a_EVENTS_k7_1_1]
  w_EVENTS_k7_1_1 : ∀ H : Hp, SqT K H A.a_EVENTS_k7_1_1 [.str "object"]
  w_EVENTS_k7_2 : ∀ H : Hp, SqT K H A.a_EVENTS_k7_2 [.str "motion", .ref A.a_EVENTS_k7_2_1]
  w_EVENTS_k7_2_1 : ∀ H : Hp, SqT K H A.a_EVENTS_k7_2_1 [.str "int", .str "int", .str "uint"]
  w_EVENTS_k7_3 : ∀ H : Hp, SqT K H A.a_EVENTS_k7_3 [.str "button", .ref A.a_EVENTS_k7_3_1]
  w_EVENTS_k7_3_1 : ∀ H : Hp, SqT K H A.a_EVENTS_k7_3_1 [.str "uint", .str "uint", .str "uint", .str "uint"]
  w_EVENTS_k7_4 : ∀ H : Hp, SqT K H A.a_EVENTS_k7_4 [.str "axis", .ref A.a_EVENTS_k7_4_1]
  w_EVENTS_k7_4_1 : ∀ H : Hp, SqT K H A.a_EVENTS_k7_4_1 [.str "int", .str "int", .str "uint"]
  w_EVENTS_k8 : ∀ H : Hp, SqT K H A.a_EVENTS_k8 [.ref A.a_EVENTS_k8_0, .ref A.a_EVENTS_k8_1, .ref A.a_EVENTS_k8_2, .ref A.a_EVENTS_k8_3, .ref A.a_EVENTS_k8_4]
  w_EVENTS_k8_0 : ∀ H : Hp, SqT K H A.a_EVENTS_k8_0 [.str "keymap", .ref A.a_EVENTS_k8_0_1]
  w_EVENTS_k8_0_1 : ∀ H : Hp, SqT K H A.a_EVENTS_k8_0_1 [.str "text"]
  w_EVENTS_k8_1 : ∀ H : Hp, SqT K H A.a_EVENTS_k8_1 [.str "enter", .ref A.a_EVENTS_k8_1_1]
  w_EVENTS_k8_1_1 : ∀ H : Hp, SqT K H A.a_EVENTS_k8_1_1 [.str "object"]
  w_EVENTS_k8_2 : ∀ H : Hp, SqT K H A.a_EVENTS_k8_2 [.str "leave", .ref A.a_EVENTS_k8_2_1]
  w_EVENTS_k8_2_1 : ∀ H : Hp, SqT K H A.a_EVENTS_k8_2_1 [.str "object"]
  w_EVENTS_k8_3 : ∀ H : Hp, SqT K H A.a_EVENTS_k8_3 [.str "key", .ref A.a_EVENTS_k8_3_1]
  w_EVENTS_k8_3_1 : ∀ H : Hp, SqT K H A.a_EVENTS_k8_3_1 [.str "uint", .str "uint", .str "uint", .str "uint"]
  w_EVENTS_k8_4 : ∀ H : Hp, SqT K H A.a_EVENTS_k8_4 [.str "symbol", .ref A.a_EVENTS_k8_4_1]
  w_EVENTS_k8_4_1 : ∀ H : Hp, SqT K H A.a_EVENTS_k8_4_1 [.str "text", .str "text", .str "uint"]
  w_EVENTS_k9 : ∀ H : Hp, SqT K H A.a_EVENTS_k9 [.ref A.a_EVENTS_k9_0, .ref A.a_EVENTS_k9_1, .ref A.a_EVENTS_k9_2, .ref A.a_EVENTS_k9_3, .ref A.a_EVENTS_k9_4, .ref A.a_EVENTS_k9_5]
  w_EVENTS_k9_0 : ∀ H : Hp, SqT K H A.a_EVENTS_k9_0 [.str "offer", .ref A.a_EVENTS_k9_0_1]
  w_EVENTS_k9_0_1 : ∀ H : Hp, SqT K H A.a_EVENTS_k9_0_1 [.str "new", .str "uint"]
  w_EVENTS_k9_1 : ∀ H : Hp, SqT K H A.a_EVENTS_k9_1 [.str "hover", .ref A.a_EVENTS_k9_1_1]
  w_EVENTS_k9_1_1 : ∀ H : Hp, SqT K H A.a_EVENTS_k9_1_1 [.str "object", .str "int", .str "int"]
  w_EVENTS_k9_2 : ∀ H : Hp, SqT K H A.a_EVENTS_k9_2 [.str "hover_kind", .ref A.a_EVENTS_k9_2_1]
  w_EVENTS_k9_2_1 : ∀ H : Hp, SqT K H A.a_EVENTS_k9_2_1 [.str "text"]
  w_EVENTS_k9_3 : ∀ H : Hp, SqT K H A.a_EVENTS_k9_3 [.str "moved", .ref A.a_EVENTS_k9_3_1]
  w_EVENTS_k9_3_1 : ∀ H : Hp, SqT K H A.a_EVENTS_k9_3_1 [.str "uint", .str "int", .str "int"]
  w_EVENTS_k9_4 : ∀ H : Hp, SqT K H A.a_EVENTS_k9_4 [.str "away", .ref A.a_EVENTS_k9_4_1]
  w_EVENTS_k9_4_1 : ∀ H : Hp, SqT K H A.a_EVENTS_k9_4_1 []
  w_EVENTS_k9_5 : ∀ H : Hp, SqT K H A.a_EVENTS_k9_5 [.str "ended", .ref A.a_EVENTS_k9_5_1]
  w_EVENTS_k9_5_1 : ∀ H : Hp, SqT K H A.a_EVENTS_k9_5_1 []
  w_EVENTS_k10 : ∀ H : Hp, SqT K H A.a_EVENTS_k10 [.ref A.a_EVENTS_k10_0, .ref A.a_EVENTS_k10_1]
  w_EVENTS_k10_0 : ∀ H : Hp, SqT K H A.a_EVENTS_k10_0 [.str "kind", .ref A.a_EVENTS_k10_0_1]
  w_EVENTS_k10_0_1 : ∀ H : Hp, SqT K H A.a_EVENTS_k10_0_1 [.str "text", .str "uint"]
  w_EVENTS_k10_1 : ∀ H : Hp, SqT K H A.a_EVENTS_k10_1 [.str "part", .ref A.a_EVENTS_k10_1_1]
  w_EVENTS_k10_1_1 : ∀ H : Hp, SqT K H A.a_EVENTS_k10_1_1 [.str "text", .str "uint", .str "octets"]
  w_EVENTS_k11 : ∀ H : Hp, SqT K H A.a_EVENTS_k11 [.ref A.a_EVENTS_k11_0, .ref A.a_EVENTS_k11_1, .ref A.a_EVENTS_k11_2]
  w_EVENTS_k11_0 : ∀ H : Hp, SqT K H A.a_EVENTS_k11_0 [.str "allowed", .ref A.a_EVENTS_k11_0_1]
  w_EVENTS_k11_0_1 : ∀ H : Hp, SqT K H A.a_EVENTS_k11_0_1 [.str "uint", .str "uint"]
  w_EVENTS_k11_1 : ∀ H : Hp, SqT K H A.a_EVENTS_k11_1 [.str "refused", .ref A.a_EVENTS_k11_1_1]
  w_EVENTS_k11_1_1 : ∀ H : Hp, SqT K H A.a_EVENTS_k11_1_1 []
  w_EVENTS_k11_2 : ∀ H : Hp, SqT K H A.a_EVENTS_k11_2 [.str "rows", .ref A.a_EVENTS_k11_2_1]
  w_EVENTS_k11_2_1 : ∀ H : Hp, SqT K H A.a_EVENTS_k11_2_1 [.str "uint", .str "octets"]
  w_EVENTS_k12 : ∀ H : Hp, SqT K H A.a_EVENTS_k12 [.ref A.a_EVENTS_k12_0, .ref A.a_EVENTS_k12_1, .ref A.a_EVENTS_k12_2]
  w_EVENTS_k12_0 : ∀ H : Hp, SqT K H A.a_EVENTS_k12_0 [.str "changed", .ref A.a_EVENTS_k12_0_1]
  w_EVENTS_k12_0_1 : ∀ H : Hp, SqT K H A.a_EVENTS_k12_0_1 [.str "uint"]
  w_EVENTS_k12_1 : ∀ H : Hp, SqT K H A.a_EVENTS_k12_1 [.str "gone", .ref A.a_EVENTS_k12_1_1]
  w_EVENTS_k12_1_1 : ∀ H : Hp, SqT K H A.a_EVENTS_k12_1_1 []
  w_EVENTS_k12_2 : ∀ H : Hp, SqT K H A.a_EVENTS_k12_2 [.str "part", .ref A.a_EVENTS_k12_2_1]
  w_EVENTS_k12_2_1 : ∀ H : Hp, SqT K H A.a_EVENTS_k12_2_1 [.str "uint", .str "octets"]
  w_EVENTS_k13 : ∀ H : Hp, SqT K H A.a_EVENTS_k13 [.ref A.a_EVENTS_k13_0, .ref A.a_EVENTS_k13_1]
  w_EVENTS_k13_0 : ∀ H : Hp, SqT K H A.a_EVENTS_k13_0 [.str "there", .ref A.a_EVENTS_k13_0_1]
  w_EVENTS_k13_0_1 : ∀ H : Hp, SqT K H A.a_EVENTS_k13_0_1 []
  w_EVENTS_k13_1 : ∀ H : Hp, SqT K H A.a_EVENTS_k13_1 [.str "gone", .ref A.a_EVENTS_k13_1_1]
  w_EVENTS_k13_1_1 : ∀ H : Hp, SqT K H A.a_EVENTS_k13_1_1 []
  gBadMessage : mg "BadMessage" = some (.ref A.CBadMessage)
  xBadMessage : PySem.W.excIn K A.CBadMessage [.type "ValueError", .type "Exception", .type "BaseException", .type "object"] "ValueError.__new__" = true
  kBadMessage : PySem.W.keepIn K (.ref A.CBadMessage) = true
  bxBadMessage : PySem.W.subIn K (.ref A.CBadMessage) (.type "BaseException") = some true
  txBadMessage : PySem.W.typeIn K (.ref A.CBadMessage) = some (.type "type")
  exBadMessage : PySem.W.exmOne K (.ref A.CBadMessage) (.ref A.CBadMessage) = some true
  gMessageTooLong : mg "MessageTooLong" = some (.ref A.CMessageTooLong)
  xMessageTooLong : PySem.W.excIn K A.CMessageTooLong [.type "ValueError", .type "Exception", .type "BaseException", .type "object"] "ValueError.__new__" = true
  kMessageTooLong : PySem.W.keepIn K (.ref A.CMessageTooLong) = true
  bxMessageTooLong : PySem.W.subIn K (.ref A.CMessageTooLong) (.type "BaseException") = some true
  txMessageTooLong : PySem.W.typeIn K (.ref A.CMessageTooLong) = some (.type "type")
  exMessageTooLong : PySem.W.exmOne K (.ref A.CMessageTooLong) (.ref A.CMessageTooLong) = some true
structure Dic (w : World) (K : PySem.W.Frag) (A : Adr) : Prop where
  d_REQUESTS_k0 : KDct K w A.a_REQUESTS "display" (.ref A.a_REQUESTS_k0)
  d_REQUESTS_k1 : KDct K w A.a_REQUESTS "callback" (.ref A.a_REQUESTS_k1)
  d_REQUESTS_k2 : KDct K w A.a_REQUESTS "registry" (.ref A.a_REQUESTS_k2)
  d_REQUESTS_k3 : KDct K w A.a_REQUESTS "memory" (.ref A.a_REQUESTS_k3)
  d_REQUESTS_k4 : KDct K w A.a_REQUESTS "buffer" (.ref A.a_REQUESTS_k4)
  d_REQUESTS_k5 : KDct K w A.a_REQUESTS "compositor" (.ref A.a_REQUESTS_k5)
  d_REQUESTS_k6 : KDct K w A.a_REQUESTS "region" (.ref A.a_REQUESTS_k6)
  d_REQUESTS_k7 : KDct K w A.a_REQUESTS "surface" (.ref A.a_REQUESTS_k7)
  d_REQUESTS_k8 : KDct K w A.a_REQUESTS "joiner" (.ref A.a_REQUESTS_k8)
  d_REQUESTS_k9 : KDct K w A.a_REQUESTS "sub" (.ref A.a_REQUESTS_k9)
  d_REQUESTS_k10 : KDct K w A.a_REQUESTS "output" (.ref A.a_REQUESTS_k10)
  d_REQUESTS_k11 : KDct K w A.a_REQUESTS "windows" (.ref A.a_REQUESTS_k11)
  d_REQUESTS_k12 : KDct K w A.a_REQUESTS "window" (.ref A.a_REQUESTS_k12)
  d_REQUESTS_k13 : KDct K w A.a_REQUESTS "popup" (.ref A.a_REQUESTS_k13)
  d_REQUESTS_k14 : KDct K w A.a_REQUESTS "seat" (.ref A.a_REQUESTS_k14)
  d_REQUESTS_k15 : KDct K w A.a_REQUESTS "pointer" (.ref A.a_REQUESTS_k15)
  d_REQUESTS_k16 : KDct K w A.a_REQUESTS "keyboard" (.ref A.a_REQUESTS_k16)
  d_REQUESTS_k17 : KDct K w A.a_REQUESTS "transfer" (.ref A.a_REQUESTS_k17)
  d_REQUESTS_k18 : KDct K w A.a_REQUESTS "source" (.ref A.a_REQUESTS_k18)
  d_REQUESTS_k19 : KDct K w A.a_REQUESTS "offer" (.ref A.a_REQUESTS_k19)
  d_REQUESTS_k20 : KDct K w A.a_REQUESTS "capture" (.ref A.a_REQUESTS_k20)
  d_REQUESTS_k21 : KDct K w A.a_REQUESTS "fetch" (.ref A.a_REQUESTS_k21)
  d_REQUESTS_k22 : KDct K w A.a_REQUESTS "watch" (.ref A.a_REQUESTS_k22)
  kk_REQUESTS : KKeys K w A.a_REQUESTS ["display", "callback", "registry", "memory", "buffer", "compositor", "region", "surface", "joiner", "sub", "output", "windows", "window", "popup", "seat", "pointer", "keyboard", "transfer", "source", "offer", "capture", "fetch", "watch"]
  d_EVENTS_k0 : KDct K w A.a_EVENTS "display" (.ref A.a_EVENTS_k0)
  d_EVENTS_k1 : KDct K w A.a_EVENTS "callback" (.ref A.a_EVENTS_k1)
  d_EVENTS_k2 : KDct K w A.a_EVENTS "registry" (.ref A.a_EVENTS_k2)
  d_EVENTS_k3 : KDct K w A.a_EVENTS "buffer" (.ref A.a_EVENTS_k3)
  d_EVENTS_k4 : KDct K w A.a_EVENTS "output" (.ref A.a_EVENTS_k4)
  d_EVENTS_k5 : KDct K w A.a_EVENTS "window" (.ref A.a_EVENTS_k5)
  d_EVENTS_k6 : KDct K w A.a_EVENTS "popup" (.ref A.a_EVENTS_k6)
  d_EVENTS_k7 : KDct K w A.a_EVENTS "pointer" (.ref A.a_EVENTS_k7)
  d_EVENTS_k8 : KDct K w A.a_EVENTS "keyboard" (.ref A.a_EVENTS_k8)
  d_EVENTS_k9 : KDct K w A.a_EVENTS "transfer" (.ref A.a_EVENTS_k9)
  d_EVENTS_k10 : KDct K w A.a_EVENTS "offer" (.ref A.a_EVENTS_k10)
  d_EVENTS_k11 : KDct K w A.a_EVENTS "capture" (.ref A.a_EVENTS_k11)
  d_EVENTS_k12 : KDct K w A.a_EVENTS "fetch" (.ref A.a_EVENTS_k12)
  d_EVENTS_k13 : KDct K w A.a_EVENTS "watch" (.ref A.a_EVENTS_k13)
  kk_EVENTS : KKeys K w A.a_EVENTS ["display", "callback", "registry", "buffer", "output", "window", "popup", "pointer", "keyboard", "transfer", "offer", "capture", "fetch", "watch"]
section
variable {P : Program} {w : World} {K : PySem.W.Frag} {mg : Str → Option Value} {base : Heap} {A : Adr}
/-! ### common: tests, errors, small words -/
theorem exm_self {K : PySem.W.Frag} {S : Addr} (h1 : PySem.W.subIn K (.ref S) (.type "BaseException") = some true) (h2 : PySem.W.isClsIn K S = true) (h3 : PySem.W.typeIn K (.ref S) = some (.type "type")) (h4 : PySem.W.subIn K (.ref S) (.ref S) = some true) :
    PySem.W.exmOne K (.ref S) (.ref S) = some true := by
  have g1 : (PySem.W.subIn K (.ref S) (.type "BaseException") == some true) = true := by rw [h1]; rfl
  have g0 : (PySem.W.clsIn K S).isSome = true := h2
  have g2 : ((PySem.W.clsIn K S).isSome && PySem.W.typeIn K (.ref S) == some (.type "type")) = true := by rw [g0, h3]; rfl
  show (if (PySem.W.subIn K (.ref S) (.type "BaseException") == some true) = true then (if ((PySem.W.clsIn K S).isSome && PySem.W.typeIn K (.ref S) == some (.type "type")) = true then PySem.W.subIn K (.ref S) (.ref S) else none) else none) = some true
  rw [if_pos g1, if_pos g2]
  exact h4
theorem exm_cross {K : PySem.W.Frag} {S R : Addr} {b : Bool} (h1 : PySem.W.subIn K (.ref S) (.type "BaseException") = some true) (h2 : PySem.W.isClsIn K S = true) (h3 : PySem.W.typeIn K (.ref S) = some (.type "type")) (h4 : PySem.W.subIn K (.ref R) (.ref S) = some b) :
    PySem.W.exmOne K (.ref R) (.ref S) = some b := by
  have g1 : (PySem.W.subIn K (.ref S) (.type "BaseException") == some true) = true := by rw [h1]; rfl
  have g0 : (PySem.W.clsIn K S).isSome = true := h2
  have g2 : ((PySem.W.clsIn K S).isSome && PySem.W.typeIn K (.ref S) == some (.type "type")) = true := by rw [g0, h3]; rfl
  show (if (PySem.W.subIn K (.ref S) (.type "BaseException") == some true) = true then (if ((PySem.W.clsIn K S).isSome && PySem.W.typeIn K (.ref S) == some (.type "type")) = true then PySem.W.subIn K (.ref R) (.ref S) else none) else none) = some b
  rw [if_pos g1, if_pos g2]
  exact h4
/-- the law's own promise -/
def sp_law (K : PySem.W.Frag) : Sp := fun vs H Q _ => ∃ (a : Addr) (ns : List Int), vs = [.ref a] ∧ SqL K H a (ns.map V.int) ∧ ns.length ≤ 63 ∧ ∀ H', Q (.bl true) H'
theorem iteP {p A B : Prop} [Decidable p] (h1 : p → A) (h2 : ¬ p → B) : if decide p = true then A else B := by
  by_cases h : p
  · rw [decide_eq_true h]; exact iteT (h1 h)
  · rw [decide_eq_false h]; exact iteF (h2 h)
theorem iteN {p A B : Prop} [Decidable p] (h1 : ¬ p → A) (h2 : p → B) : if (!decide p) = true then A else B := by
  by_cases h : p
  · rw [decide_eq_true h]; exact iteF (h2 h)
  · rw [decide_eq_false h]; exact iteT (h1 h)
theorem iteEq {i j : Int} {A B : Prop} (h1 : i = j → A) (h2 : i ≠ j → B) : if decide (V.int i = V.int j) = true then A else B :=
  iteP (fun h => h1 (V.int.inj h)) (fun h => h2 fun e => h (congrArg V.int e))
theorem iteNe {i j : Int} {A B : Prop} (h1 : i ≠ j → A) (h2 : i = j → B) : if (!decide (V.int i = V.int j)) = true then A else B :=
  iteN (fun h => h1 fun e => h (congrArg V.int e)) (fun h => h2 (V.int.inj h))
theorem if_t {b : Bool} {A B : Prop} (e : b = true) (h : A) : if b = true then A else B := by rw [if_pos e]; exact h
theorem if_f {b : Bool} {A B : Prop} (e : b = false) (h : B) : if b = true then A else B := by rw [e]; exact iteF h
theorem if_b {b : Bool} {A B : Prop} (h1 : b = true → A) (h2 : b = false → B) : if b = true then A else B := by
  cases b with
  | true => exact iteT (h1 rfl)
  | false => exact iteF (h2 rfl)
theorem same_upd {H : Hp} {p : Addr} {o : HO} (h : H p = none) : Same H (upd H p o) := fun b x e => by
  rw [upd_ne (ne_of_none e h)]
  exact e
theorem len_line {n : Nat} (h : n ≤ 100000) : n ≤ sizeLine := Nat.le_trans h (by decide)
theorem lt_line {n : Nat} (h : n < 100000) : n < sizeLine := Nat.lt_of_lt_of_le h (by decide)
local macro_rules | `(tactic| walk_at "rd") => `(tactic| repeat (first
  | refine ⟨_, rfl, ?_⟩
  | refine ⟨_, _, rfl, rfl, ?_⟩
  | refine ⟨rfl, ?_⟩
  | refine Or.inl ⟨_, rfl, ?_⟩
  | refine ⟨(by show (0 : Int) < _; decide), ?_⟩
  | refine ⟨(⟨by decide, by decide⟩ : CDiv _ _), ?_⟩
  | refine ⟨(Or.inl ⟨by decide, by decide⟩ : CMul _ _), ?_⟩
  | refine ⟨(Or.inr ⟨by decide, by decide⟩ : CMul _ _), ?_⟩))
/-! ### data that are compared -/
def Sh (n : Nat) (d : PyData) : Prop := d.canLay0 = true ∧ d.depth ≤ n
theorem Sh.mono {n m : Nat} {d : PyData} (h : Sh n d) (l : n ≤ m) : Sh m d := ⟨h.1, Nat.le_trans h.2 l⟩
theorem sh_all : ∀ {n : Nat} {ds : List PyData}, (∀ d ∈ ds, Sh n d) → PyData.canLayAll0 ds = true ∧ PyData.depthAll ds ≤ n
  | n, [], _ => ⟨by simp [PyData.canLayAll0], by simp [PyData.depthAll]⟩
  | n, d :: ds, h => by
    have h1 := h d List.mem_cons_self
    have h2 := sh_all fun e he => h e (List.mem_cons_of_mem _ he)
    refine ⟨?_, ?_⟩
    · simp only [PyData.canLayAll0, Bool.and_eq_true]; exact ⟨h1.1, h2.1⟩
    · simp only [PyData.depthAll]; exact Nat.max_le.mpr ⟨h1.2, h2.2⟩
theorem sh_list {n : Nat} {ds : List PyData} (h : ∀ d ∈ ds, Sh n d) : Sh (n + 1) (.list ds) := by
  have q := sh_all h
  exact ⟨by simp only [PyData.canLay0]; exact q.1, by simp only [PyData.depth]; exact Nat.succ_le_succ q.2⟩
theorem sh_tuple {n : Nat} {ds : List PyData} (h : ∀ d ∈ ds, Sh n d) : Sh (n + 1) (.tuple ds) := by
  have q := sh_all h
  exact ⟨by simp only [PyData.canLay0]; exact q.1, by simp only [PyData.depth]; exact Nat.succ_le_succ q.2⟩
theorem sh_int (i : Int) : Sh 0 (.int i) := ⟨by simp [PyData.canLay0], by simp [PyData.depth]⟩
theorem sh_bool (i : Bool) : Sh 0 (.bool i) := ⟨by simp [PyData.canLay0], by simp [PyData.depth]⟩
theorem sh_none : Sh 0 .none := ⟨by simp [PyData.canLay0], by simp [PyData.depth]⟩
theorem sh_str {s : Str} (h : PyData.strOk s = true) : Sh 0 (.str s) := ⟨by simp only [PyData.canLay0]; exact h, by simp [PyData.depth]⟩
theorem Sh.shaped {n : Nat} {d : PyData} (h : Sh n d) (l : n ≤ 64 := by decide) : SeqAt.shaped d = true := by
  show (d.canLay0 && decide (d.depth ≤ 64)) = true
  rw [h.1, decide_eq_true (Nat.le_trans h.2 l)]
  rfl
theorem Sh.self {n : Nat} {d : PyData} (h : Sh n d) : PyData.eqv d d = true := SeqAt.eqv_refl d h.1
def pInts (xs : List Int) : PyData := .list (xs.map PyData.int)
theorem sh_ints (xs : List Int) : Sh 1 (pInts xs) := sh_list fun d hd => by
  obtain ⟨i, _, rfl⟩ := List.mem_map.mp hd
  exact sh_int i
theorem dpall_ints {K : PySem.W.Frag} {H : Hp} : ∀ xs : List Int, DpAll K H (xs.map V.int) (xs.map PyData.int)
  | [] => .nil
  | x :: r => .cons (.int x) (dpall_ints r)
theorem dp_ints {K : PySem.W.Frag} {H : Hp} {p : Addr} {xs : List Int} (h : SqL K H p (xs.map V.int)) : Dp K H (.ref p) (pInts xs) := .lst h (dpall_ints xs)
/-! ### views: what is new, what stands -/
structure Ext (V H V' H' : Hp) : Prop where
  vv : Same V V'
  vh : Same V' H'
  hh : Same H H'
  nw : ∀ a, V' a ≠ none → V a ≠ none ∨ H a = none
theorem Ext.refl {V H : Hp} (h : Same V H) : Ext V H V H := ⟨Same.refl V, h, Same.refl H, fun _ h => Or.inl h⟩
theorem Ext.trans {V H V1 H1 V2 H2 : Hp} (a : Ext V H V1 H1) (b : Ext V1 H1 V2 H2) : Ext V H V2 H2 :=
  ⟨a.vv.trans b.vv, b.vh, a.hh.trans b.hh, fun x h => by
    rcases b.nw x h with q | q
    · exact a.nw x q
    · exact Or.inr (a.hh.free q)⟩
theorem none_of_same {V H : Hp} {p : Addr} (s : Same V H) (h : H p = none) : V p = none := s.free h
theorem Ext.new {V H : Hp} {p : Addr} {o : HO} (s : Same V H) (h : H p = none) : Ext V H (upd V p o) (upd H p o) :=
  ⟨same_upd (s.free h), fun b u e => by
    by_cases hb : b = p
    · subst hb; rw [upd_same] at e ⊢; exact e
    · rw [upd_ne hb] at e ⊢; exact s b u e, same_upd h, fun a e => by
    by_cases ha : a = p
    · subst ha; exact Or.inr h
    · rw [upd_ne ha] at e; exact Or.inl e⟩
/-- a new object that the view does not take in -/
theorem Ext.skip {V H : Hp} {p : Addr} {o : HO} (s : Same V H) (h : H p = none) : Ext V H V (upd H p o) :=
  ⟨Same.refl V, s.trans (same_upd h), same_upd h, fun _ e => Or.inl e⟩
theorem Ext.keepOut {V H V' H' : Hp} (x : Ext V H V' H') {D : Addr} (h : V D = none) (hd : H D ≠ none) : V' D = none := by
  cases e : V' D with
  | none => rfl
  | some o =>
    rcases x.nw D (by rw [e]; exact fun z => by cases z) with q | q
    · exact absurd h q
    · exact absurd q hd
/-- an object outside of the view changes -/
theorem Ext.poke {V H V' H' : Hp} (x : Ext V H V' H') {D : Addr} {o : HO} (hd : H D = none) (h : V' D = none) : Ext V H V' (upd H' D o) :=
  ⟨x.vv, fun b u e => by
    have hb : b ≠ D := fun z => by rw [z, h] at e; cases e
    rw [upd_ne hb]; exact x.vh b u e, fun b u e => by
    have hb : b ≠ D := ne_of_none e hd
    rw [upd_ne hb]; exact x.hh b u e, x.nw⟩
/-- the object at D, done, is taken in -/
theorem Ext.take {V H V' H' : Hp} (x : Ext V H V' H') {D : Addr} {o : HO} (hd : H D = none) (h : V' D = none) (e : H' D = some o) : Ext V H (upd V' D o) H' :=
  ⟨x.vv.trans (same_upd h), fun b u q => by
    by_cases hb : b = D
    · subst hb; rw [upd_same] at q; rw [e]; exact q
    · rw [upd_ne hb] at q; exact x.vh b u q, x.hh, fun a q => by
    by_cases ha : a = D
    · subst ha; exact Or.inr hd
    · rw [upd_ne ha] at q; exact x.nw a q⟩
theorem _root_.L2.Same.sqt {K : PySem.W.Frag} {H H' : Hp} {a : Addr} {xs : List V} (e : Same H H') (h : SqT K H a xs) : SqT K H' a xs := by
  rcases h with (h | ⟨o, h⟩) | h
  · exact .inl (.inl (e _ _ h))
  · exact .inl (.inr ⟨o, e _ _ h⟩)
  · exact .inr h
mutual
theorem dp_same {K : PySem.W.Frag} {H H' : Hp} (s : Same H H') : ∀ (d : PyData) (v : V), Dp K H v d → Dp K H' v d
  | .none, _, h => by cases h; exact .non
  | .bool b, _, h => by cases h; exact .bl b
  | .int i, _, h => by cases h; exact .int i
  | .str x, _, h => by cases h; exact .str x
  | .list ds, _, h => by
    cases h with
    | lst q r => exact .lst (s.seq q) (dpall_same s ds _ r)
  | .tuple ds, _, h => by
    cases h with
    | tup q r => exact .tup (s.sqt q) (dpall_same s ds _ r)
  | .dict _, _, h => by cases h
theorem dpall_same {K : PySem.W.Frag} {H H' : Hp} (s : Same H H') : ∀ (ds : List PyData) (vs : List V), DpAll K H vs ds → DpAll K H' vs ds
  | [], _, h => by cases h; exact .nil
  | d :: ds, _, h => by
    cases h with
    | cons q r => exact .cons (dp_same s d _ q) (dpall_same s ds _ r)
end
theorem _root_.L2.Dp.to {K : PySem.W.Frag} {H H' : Hp} {v : V} {d : PyData} (h : Dp K H v d) (s : Same H H') : Dp K H' v d := dp_same s d v h
theorem _root_.L2.DpAll.to {K : PySem.W.Frag} {H H' : Hp} {v : List V} {d : List PyData} (h : DpAll K H v d) (s : Same H H') : DpAll K H' v d := dpall_same s d v h
theorem dpall_len {K : PySem.W.Frag} {H : Hp} : ∀ {vs : List V} {ds : List PyData}, DpAll K H vs ds → vs.length = ds.length
  | _, [], h => by cases h; rfl
  | _, d :: ds, h => by
    cases h with
    | cons q r => exact congrArg (· + 1) (dpall_len r)
theorem dpall_get {K : PySem.W.Frag} {H : Hp} : ∀ {vs : List V} {ds : List PyData} {i : Nat} {v : V}, DpAll K H vs ds → vs[i]? = some v → ∃ d, ds[i]? = some d ∧ Dp K H v d
  | _, [], i, v, h, e => by cases h; cases e
  | _, d :: ds, i, v, h, e => by
    cases h with
    | cons q r =>
      match i, e with
      | 0, e => cases e; exact ⟨d, rfl, q⟩
      | i + 1, e => exact dpall_get (i := i) r e
theorem dpall_get' {K : PySem.W.Frag} {H : Hp} : ∀ {vs : List V} {ds : List PyData} {i : Nat} {d : PyData}, DpAll K H vs ds → ds[i]? = some d → ∃ v, vs[i]? = some v ∧ Dp K H v d
  | _, [], i, d, h, e => by cases e
  | _, d :: ds, i, d', h, e => by
    cases h with
    | cons q r =>
      match i, e with
      | 0, e => cases e; exact ⟨_, rfl, q⟩
      | i + 1, e => exact dpall_get' (i := i) r e
theorem dpall_app {K : PySem.W.Frag} {H : Hp} : ∀ {vs ws : List V} {ds es : List PyData}, DpAll K H vs ds → DpAll K H ws es → DpAll K H (vs ++ ws) (ds ++ es)
  | _, _, [], _, h, g => by cases h; exact g
  | _, _, d :: ds, _, h, g => by
    cases h with
    | cons q r => exact .cons q (dpall_app r g)
theorem dp_list {K : PySem.W.Frag} {H : Hp} {v : V} {ds : List PyData} (h : Dp K H v (.list ds)) : ∃ a xs, v = .ref a ∧ SqL K H a xs ∧ DpAll K H xs ds := by
  cases h with
  | lst q r => exact ⟨_, _, rfl, q, r⟩
theorem dp_tuple {K : PySem.W.Frag} {H : Hp} {v : V} {ds : List PyData} (h : Dp K H v (.tuple ds)) : ∃ a xs, v = .ref a ∧ SqT K H a xs ∧ DpAll K H xs ds := by
  cases h with
  | tup q r => exact ⟨_, _, rfl, q, r⟩
theorem dp_int {K : PySem.W.Frag} {H : Hp} {v : V} {i : Int} (h : Dp K H v (.int i)) : v = .int i := by cases h; rfl
theorem dp_str {K : PySem.W.Frag} {H : Hp} {v : V} {i : Str} (h : Dp K H v (.str i)) : v = .str i := by cases h; rfl
theorem dp_bool {K : PySem.W.Frag} {H : Hp} {v : V} {i : Bool} (h : Dp K H v (.bool i)) : v = .bl i := by cases h; rfl
/-! ### comprehensions over any walk -/
def fm {α : Type} (f : Nat → Option α) (n : Nat) : List α := (List.range n).filterMap f
theorem fm_succ {α : Type} (f : Nat → Option α) (n : Nat) : fm f (n + 1) = fm f n ++ (f n).toList := by
  unfold fm
  rw [List.range_succ, List.filterMap_append]
  congr 1
theorem fm_len {α : Type} (f : Nat → Option α) (n : Nat) : (fm f n).length ≤ n := by
  have h := List.length_filterMap_le f (List.range n)
  rw [List.length_range] at h
  exact h
structure LcInv (K : PySem.W.Frag) (V0 H0 : Hp) (D : Addr) (acc : List PyData) (H : Hp) : Prop where
  ex : ∃ V xs, Ext V0 H0 V H ∧ V D = none ∧ H D = some (.lst xs) ∧ DpAll K V xs acc
theorem LcInv.start {K : PySem.W.Frag} {V0 H0 : Hp} {D : Addr} (s : Same V0 H0) (hD : H0 D = none) : LcInv K V0 H0 D [] (upd H0 D (.lst [])) :=
  ⟨V0, [], Ext.skip s hD, s.free hD, upd_same, .nil⟩
theorem LcInv.done {K : PySem.W.Frag} {V0 H0 H : Hp} {D : Addr} {acc : List PyData} (hD : H0 D = none) (i : LcInv K V0 H0 D acc H) : ∃ U xs, Ext V0 H0 U H ∧ U D = some (.lst xs) ∧ DpAll K U xs acc ∧ Dp K U (.ref D) (.list acc) := by
  obtain ⟨V, xs, x, hv, hd, dp⟩ := i.ex
  exact ⟨_, xs, x.take hD hv hd, upd_same, dp.to (same_upd hv), .lst (SqL.of upd_same) (dp.to (same_upd hv))⟩
/-- one more item -/
theorem LcInv.push {K : PySem.W.Frag} {V0 H0 U H U' H' : Hp} {D : Addr} {acc : List PyData} {xs : List V} {y : V} {d : PyData} (hD : H0 D = none) (x : Ext V0 H0 U H) (hv : U D = none) (hd : H D = some (.lst xs)) (dp : DpAll K U xs acc)
    (x2 : Ext U H U' H') (e : Dp K U' y d) (hl : acc.length < 100000) :
    ∃ acc', H' D = some (.lst acc') ∧ acc'.length < sizeLine ∧ LcInv K V0 H0 D (acc ++ [d]) (upd H' D (.lst (acc' ++ [y]))) := by
  have hv' : U' D = none := x2.keepOut hv (by rw [hd]; exact fun z => by cases z)
  refine ⟨xs, x2.hh _ _ hd, lt_line (by rw [dpall_len dp]; exact hl), U', xs ++ [y], (x.trans x2).poke hD hv', hv', upd_same, dpall_app (dp.to x2.vv) (.cons e .nil)⟩
/-- a comprehension's reading over a walk that leaves the heap as it is: at turn i the item x, then f i: the data of what is put in, or none -/
theorem lc_dp0 {J : It} {n : Nat} {G : Hp → Prop} {Y : Nat → Hp → V → Hp → Prop} (wk : Walk J n G Y) {K : PySem.W.Frag} {V0 H0 : Hp} {D : Addr} {g : TG} {tt : TT} {te : TE} {vs : List Nat} {σ : St} {Qd : Hp → Prop} (f : Nat → Option PyData) (σ0 : St) (hσ : wipe σ vs = σ0) (s0 : Same V0 H0) (hD : H0 D = none) (hn : n < 100000)
    (hG : ∀ H, Same H0 H → G H) (hY : ∀ i H x H', Y i H x H' → H' = H)
    (hs : ∀ i x V H, i < n → Ext V0 H0 V H → Y i H x H → ∀ (Qy : VK) (Qn : Hp → Prop), (∀ d y V' H', f i = some d → Ext V H V' H' → Dp K V' y d → Qy y H') → (f i = none → ∀ V' H', Ext V H V' H' → Qn H') →
      g x σ0 H fun σ2 H2 => wipe σ2 vs = σ0 ∧ tt σ2 H2 fun b H3 => if b = true then te σ2 H3 Qy else Qn H3)
    (hd : ∀ (U H : Hp) (xs : List V), Ext V0 H0 U H → U D = none → H D = some (.lst xs) → DpAll K U xs (fm f n) → Qd H) :
    ∃ W : Nat → Nat → Hp → Prop, (∃ m, W 0 m (upd H0 D (.lst []))) ∧ ∀ i m H, W i m H →
      (J.stop i H ∧ Qd H) ∨ (J.go i H ∧ ∃ Nx : Hp → Prop, (∀ H', Nx H' → ∃ m', m' < m ∧ W (i + 1) m' H') ∧ ∀ x H', J.yld i H x H' → g x (wipe σ vs) H' fun σ2 H2 => wipe σ2 vs = wipe σ vs ∧ tt σ2 H2 fun b H3 =>
        if b = true then te σ2 H3 fun y H4 => ∃ acc, H4 D = some (.lst acc) ∧ acc.length < sizeLine ∧ Nx (upd H4 D (.lst (acc ++ [y]))) else Nx H3) := by
  subst hσ
  refine lc_it wk (fun i H => LcInv K V0 H0 D (fm f i) H) (LcInv.start s0 hD) (fun i H _ p => ?_) (fun i x H H' hi p y => ?_) (fun H p => ?_)
  · obtain ⟨V, xs, x, _⟩ := p.ex
    exact hG H x.hh
  · obtain ⟨V, xs, x0, hv, hdd, dp⟩ := p.ex
    obtain rfl := hY i H x H' y
    refine hs i x V H' hi x0 y _ _ (fun d y' V' H4 e x2 dy => ?_) (fun e V' H4 x2 => ?_)
    · have hl : (fm f i).length < 100000 := Nat.lt_of_le_of_lt (fm_len f i) (Nat.lt_trans hi hn)
      obtain ⟨acc', a1, a2, a3⟩ := LcInv.push hD x0 hv hdd dp x2 dy hl
      refine ⟨acc', a1, a2, ?_⟩
      rw [fm_succ, e]
      exact a3
    · have hv' : V' D = none := x2.keepOut hv (by rw [hdd]; exact fun z => by cases z)
      rw [fm_succ, e]
      show LcInv K V0 H0 D (fm f i ++ []) H4
      rw [List.append_nil]
      exact ⟨V', xs, x0.trans x2, hv', x2.hh _ _ hdd, dp.to x2.vv⟩
  · obtain ⟨U, xs, x, hv, hdd, dp⟩ := p.ex
    exact hd U H xs x hv hdd dp
/-- a comprehension's reading over a walk that leaves the heap as it is: at turn i the item x, then f i: the data of what is put in, or none -/
theorem lc_dp {J : It} {n : Nat} {G : Hp → Prop} {Y : Nat → Hp → V → Hp → Prop} (wk : Walk J n G Y) {K : PySem.W.Frag} {V0 H0 : Hp} {D : Addr} {g : TG} {tt : TT} {te : TE} {vs : List Nat} {σ : St} {Qd : Hp → Prop} (f : Nat → Option PyData) (σ0 : St) (hσ : wipe σ vs = σ0) (s0 : Same V0 H0) (hD : H0 D = none) (hn : n < 100000)
    (hG : ∀ H, Same H0 H → G H) (hY : ∀ i H x H', Y i H x H' → H' = H)
    (hs : ∀ i x V H, i < n → Ext V0 H0 V H → Y i H x H → ∀ (Qy : VK) (Qn : Hp → Prop), (∀ d y V' H', f i = some d → Ext V H V' H' → Dp K V' y d → Qy y H') → (f i = none → ∀ V' H', Ext V H V' H' → Qn H') →
      g x σ0 H fun σ2 H2 => wipe σ2 vs = σ0 ∧ tt σ2 H2 fun b H3 => if b = true then te σ2 H3 Qy else Qn H3)
    (hd : ∀ (U H : Hp) (xs : List V), Ext V0 H0 U H → U D = some (.lst xs) → DpAll K U xs (fm f n) → Dp K U (.ref D) (.list (fm f n)) → Qd H) :
    ∃ W : Nat → Nat → Hp → Prop, (∃ m, W 0 m (upd H0 D (.lst []))) ∧ ∀ i m H, W i m H →
      (J.stop i H ∧ Qd H) ∨ (J.go i H ∧ ∃ Nx : Hp → Prop, (∀ H', Nx H' → ∃ m', m' < m ∧ W (i + 1) m' H') ∧ ∀ x H', J.yld i H x H' → g x (wipe σ vs) H' fun σ2 H2 => wipe σ2 vs = wipe σ vs ∧ tt σ2 H2 fun b H3 =>
        if b = true then te σ2 H3 fun y H4 => ∃ acc, H4 D = some (.lst acc) ∧ acc.length < sizeLine ∧ Nx (upd H4 D (.lst (acc ++ [y]))) else Nx H3) := by
  refine lc_dp0 wk f σ0 hσ s0 hD hn hG hY hs fun U H xs x hv hdd dp => ?_
  exact hd _ H xs (x.take hD hv hdd) upd_same (dp.to (same_upd hv)) (.lst (SqL.of upd_same) (dp.to (same_upd hv)))
theorem fm_map {α β : Type} (f : α → β) : ∀ (xs : List α), fm (fun i => (xs[i]?).map f) xs.length = xs.map f := by
  intro xs
  have h : ∀ n, n ≤ xs.length → fm (fun i => (xs[i]?).map f) n = (xs.take n).map f := by
    intro n
    induction n with
    | zero => intro _; rfl
    | succ n ih =>
      intro hn
      rw [fm_succ, ih (by omega), List.getElem?_eq_getElem (by omega), List.take_succ_eq_append_getElem (by omega), List.map_append]
      rfl
  rw [h _ (Nat.le_refl _), List.take_length]

theorem lc2_outer {J : It} {n : Nat} {G : Hp → Prop} {Y : Nat → Hp → V → Hp → Prop} (wk : Walk J n G Y) {K : PySem.W.Frag} {V0 H0 : Hp} {D : Addr} {g : TG} {vs : List Nat} {σ : St} {body : St → Hp → (Hp → Prop) → Prop} {Qd : Hp → Prop} (F : Nat → List PyData) (σ0 : St) (hσ : wipe σ vs = σ0) (s0 : Same V0 H0) (hD : H0 D = none) (hF : F 0 = [])
    (hG : ∀ H, Same H0 H → G H) (hY : ∀ i H x H', Y i H x H' → H' = H)
    (hs : ∀ i x H, i < n → LcInv K V0 H0 D (F i) H → Y i H x H → ∀ Nx : Hp → Prop, (∀ H', LcInv K V0 H0 D (F (i + 1)) H' → Nx H') → g x σ0 H fun σ2 H2 => wipe σ2 vs = σ0 ∧ body σ2 H2 Nx)
    (hd : ∀ (U H : Hp) (xs : List V), Ext V0 H0 U H → U D = some (.lst xs) → DpAll K U xs (F n) → Dp K U (.ref D) (.list (F n)) → Qd H) :
    ∃ W : Nat → Nat → Hp → Prop, (∃ m, W 0 m (upd H0 D (.lst []))) ∧ ∀ i m H, W i m H →
      (J.stop i H ∧ Qd H) ∨ (J.go i H ∧ ∃ Nx : Hp → Prop, (∀ H', Nx H' → ∃ m', m' < m ∧ W (i + 1) m' H') ∧ ∀ x H', J.yld i H x H' → g x (wipe σ vs) H' fun σ2 H2 => wipe σ2 vs = wipe σ vs ∧ body σ2 H2 Nx) := by
  subst hσ
  refine ⟨fun i m H => m = n - i ∧ i ≤ n ∧ LcInv K V0 H0 D (F i) H, ⟨n, by simp, Nat.zero_le _, by rw [hF]; exact LcInv.start s0 hD⟩, ?_⟩
  rintro i m H ⟨rfl, hi, p⟩
  have sH : Same H0 H := by obtain ⟨_, _, x, _⟩ := p.ex; exact x.hh
  by_cases hlt : i < n
  · refine .inr ⟨wk.goes i H hlt (hG H sH), fun H' => LcInv K V0 H0 D (F (i + 1)) H', fun H' p' => ⟨n - (i + 1), by omega, rfl, hlt, p'⟩, fun x H' y => ?_⟩
    have y' := wk.yields i H x H' hlt (hG H sH) y
    obtain rfl := hY i H x H' y'
    exact hs i x H' hlt p y' _ fun _ h => h
  · have e : i = n := by omega
    subst e
    obtain ⟨U, xs, x, e1, e2, e3⟩ := p.done hD
    exact .inl ⟨wk.stops H (hG H sH), hd U H xs x e1 e2 e3⟩
theorem lc2_inner {J : It} {n : Nat} {G : Hp → Prop} {Y : Nat → Hp → V → Hp → Prop} (wk : Walk J n G Y) {K : PySem.W.Frag} {V0 H0 H4 : Hp} {D : Addr} {acc0 : List PyData} {g : TG} {tt : TT} {te : TE} {vs : List Nat} {σ : St} {Nx : Hp → Prop} (f : Nat → Option PyData) (σ0 : St) (hσ : wipe σ vs = σ0) (hD : H0 D = none)
    (inv : LcInv K V0 H0 D acc0 H4) (hn : acc0.length + n < 100000) (hG : ∀ H, Same H0 H → G H) (hY : ∀ i H x H', Y i H x H' → H' = H)
    (hs : ∀ i x V H, i < n → Ext V0 H0 V H → Y i H x H → ∀ (Qy : VK) (Qn : Hp → Prop), (∀ d y V' H', f i = some d → Ext V H V' H' → Dp K V' y d → Qy y H') → (f i = none → ∀ V' H', Ext V H V' H' → Qn H') →
      g x σ0 H fun σ2 H2 => wipe σ2 vs = σ0 ∧ tt σ2 H2 fun b H3 => if b = true then te σ2 H3 Qy else Qn H3)
    (hd : ∀ H, LcInv K V0 H0 D (acc0 ++ fm f n) H → Nx H) :
    ∃ W : Nat → Nat → Hp → Prop, (∃ m, W 0 m H4) ∧ ∀ i m H, W i m H →
      (J.stop i H ∧ Nx H) ∨ (J.go i H ∧ ∃ Nx1 : Hp → Prop, (∀ H', Nx1 H' → ∃ m', m' < m ∧ W (i + 1) m' H') ∧ ∀ x H', J.yld i H x H' → g x (wipe σ vs) H' fun σ2 H2 => wipe σ2 vs = wipe σ vs ∧ tt σ2 H2 fun b H3 =>
        if b = true then te σ2 H3 fun y H4 => ∃ acc, H4 D = some (.lst acc) ∧ acc.length < sizeLine ∧ Nx1 (upd H4 D (.lst (acc ++ [y]))) else Nx1 H3) := by
  subst hσ
  refine ⟨fun i m H => m = n - i ∧ i ≤ n ∧ LcInv K V0 H0 D (acc0 ++ fm f i) H, ⟨n, by simp, Nat.zero_le _, by rw [show fm f 0 = [] from rfl, List.append_nil]; exact inv⟩, ?_⟩
  rintro i m H ⟨rfl, hi, p⟩
  have sH : Same H0 H := by obtain ⟨_, _, x, _⟩ := p.ex; exact x.hh
  by_cases hlt : i < n
  · refine .inr ⟨wk.goes i H hlt (hG H sH), fun H' => LcInv K V0 H0 D (acc0 ++ fm f (i + 1)) H', fun H' p' => ⟨n - (i + 1), by omega, rfl, hlt, p'⟩, fun x H' y => ?_⟩
    have y' := wk.yields i H x H' hlt (hG H sH) y
    obtain rfl := hY i H x H' y'
    obtain ⟨V, xs, x0, hv, hdd, dp⟩ := p.ex
    refine hs i x V H' hlt x0 y' _ _ (fun d y' V' H4 e x2 dy => ?_) (fun e V' H4 x2 => ?_)
    · have hl : (acc0 ++ fm f i).length < 100000 := by have := fm_len f i; rw [List.length_append]; omega
      obtain ⟨acc', a1, a2, a3⟩ := LcInv.push hD x0 hv hdd dp x2 dy hl
      refine ⟨acc', a1, a2, ?_⟩
      rw [fm_succ, e, ← List.append_assoc]
      exact a3
    · have hv' : V' D = none := x2.keepOut hv (by rw [hdd]; exact fun z => by cases z)
      rw [fm_succ, e]
      show LcInv K V0 H0 D (acc0 ++ (fm f i ++ [])) H4
      rw [List.append_nil]
      exact ⟨V', xs, x0.trans x2, hv', x2.hh _ _ hdd, dp.to x2.vv⟩
  · have e : i = n := by omega
    subst e
    exact .inl ⟨wk.stops H (hG H sH), hd H p⟩
theorem fm_some {α : Type} (f : Nat → α) (n : Nat) : fm (fun i => some (f i)) n = (List.range n).map f := by
  induction n with
  | zero => rfl
  | succ n ih => rw [fm_succ, ih, List.range_succ, List.map_append]; rfl
theorem fl_take' {α : Type} {β : Type} (f : α → List β) : ∀ (xs : List α) (i : Nat) (x : α), xs[i]? = some x → (xs.take (i + 1)).flatMap f = (xs.take i).flatMap f ++ f x := by
  intro xs i x h
  obtain ⟨hi, e⟩ := List.getElem?_eq_some_iff.mp h
  rw [List.take_succ_eq_append_getElem hi, List.flatMap_append, e]
  show _ ++ (f x ++ []) = _
  rw [List.append_nil]
theorem fl_le' {α : Type} {β : Type} (f : α → List β) (xs : List α) (i : Nat) : ((xs.take i).flatMap f).length ≤ (xs.flatMap f).length := by
  have : xs.flatMap f = (xs.take i).flatMap f ++ (xs.drop i).flatMap f := by rw [← List.flatMap_append, List.take_append_drop]
  rw [this, List.length_append]; omega
/-! ### lists of ints, texts -/
theorem tyL {K : PySem.W.Frag} {H : Hp} {a : Addr} {xs : List V} (h : SqL K H a xs) : TyX K H (.ref a) (.type "list") := by
  rcases h with (h | ⟨o, h⟩) | ⟨o, its, n, h, c, _⟩
  · exact .base (.lst h)
  · exact .base (.frz h)
  · exact .kList h c
theorem tyT {K : PySem.W.Frag} {H : Hp} {a : Addr} {xs : List V} (h : SqT K H a xs) : TyX K H (.ref a) (.type "tuple") := by
  rcases h with (h | ⟨o, h⟩) | ⟨o, its, n, h, c, _⟩
  · exact .base (.tup h)
  · exact .fTuple h
  · exact .kTuple h c
theorem dp_intsV {K : PySem.W.Frag} {H : Hp} : ∀ {xs : List V} {is : List Int}, DpAll K H xs (is.map PyData.int) → xs = is.map V.int
  | _, [], r => by cases r; rfl
  | _, i :: is, r => by
    cases r with
    | cons r1 r2 => cases r1; rw [dp_intsV r2]; rfl
theorem dp_intsL {K : PySem.W.Frag} {H : Hp} {a : Addr} {is : List Int} (h : Dp K H (.ref a) (.list (is.map PyData.int))) : SqL K H a (is.map V.int) := by
  obtain ⟨a', xs, e, q, r⟩ := dp_list h
  cases e
  rw [← dp_intsV r]; exact q
theorem dp_strsV {K : PySem.W.Frag} {H : Hp} : ∀ {xs : List V} {is : List Str}, DpAll K H xs (is.map PyData.str) → xs = is.map V.str
  | _, [], r => by cases r; rfl
  | _, i :: is, r => by
    cases r with
    | cons r1 r2 => cases r1; rw [dp_strsV r2]; rfl
theorem dp_boolsV {K : PySem.W.Frag} {H : Hp} : ∀ {xs : List V} {is : List Bool}, DpAll K H xs (is.map PyData.bool) → xs = is.map V.bl
  | _, [], r => by cases r; rfl
  | _, i :: is, r => by
    cases r with
    | cons r1 r2 => cases r1; rw [dp_boolsV r2]; rfl
theorem dp_boolsL {K : PySem.W.Frag} {H : Hp} {a : Addr} {is : List Bool} (h : Dp K H (.ref a) (.list (is.map PyData.bool))) : SqL K H a (is.map V.bl) := by
  obtain ⟨a', xs, e, q, r⟩ := dp_list h
  cases e
  rw [← dp_boolsV r]; exact q
theorem size_eq (z : Str) : z.cps.size = z.cps.toList.length := by simp
theorem cps_at (z : Str) (i : Nat) : z.cps[i]? = z.cps.toList[i]? := by simp
theorem fm_list {α β : Type} (f : α → β) (xs : List α) (n : Nat) (h : n = xs.length) (g : Nat → Option β) (hg : ∀ i x, xs[i]? = some x → g i = some (f x)) : fm g n = xs.map f := by
  subst h
  rw [← fm_map f xs]
  unfold fm
  have : ∀ l : List Nat, (∀ i ∈ l, i < xs.length) → l.filterMap g = l.filterMap fun i => (xs[i]?).map f := by
    intro l
    induction l with
    | nil => intro _; rfl
    | cons i l ih =>
      intro hl
      have hi' := hl i List.mem_cons_self
      rw [List.filterMap_cons, List.filterMap_cons, hg i _ (List.getElem?_eq_getElem hi'), List.getElem?_eq_getElem hi', ih fun j hj => hl j (List.mem_cons_of_mem _ hj)]
      rfl
  exact this _ fun i hi => List.mem_range.mp hi
theorem rep_flat {α : Type} (v : α) : ∀ n : Nat, (List.replicate n [v]).flatten = List.replicate n v
  | 0 => rfl
  | n + 1 => by rw [List.replicate_succ, List.replicate_succ, List.flatten_cons, rep_flat v n]; rfl
/-- a list's object that is tracked, at p, new -/
structure NewL (H H' : Hp) (p : Addr) (xs : List V) : Prop where
  new : H p = none
  same : Same H H'
  at_ : H' p = some (.lst xs)
theorem NewL.ext {U H H' : Hp} {p : Addr} {xs : List V} (n : NewL H H' p xs) (s : Same U H) : Ext U H (upd U p (.lst xs)) H' :=
  ⟨same_upd (s.free n.new), fun b u e => by
    by_cases hb : b = p
    · subst hb; rw [upd_same] at e; rw [n.at_]; exact e
    · rw [upd_ne hb] at e; exact n.same _ _ (s b u e), n.same, fun a e => by
    by_cases ha : a = p
    · subst ha; exact Or.inr n.new
    · rw [upd_ne ha] at e; exact Or.inl e⟩
theorem str_app (x y : Str) : (x ++ y).cps.toList = x.cps.toList ++ y.cps.toList := Array.toList_append
theorem str_len_app (x y : Str) : (x ++ y).length = x.length + y.length := by
  show (x ++ y).cps.size = x.cps.size + y.cps.size
  rw [size_eq, str_app, List.length_append, ← size_eq, ← size_eq]
/-! ### _law_cell, _law_row -/
def lawCell (ns : List Int) (k : Nat) : Int :=
  let c := if 0 < ns.length then ns.getD (k % ns.length) 0 else 0
  if c < 0 then 1 - 2 * c else c
theorem lawCell_nn (ns : List Int) (k : Nat) : 0 ≤ lawCell ns k := by
  unfold lawCell
  simp only
  split <;> omega
def lawOne (c : Int) (k : Nat) : Int := (c * 48271 + (k : Int) * 69621 + 12345) % 2147483647
def lawTwo (o : Int) (k : Nat) : Int := (o * o + 16807 * (k : Int) + 7) % 2147483629
def lawRow (ns : List Int) (k : Nat) : Int :=
  if k < ns.length ∧ 1000000000 ≤ lawCell ns k then lawCell ns k
  else (lawTwo (lawOne (lawCell ns k) k) k * lawTwo (lawOne (lawCell ns k) k) k + lawOne (lawCell ns k) k) % 4294967291 + 4294967296 * (lawOne (lawCell ns k) k + 1)
theorem lawOne_b (c : Int) (k : Nat) : 0 ≤ lawOne c k ∧ lawOne c k < 2147483647 := by unfold lawOne; omega
theorem lawTwo_b (c : Int) (k : Nat) : 0 ≤ lawTwo c k ∧ lawTwo c k < 2147483629 := by
  unfold lawTwo
  generalize c * c + 16807 * (k : Int) + 7 = x
  omega
theorem lawRow_nn (ns : List Int) (k : Nat) : 0 ≤ lawRow ns k := by
  unfold lawRow
  have h1 := lawOne_b (lawCell ns k) k
  split
  · exact lawCell_nn ns k
  · generalize lawTwo (lawOne (lawCell ns k) k) k * lawTwo (lawOne (lawCell ns k) k) k + lawOne (lawCell ns k) k = x
    omega
def sp__law_cell (K : PySem.W.Frag) : Sp := fun vs H Q _ => ∃ (a : Addr) (ns : List Int) (k : Nat), vs = [.ref a, .int (k : Int)] ∧ SqL K H a (ns.map V.int) ∧ Q (.int (lawCell ns k)) H
theorem sc__law_cell : FnScope ["script", "k", "cell"] ["script", "k"] (defScope s__law_cell) := ⟨rfl, rfl, rfl, by decide +kernel, rfl, by decide +kernel, by decide +kernel⟩
theorem ok__law_cell (T : Txt K mg A) : FnOk P w K mg base CX0 1 A.f_law_cell A.d_law_cell ["script", "k"] (sp__law_cell K) := by
  refine T.F_law_cell.ok sc__law_cell (fun vs H Q E h => ?_) (fun cdv Ar outer s H vs Q E hr h => ?_)
  · obtain ⟨a, ns, k, rfl, _⟩ := h
    rfl
  · obtain ⟨a, ns, k, rfl, hS, q⟩ := h
    refine ⟨_, (pss_cons (ps_set (i := 2) sc__law_cell.nd rfl (Or.inl rfl) pe_int)
      (pss_cons (ps_if (pt_cmpR op_gt (pe_callB call_len_seq (by rfl) T.len PySem.boot_len (pa_cons (pv 0) pa_nil)) pe_int (nomark _))
      (pss_one (ps_set (i := 2) sc__law_cell.nd rfl (Or.inl rfl) (pe_ix ix_list (pv 0) (pe_op op_mod (pe_callTy call_int1 (by rfl) T.int (by decide +kernel) (pa_cons (pv 1) pa_nil)) (pe_callB call_len_seq (by rfl) T.len PySem.boot_len (pa_cons (pv 0) pa_nil))) (fun _ _ => rfl))))
      pss_nil)
      (pss_cons (ps_if (pt_cmpR op_lt (pv 2) pe_int (nomark _))
      (pss_one (ps_set (i := 2) sc__law_cell.nd rfl (Or.inl rfl) (pe_op op_sub pe_int (pe_op op_mul pe_int (pv 2)))))
      pss_nil)
      (pss_one (ps_ret (pv 2)))))), ?_⟩
    have two : ∀ (c : Int), (if c < 0 then 1 - 2 * c else c) = lawCell ns k → tSeq (tIfS (tTest (tOp (rI0 fun i j => .bl (decide (i < j))) (tVar 2) (tC (.int 0)))) (tAsg (tOp (rI0 fun i j => .int (i - j)) (tC (.int 1)) (tOp (rI CMul fun i j => .int (i * j)) (tC (.int 2)) (tVar 2))) (gName 2)) tNext) (tRet (tVar 2))
        { nx := fun _ H' => Q .non H', rt := Q } [some (.ref a), some (.int (k : Int)), some (.int c)] H := by
      intro c hc
      walk_at "rd"
      refine iteP (fun h => ?_) (fun h => ?_)
      · rw [if_pos h] at hc
        walk_at "rd"
        rw [← hc] at q; exact q
      · rw [if_neg h] at hc
        walk_at "rd"
        rw [← hc] at q; exact q
    refine ⟨.ref a, rfl, a, _, rfl, .inl hS, _, _, rfl, rfl, _, rfl, iteP (fun h => ?_) (fun h => ?_)⟩
    · have h0 : 0 < ns.length := by rw [List.length_map] at h; omega
      refine ⟨_, rfl, _, rfl, Or.inl ⟨_, rfl, ?_⟩⟩
      refine ⟨_, rfl, a, _, rfl, .inl hS, _, _, rfl, rfl, by show (0 : Int) < _; omega, a, _, _, .int (ns.getD (k % ns.length) 0), rfl, rfl, hS, ?_, ?_⟩
      · refine at_of (j := k % ns.length) ?_ ?_
        · rw [List.length_map]; exact (Int.natCast_emod _ _).symm
        · rw [List.getElem?_map, List.getElem?_eq_getElem (Nat.mod_lt _ h0), List.getD_eq_getElem?_getD, List.getElem?_eq_getElem (Nat.mod_lt _ h0)]; rfl
      · refine two _ ?_
        unfold lawCell; rw [if_pos h0]
    · have h0 : ¬ 0 < ns.length := by rw [List.length_map] at h; omega
      refine two _ ?_
      unfold lawCell; rw [if_neg h0]
def sp__law_row (K : PySem.W.Frag) : Sp := fun vs H Q _ => ∃ (a : Addr) (ns : List Int) (k : Nat), vs = [.ref a, .int (k : Int)] ∧ SqL K H a (ns.map V.int) ∧ Q (.int (lawRow ns k)) H
theorem sc__law_row : FnScope ["script", "k", "cell", "one", "two"] ["script", "k"] (defScope s__law_row) := ⟨rfl, rfl, rfl, by decide +kernel, rfl, by decide +kernel, by decide +kernel⟩
theorem ok__law_row (T : Txt K mg A) : FnOk P w K mg base CX0 2 A.f_law_row A.d_law_row ["script", "k"] (sp__law_row K) := by
  refine T.F_law_row.ok sc__law_row (fun vs H Q E h => ?_) (fun cdv Ar outer s H vs Q E hr h => ?_)
  · obtain ⟨a, ns, k, rfl, _⟩ := h
    rfl
  · obtain ⟨a, ns, k, rfl, hS, q⟩ := h
    refine ⟨_, (pss_cons (ps_set (i := 2) sc__law_row.nd rfl (Or.inl rfl) (pe_call (ok__law_cell T) (hr.mono (by decide)) rfl T.g_law_cell T.k_law_cell T.b_law_cell .nil pass0 (pa_cons (pv 0) (pa_cons (pv 1) pa_nil))))
      (pss_cons (ps_if (PW.pt (pw_and (pt_cmpR op_lt (pv 1) (pe_callB call_len_seq (by rfl) T.len PySem.boot_len (pa_cons (pv 0) pa_nil)) (nomark _)) (pw_and1 (pt_cmpR op_ge (pv 2) pe_int (nomark _)))))
      (pss_one (ps_ret (pv 2)))
      pss_nil)
      (pss_cons (ps_set (i := 3) sc__law_row.nd rfl (Or.inl rfl) (pe_op op_mod (pe_callTy call_int1 (by rfl) T.int (by decide +kernel) (pa_cons (pe_op op_add (pe_op op_add (pe_op op_mul (pv 2) pe_int) (pe_op op_mul (pv 1) pe_int)) pe_int) pa_nil)) pe_int))
      (pss_cons (ps_set (i := 4) sc__law_row.nd rfl (Or.inl rfl) (pe_op op_mod (pe_callTy call_int1 (by rfl) T.int (by decide +kernel) (pa_cons (pe_op op_add (pe_op op_add (pe_op op_mul (pv 3) (pv 3)) (pe_op op_mul pe_int (pv 1))) pe_int) pa_nil)) pe_int))
      (pss_one (ps_ret (pe_op op_add (pe_op op_mod (pe_callTy call_int1 (by rfl) T.int (by decide +kernel) (pa_cons (pe_op op_add (pe_op op_mul (pv 4) (pv 4)) (pv 3)) pa_nil)) pe_int) (pe_op op_mul pe_int (pe_op op_add (pv 3) pe_int))))))))), ?_⟩
    have b1 := lawOne_b (lawCell ns k) k
    have b2 := lawTwo_b (lawOne (lawCell ns k) k) k
    have m1 : CMul (lawOne (lawCell ns k) k) (lawOne (lawCell ns k) k) := Or.inl ⟨by omega, by omega⟩
    have m2 : CMul (lawTwo (lawOne (lawCell ns k) k) k) (lawTwo (lawOne (lawCell ns k) k) k) := Or.inl ⟨by omega, by omega⟩
    refine ⟨_, rfl, _, rfl, a, ns, k, rfl, hS, ?_⟩
    refine ⟨_, rfl, _, rfl, a, _, rfl, .inl hS, _, _, rfl, rfl, _, rfl, ?_⟩
    refine iteP (fun h => ?_) (fun h => ?_)
    · refine ⟨_, rfl, _, _, rfl, rfl, _, rfl, iteP (fun h2 => ?_) (fun h2 => ?_)⟩
      · have e : lawRow ns k = lawCell ns k := by unfold lawRow; rw [if_pos ⟨by rw [List.length_map] at h; omega, h2⟩]
        rw [e] at q
        exact ⟨_, rfl, q⟩
      · unfold lawRow at q
        rw [if_neg fun z => h2 z.2] at q
        walk_at "rd"
        refine ⟨m1, ?_⟩
        walk_at "rd"
        refine ⟨m2, ?_⟩
        walk_at "rd"
        exact q
    · unfold lawRow at q
      rw [if_neg fun z => h (by rw [List.length_map]; omega)] at q
      walk_at "rd"
      refine ⟨m1, ?_⟩
      walk_at "rd"
      refine ⟨m2, ?_⟩
      walk_at "rd"
      exact q
/-! ### a word that goes on by itself -/
theorem iteVP {p A B : Prop} [Decidable p] (h1 : p → A) (h2 : ¬ p → B) : if p then A else B := by
  by_cases h : p
  · rw [if_pos h]; exact h1 h
  · rw [if_neg h]; exact h2 h
/-- a new tuple is handed back -/
def RetT (H : Hp) (Q : VK) (xs : List V) : Prop := ∀ p H', Same H H' → H' p = some (.tup xs) → Q (.ref p) H'
theorem RetT.go {H : Hp} {Q : VK} {xs : List V} (h : ∀ p H', Same H H' → H' p = some (.tup xs) → Q (.ref p) H') : RetT H Q xs := h
theorem ne_self {d e : PyData} {A B : Prop} (hs : SeqAt.shaped d = true) (h : d = e) (hB : B) : if (!PyData.eqv d e) = true then A else B := by
  subst h
  have h2 : (d.canLay0 && decide (d.depth ≤ 64)) = true := hs
  have : PyData.eqv d d = true := SeqAt.eqv_refl d (by rw [Bool.and_eq_true] at h2; exact h2.1)
  rw [this]
  exact iteF hB
theorem eq_self {d e : PyData} {A B : Prop} (hs : SeqAt.shaped d = true) (h : d = e) (hA : A) : if PyData.eqv d e = true then A else B := by
  subst h
  have h2 : (d.canLay0 && decide (d.depth ≤ 64)) = true := hs
  have : PyData.eqv d d = true := SeqAt.eqv_refl d (by rw [Bool.and_eq_true] at h2; exact h2.1)
  rw [this]
  exact iteT hA
theorem t_ne {K : PySem.W.Frag} {x y : V} {H : Hp} {Q : VK} {d e : PyData} (h1 : Dp K H x d) (h2 : Dp K H y e) (s1 : SeqAt.shaped d = true) (s2 : SeqAt.shaped e = true) (q : Q (.bl (!PyData.eqv d e)) H) : rNeD K x y H Q := ⟨d, e, h1, h2, s1, s2, q⟩
theorem t_eq {K : PySem.W.Frag} {x y : V} {H : Hp} {Q : VK} {d e : PyData} (h1 : Dp K H x d) (h2 : Dp K H y e) (s1 : SeqAt.shaped d = true) (s2 : SeqAt.shaped e = true) (q : Q (.bl (PyData.eqv d e)) H) : rEqD K x y H Q := ⟨d, e, h1, h2, s1, s2, q⟩
/-! words that go on by themselves -/
local macro_rules | `(tactic| walk_at "sq") => `(tactic| first
  | exact SqT.of upd_same
  | exact SqL.of upd_same
  | assumption
  | exact SqT.of (by assumption)
  | exact SqL.of (by assumption)
  | (apply Same.sqt (same_upd (by assumption)); walk_at "sq")
  | (apply Same.seq (same_upd (by assumption)); walk_at "sq")
  | (apply Same.sqt (by assumption); walk_at "sq")
  | (apply Same.seq (by assumption); walk_at "sq"))
local macro_rules | `(tactic| walk_at "sm") => `(tactic| first
  | exact Same.refl _
  | assumption
  | (apply Same.trans _ (same_upd (by assumption)); walk_at "sm")
  | (apply Same.trans _ (by assumption); walk_at "sm"))
local macro_rules | `(tactic| walk_at "at") => `(tactic| first
  | exact atI_nat (j := 0) rfl
  | exact atI_nat (j := 1) rfl
  | exact atI_nat (j := 2) rfl
  | exact atI_nat (j := 3) rfl
  | exact atI_nat (j := 4) rfl
  | exact atI_nat (j := 5) rfl)
local macro_rules | `(tactic| walk_at "go1") => `(tactic| first
  | refine ⟨_, rfl, ?_⟩
  | refine ⟨_, _, rfl, rfl, ?_⟩
  | refine ⟨rfl, ?_⟩
  | refine Or.inl ⟨_, rfl, ?_⟩
  | refine ⟨(by show (0 : Int) < _; decide), ?_⟩
  | refine ⟨(⟨by decide, by decide⟩ : CDiv _ _), ?_⟩
  | refine ⟨(Or.inl ⟨by decide, by decide⟩ : CMul _ _), ?_⟩
  | refine ⟨(Or.inr ⟨by decide, by decide⟩ : CMul _ _), ?_⟩
  | refine ⟨_, _, rfl, ?_⟩
  | refine ⟨_, _, _, rfl, ?_⟩
  | refine ⟨_, _, _, _, rfl, ?_⟩
  | (refine And.intro (a := (0 : Int) ≤ _) ?_ ?_; focus omega)
  | (refine And.intro (a := _ ≤ sizeLine) ?_ (fun p hp => ?_); (focus (exact len_line (Nat.le_of_ble_eq_true rfl))))
  | refine RetT.go (fun p H' s e => ?_)
  | refine if_t rfl ?_
  | refine if_f rfl ?_
  | refine ⟨_, _, rfl, (by walk_at "sq"), rfl, ?_⟩
  | refine ⟨_, _, rfl, Or.inl (by walk_at "sq"), ?_⟩
  | refine ⟨_, _, rfl, Or.inr (by walk_at "sq"), ?_⟩
  | refine ⟨_, _, _, _, rfl, rfl, (by walk_at "sq"), (by walk_at "at"), ?_⟩
  | refine ⟨_, _, rfl, (by walk_at "sq"), (by show ¬(HT.sIx 4 0 (some 2) = 0 ∧ HT.sIx 4 4 none = 4); decide), fun p hp => ?_⟩
  | refine ⟨_, _, _, _, rfl, rfl, (by walk_at "sq"), (by walk_at "sq"), (by intro h; cases h), len_line (Nat.le_of_ble_eq_true rfl), (fun h => by cases h), fun _ p hp => ?_⟩)
local macro_rules | `(tactic| walk_at "go") => `(tactic| repeat walk_at "go1")
local macro_rules | `(tactic| walk_at "dps") => `(tactic| first
  | exact DpAll.nil
  | (apply DpAll.cons; (focus (walk_at "dp")); (focus (walk_at "dps"))))
local macro_rules | `(tactic| walk_at "dp") => `(tactic| first
  | exact Dp.int _
  | exact Dp.bl _
  | exact Dp.str _
  | exact Dp.non
  | (apply Dp.tup; (focus (walk_at "sq")); (focus (walk_at "dps")))
  | (apply Dp.lst; (focus (walk_at "sq")); (focus (walk_at "dps"))))
local macro_rules | `(tactic| walk_at "sh") => `(tactic| (show (PyData.canLay0 _ && decide (PyData.depth _ ≤ 64)) = true; simp [PyData.canLay0, PyData.canLayAll0, PyData.depth, PyData.depthAll]))
/-- a deep comparison: what is left is the if -/
local macro_rules | `(tactic| walk_at "ne") => `(tactic| (apply t_ne; (focus (walk_at "dp")); (focus (walk_at "dp")); (focus (walk_at "sh")); (focus (walk_at "sh")); refine ⟨_, rfl, ?_⟩))
local macro_rules | `(tactic| walk_at "neS") => `(tactic| (walk_at "ne"; refine ne_self ?_ ?_ ?_; (focus (walk_at "sh"))))
/-! ### more words -/
local macro_rules | `(tactic| walk_at "go2") => `(tactic| first
  | walk_at "go1"
  | refine ⟨(⟨by omega, by omega⟩ : CDiv _ _), ?_⟩
  | refine ⟨(Or.inl ⟨by omega, by omega⟩ : CMul _ _), ?_⟩
  | refine ⟨(Or.inr ⟨by omega, by omega⟩ : CMul _ _), ?_⟩
  | refine ⟨(by show (0 : Int) < _; omega), ?_⟩)
local macro_rules | `(tactic| walk_at "gx") => `(tactic| repeat walk_at "go2")
/-! ### is_integer, number_octets -/
def sp_is_integer (K : PySem.W.Frag) : Sp := fun vs H Q _ => ∃ (i lo hi : Int), vs = [.int i, .int lo, .int hi] ∧ Q (.bl (decide (lo ≤ i ∧ i ≤ hi))) H
theorem sc_is_integer : FnScope ["value", "least", "greatest"] ["value", "least", "greatest"] (defScope s_is_integer) := ⟨rfl, rfl, rfl, by decide +kernel, rfl, by decide +kernel, by decide +kernel⟩
theorem ok_is_integer (T : Txt K mg A) : FnOk P w K mg base CX0 1 A.fis_integer A.dis_integer ["value", "least", "greatest"] (sp_is_integer K) := by
  refine T.Fis_integer.ok sc_is_integer (fun vs H Q E h => ?_) (fun cdv Ar outer s H vs Q E hr h => ?_)
  · obtain ⟨i, lo, hi, rfl, _⟩ := h
    rfl
  · obtain ⟨i, lo, hi, rfl, q⟩ := h
    refine ⟨_, (pss_one (ps_ret (pe_and (pe_callB call_isi (by rfl) T.isinstance (by decide +kernel) (pa_cons (pv 0) (pa_cons (pe_bltn (v := .ty "int") (by rfl) T.int (by decide +kernel) rfl) pa_nil))) (pe_and (pe_not (pe_callB call_isi (by rfl) T.isinstance (by decide +kernel) (pa_cons (pv 0) (pa_cons (pe_bltn (v := .ty "bool") (by rfl) T.bool (by decide +kernel) rfl) pa_nil)))) (pe_one (pe_chain op_le op_le (pv 1) (pv 0) (pv 2))))))), ?_⟩
    refine ⟨_, rfl, .int i, .ty "int", .type "int", .type "int", true, rfl, .ty _, .base (.int _), kit_ty (by decide +kernel), _, rfl, iteT ?_⟩
    refine ⟨_, rfl, .int i, .ty "bool", .type "int", .type "bool", false, rfl, .ty _, .base (.int _), kit_ty (by decide +kernel), _, rfl, _, rfl, iteT ?_⟩
    refine ⟨_, rfl, _, rfl, _, _, rfl, rfl, _, rfl, iteP (fun h => ?_) (fun h => ?_)⟩
    · refine ⟨_, rfl, _, _, rfl, rfl, ?_⟩
      have e : decide (lo ≤ i ∧ i ≤ hi) = decide (i ≤ hi) := by
        by_cases c : i ≤ hi
        · rw [decide_eq_true c, decide_eq_true ⟨h, c⟩]
        · rw [decide_eq_false c, decide_eq_false fun z => c z.2]
      rw [e] at q
      exact q
    · rw [decide_eq_false fun z => h z.1] at q
      exact q
def octs (n : Int) (c : Nat) : List Int := (List.range c).map fun k => n / 2 ^ (8 * k) % 256
theorem octs_len (n : Int) (c : Nat) : (octs n c).length = c := by unfold octs; rw [List.length_map, List.length_range]
theorem octs_succ (n : Int) (c : Nat) : octs n (c + 1) = octs n c ++ [n / 2 ^ (8 * c) % 256] := by
  unfold octs; rw [List.range_succ, List.map_append]; rfl
theorem and255 {x : Int} (h : 0 ≤ x) : Builtin.bitAnd x 255 = x % 256 := Bits.bitAnd_mask 8 h
/-- number_octets(n, c), n not negative, c small: a new list -/
def sp_number_octets (K : PySem.W.Frag) : Sp := fun vs H Q _ => ∃ (n : Int) (c : Nat), vs = [.int n, .int (c : Int)] ∧ 0 ≤ n ∧ c ≤ 1000 ∧
  ∀ p H', H p = none → Same H H' → H' p = some (.lst ((octs n c).map V.int)) → Q (.ref p) H'
theorem sc_number_octets : FnScope ["number", "count", "place"] ["number", "count"] (defScope s_number_octets) := ⟨rfl, rfl, rfl, by decide +kernel, rfl, by decide +kernel, by decide +kernel⟩
theorem ok_number_octets (T : Txt K mg A) : FnOk P w K mg base CX0 1 A.fnumber_octets A.dnumber_octets ["number", "count"] (sp_number_octets K) := by
  refine T.Fnumber_octets.ok sc_number_octets (fun vs H Q E h => ?_) (fun cdv Ar outer s H vs Q E hr h => ?_)
  · obtain ⟨n, c, rfl, _⟩ := h
    rfl
  · obtain ⟨n, c, rfl, hn, hc, q⟩ := h
    refine ⟨_, (pss_one (ps_ret (pe_lc (own := [("place", 2)]) (g := gName 2) (tt := tYes) rfl sc_number_octets.nd (pi_range1 (by rfl) T.range (pa_cons (pv 1) pa_nil)) (blkOk_by (own := [("place", 2)]) (N := ["number", "count", "place"]) (sc := defScope s_number_octets) (by decide +kernel)) (fun _ _ _ _ _ => (pg_name (i := 2) sc_number_octets.nd rfl (Or.inl rfl))) (fun _ _ _ _ _ => pts_nil) (fun _ _ _ _ _ => (pe_op op_and (pe_op op_shr (pv 0) (pe_op op_mul pe_int (pv 2))) pe_int))))), ?_⟩
    refine ⟨_, rfl, (c : Int), rfl, by omega, by omega, fun D hD => ?_⟩
    refine lc_range (lo := 0) (n := ((c : Int)).toNat) (fun i H' => Same H H' ∧ H' D = some (.lst ((octs n i).map V.int))) ⟨same_upd hD, upd_same⟩ ?_ ?_
    · rintro i H1 hi ⟨hs, he⟩
      refine ⟨rfl, _, rfl, _, rfl, _, _, rfl, rfl, Or.inl ⟨by decide, by decide⟩, _, _, rfl, rfl, by show (0 : Int) ≤ _; omega, _, _, rfl, rfl, _, he, ?_, ?_, ?_⟩
      · rw [List.length_map, octs_len]; exact lt_line (by omega)
      · intro b o e
        rw [upd_ne (fun z => by rw [z, hD] at e; cases e)]
        exact hs b o e
      · rw [upd_same, octs_succ, List.map_append]
        have e1 : (8 * (0 + (i : Int))).toNat = 8 * i := by omega
        have e2 : Builtin.bitAnd (n / 2 ^ (8 * (0 + (i : Int))).toNat) 255 = n / 2 ^ (8 * i) % 256 := by
          rw [e1, and255 (Int.ediv_nonneg hn (Int.le_of_lt (Int.pow_pos (by decide))))]
        dsimp only
        rw [e2]
        rfl
    · rintro H1 ⟨hs, he⟩
      rw [show ((c : Int)).toNat = c by omega] at he
      exact q D H1 hD hs he
/-! ### is_text, _padded, _text_octets -/
def codeOk (c : Int) : Bool := decide (32 ≤ c ∧ c ≤ 126 ∧ c ≠ 37)
def isText (s : Str) : Bool := decide ((s.length : Int) ≤ 1000) && s.cps.toList.all (fun c : Nat => codeOk (c : Int))
def codesOf (s : Str) : List Int := s.cps.toList.map fun c : Nat => (c : Int)
def padN (n : Nat) : Nat := (-(n : Int) % 4).toNat
def pad (xs : List Int) : List Int := xs ++ List.replicate (padN xs.length) 0
theorem padN_lt (n : Nat) : padN n < 4 := by unfold padN; omega
theorem pad_len (xs : List Int) : (pad xs).length = xs.length + padN xs.length := by unfold pad; rw [List.length_append, List.length_replicate]
def textOcts (s : Str) : List Int := pad (octs (s.length + 1 : Int) 4 ++ codesOf s ++ [0])
theorem codesOf_len (z : Str) : (codesOf z).length = z.length := by unfold codesOf; rw [List.length_map]; exact (size_eq z).symm
theorem textOcts_len (z : Str) : (textOcts z).length ≤ z.length + 8 := by
  unfold textOcts
  rw [pad_len, List.length_append, List.length_append, octs_len, codesOf_len]
  have := padN_lt (4 + z.length + [(0 : Int)].length)
  show 4 + z.length + 1 + padN (4 + z.length + 1) ≤ _
  have h : padN (4 + z.length + 1) < 4 := padN_lt _
  omega
def sp__is_code (K : PySem.W.Frag) : Sp := fun vs H Q _ => ∃ (c : Int), vs = [.int c] ∧ Q (.bl (codeOk c)) H
theorem sc__is_code : FnScope ["code"] ["code"] (defScope s__is_code) := ⟨rfl, rfl, rfl, by decide +kernel, rfl, by decide +kernel, by decide +kernel⟩
theorem ok__is_code (T : Txt K mg A) : FnOk P w K mg base CX0 1 A.f_is_code A.d_is_code ["code"] (sp__is_code K) := by
  refine T.F_is_code.ok sc__is_code (fun vs H Q E h => ?_) (fun cdv Ar outer s H vs Q E hr h => ?_)
  · obtain ⟨c, rfl, _⟩ := h
    rfl
  · obtain ⟨c, rfl, q⟩ := h
    refine ⟨_, (pss_one (ps_ret (pe_and (pe_chain op_le op_le (pe_glob (v := .int (32)) rfl T.g_FIRST_CODE ⟨_, rfl⟩) (pv 0) (pe_glob (v := .int (126)) rfl T.g_LAST_CODE ⟨_, rfl⟩)) (pe_one (pe_cmpR op_ne (pv 0) (pe_glob (v := .int (37)) rfl T.g_PERCENT_CODE ⟨_, rfl⟩) (nomark _)))))), ?_⟩
    unfold codeOk at q
    refine ⟨_, rfl, _, _, rfl, rfl, _, rfl, iteP (fun h1 => ?_) (fun h1 => ?_)⟩
    · refine ⟨_, _, rfl, rfl, ?_⟩
      by_cases h2 : c ≤ 126
      · refine ⟨_, rfl, if_t (decide_eq_true h2) ⟨_, rfl, rfl, ?_⟩⟩
        by_cases h3 : c = 37
        · rw [decide_eq_false fun z => z.2.2 h3] at q
          rw [decide_eq_true (by rw [h3])]; exact q
        · rw [decide_eq_true ⟨h1, h2, h3⟩] at q
          rw [decide_eq_false fun z => h3 (V.int.inj z)]; exact q
      · refine ⟨_, rfl, if_f (decide_eq_false h2) ?_⟩
        rw [decide_eq_false fun z => h2 z.2.1] at q
        exact q
    · refine ⟨_, rfl, if_f rfl ?_⟩
      rw [decide_eq_false fun z => h1 z.1] at q; exact q
def sp_is_text (K : PySem.W.Frag) : Sp := fun vs H Q _ => ∃ (s : Str), vs = [.str s] ∧ s.length < 100000 ∧ ∀ H', Same H H' → Q (.bl (isText s)) H'
theorem sc_is_text : FnScope ["value", "character"] ["value"] (defScope s_is_text) := ⟨rfl, rfl, rfl, by decide +kernel, rfl, by decide +kernel, by decide +kernel⟩
theorem ok_is_text (T : Txt K mg A) : FnOk P w K mg base CX0 2 A.fis_text A.dis_text ["value"] (sp_is_text K) := by
  refine T.Fis_text.ok sc_is_text (fun vs H Q E h => ?_) (fun cdv Ar outer s H vs Q E hr h => ?_)
  · obtain ⟨c, rfl, _⟩ := h
    rfl
  · obtain ⟨z, rfl, hl, q⟩ := h
    refine ⟨_, (pss_one (ps_ret (pe_and (pe_cmpR op_le (pe_callB call_len_str (by rfl) T.len PySem.boot_len (pa_cons (pv 0) pa_nil)) (pe_glob (v := .int (1000)) rfl T.gLONGEST_TEXT ⟨_, rfl⟩) (nomark _)) (pe_one (pe_callB (cr_all rfl) (by rfl) T.all (by decide +kernel) (pa_cons (pe_lc (own := [("character", 1)]) (g := (gName 1)) (tt := tYes) rfl sc_is_text.nd (pi_str (pv 0)) (blkOk_by (own := [("character", 1)]) (N := ["value", "character"]) (sc := defScope s_is_text) (by decide +kernel)) (fun _ _ _ _ _ => (pg_name (i := 1) sc_is_text.nd rfl (Or.inl rfl))) (fun _ _ _ _ _ => pts_nil) (fun _ _ _ _ _ => by exact (pe_call (ok__is_code T) (hr.mono (by decide)) rfl T.g_is_code T.k_is_code T.b_is_code .nil pass0 (pa_cons (pe_callB call_ord (by rfl) T.ord (by decide +kernel) (pa_cons (pv 1) pa_nil)) pa_nil)))) pa_nil)))))), ?_⟩
    refine ⟨_, rfl, z, rfl, len_line (Nat.le_of_lt hl), _, _, rfl, rfl, _, rfl, iteP (fun h1 => ?_) (fun h1 => ?_)⟩
    · refine ⟨_, rfl, z, rfl, fun D hD => ?_⟩
      refine lc_dp (walk_str (z := z)) (K := K) (V0 := H) (H0 := H) (fun i => (z.cps[i]?).map fun c : Nat => PyData.bool (codeOk (c : Int))) [some (.str z), none] rfl (Same.refl _) hD (by show z.length < 100000; exact hl) (fun _ _ => trivial) (fun i x H H' y => y.1) ?_ ?_
      · rintro i x U H1 hi xx ⟨_, c, hc, rfl⟩ Qy Qn hy _
        refine ⟨rfl, _, rfl, _, rfl, rfl, _, rfl, ?_⟩
        exact hy _ _ _ _ (by rw [hc]; rfl) (Ext.refl xx.vh) (.bl _)
      · rintro U H1 _ xx _ _ dl
        rw [size_eq, show fm (fun i => (z.cps[i]?).map fun c : Nat => PyData.bool (codeOk (c : Int))) z.cps.toList.length = (z.cps.toList.map fun c : Nat => codeOk (c : Int)).map PyData.bool from by
          rw [List.map_map]; exact fm_list _ _ _ rfl _ fun i x hx => by rw [cps_at, hx]; rfl] at dl
        refine ⟨D, _, rfl, xx.vh.seq (dp_boolsL dl), ?_⟩
        have := q _ xx.hh
        unfold isText at this
        rw [decide_eq_true h1, Bool.true_and] at this
        rw [List.all_map]; exact this
    · have := q H (Same.refl H)
      unfold isText at this
      rw [decide_eq_false h1] at this
      exact this
/-- _padded(a list): a new list -/
def sp__padded (K : PySem.W.Frag) : Sp := fun vs H Q _ => ∃ (a : Addr) (xs : List Int), vs = [.ref a] ∧ H a = some (.lst (xs.map V.int)) ∧ xs.length < 90000 ∧ ∀ p H', NewL H H' p ((pad xs).map V.int) → Q (.ref p) H'
theorem sc__padded : FnScope ["octets"] ["octets"] (defScope s__padded) := ⟨rfl, rfl, rfl, by decide +kernel, rfl, by decide +kernel, by decide +kernel⟩
theorem ok__padded (T : Txt K mg A) : FnOk P w K mg base CX0 1 A.f_padded A.d_padded ["octets"] (sp__padded K) := by
  refine T.F_padded.ok sc__padded (fun vs H Q E h => ?_) (fun cdv Ar outer s H vs Q E hr h => ?_)
  · obtain ⟨a, xs, rfl, _⟩ := h
    rfl
  · obtain ⟨a, xs, rfl, ha, hl, q⟩ := h
    refine ⟨_, (pss_one (ps_ret (pe_op op_cat (pv 0) (pe_op op_rep (pe_lst (pa_cons pe_int pa_nil)) (pe_op op_mod (pe_un un_neg (pe_callB call_len_seq (by rfl) T.len PySem.boot_len (pa_cons (pv 0) pa_nil))) pe_int))))), ?_⟩
    refine ⟨_, rfl, by decide, fun p1 n1 => ?_⟩
    have ha1 : (upd H p1 (.lst [.int 0])) a = some (.lst (xs.map V.int)) := by rw [upd_ne (ne_of_none ha n1)]; exact ha
    have e1 : -((xs.map V.int).length : Int) % 4 = (padN xs.length : Int) := by rw [List.length_map]; unfold padN; omega
    have pl := padN_lt xs.length
    refine ⟨_, rfl, a, _, rfl, .inl (SqL.of ha1), _, rfl, _, _, rfl, rfl, by show (0 : Int) < 4; decide, p1, _, _, rfl, rfl, upd_same, ?_, ?_, ?_, fun p2 n2 => ?_⟩
    · omega
    · omega
    · exact len_line (by show 1 * _ ≤ _; omega)
    refine ⟨a, p2, _, _, rfl, rfl, by rw [upd_ne (ne_of_none ha1 n2)]; exact ha1, upd_same, ?_, fun p3 n3 => ?_⟩
    · rw [e1]
      exact len_line (by rw [rep_flat, List.length_map, List.length_replicate]; omega)
    refine q p3 _ ⟨?_, ?_, ?_⟩
    · exact (same_upd n1).free ((same_upd n2).free n3)
    · exact ((same_upd n1).trans (same_upd n2)).trans (same_upd n3)
    · rw [upd_same, e1]
      unfold pad
      rw [List.map_append, show ((padN xs.length : Nat) : Int).toNat = padN xs.length by omega]
      rw [rep_flat, List.map_replicate]
def sp__text_octets (K : PySem.W.Frag) : Sp := fun vs H Q _ => ∃ (s : Str), vs = [.str s] ∧ s.length < 80000 ∧ ∀ p H', NewL H H' p ((textOcts s).map V.int) → Q (.ref p) H'
theorem sc__text_octets : FnScope ["text", "codes", "character"] ["text"] (defScope s__text_octets) := ⟨rfl, rfl, rfl, by decide +kernel, rfl, by decide +kernel, by decide +kernel⟩
theorem ok__text_octets (T : Txt K mg A) : FnOk P w K mg base CX0 2 A.f_text_octets A.d_text_octets ["text"] (sp__text_octets K) := by
  refine T.F_text_octets.ok sc__text_octets (fun vs H Q E h => ?_) (fun cdv Ar outer s H vs Q E hr h => ?_)
  · obtain ⟨z, rfl, _⟩ := h
    rfl
  · obtain ⟨z, rfl, hl, q⟩ := h
    refine ⟨_, (pss_cons (ps_setLc (i := 1) (own := [("character", 2)]) (g := (gName 2)) (tt := tYes) rfl sc__text_octets.nd rfl rfl (sw_true rfl rfl rfl (by decide +kernel)) (pi_str (pv 0)) (blkOk_by (own := [("character", 2)]) (N := ["text", "codes", "character"]) (sc := defScope s__text_octets) (by decide +kernel)) (fun _ _ _ _ _ => (pg_name (i := 2) sc__text_octets.nd rfl (Or.inl rfl))) (fun _ _ _ _ _ => pts_nil) (fun _ _ _ _ _ => by exact (pe_callB call_ord (by rfl) T.ord (by decide +kernel) (pa_cons (pv 2) pa_nil))))
      (pss_one (ps_ret (pe_call (ok__padded T) (hr.mono (by decide)) rfl T.g_padded T.k_padded T.b_padded .nil pass0 (pa_cons (pe_op op_cat (pe_op op_cat (pe_call (ok_number_octets T) (hr.mono (by decide)) rfl T.gnumber_octets T.knumber_octets T.bnumber_octets .nil pass0 (pa_cons (pe_op op_add (pe_callB call_len_seq (by rfl) T.len PySem.boot_len (pa_cons (pv 1) pa_nil)) pe_int) (pa_cons pe_int pa_nil))) (pv 1)) (pe_lst (pa_cons pe_int pa_nil))) pa_nil))))), ?_⟩
    refine ⟨_, rfl, z, rfl, fun D hD => ?_⟩
    refine lc_dp (walk_str (z := z)) (K := K) (V0 := H) (H0 := H) (fun i => (z.cps[i]?).map fun c : Nat => PyData.int (c : Int)) [some (.str z), none, none] rfl (Same.refl _) hD (by show z.length < 100000; omega) (fun _ _ => trivial) (fun i x H H' y => y.1) ?_ ?_
    · rintro i x U H1 hi xx ⟨_, c, hc, rfl⟩ Qy Qn hy _
      refine ⟨rfl, _, rfl, _, rfl, rfl, ?_⟩
      exact hy _ _ _ _ (by rw [hc]; rfl) (Ext.refl xx.vh) (.int _)
    · rintro U H1 xs xx hDU dl _
      rw [size_eq, show fm (fun i => (z.cps[i]?).map fun c : Nat => PyData.int (c : Int)) z.cps.toList.length = (codesOf z).map PyData.int from by
          unfold codesOf; rw [List.map_map]; exact fm_list _ _ _ rfl _ fun i x hx => by rw [cps_at, hx]; rfl] at dl
      have hlc : (codesOf z).length = z.length := by unfold codesOf; rw [List.length_map]; exact (size_eq z).symm
      have exs := dp_intsV dl
      subst exs
      have h1D := xx.vh _ _ hDU
      have ev : ∀ (l : Int), l = z.length → (z.length : Int) + 1 = l + 1 := fun l e => by omega
      refine ⟨_, rfl, D, _, rfl, .inl (SqL.of h1D), _, _, rfl, rfl, _, 4, rfl, ?_, by decide, fun p H2 hp hs he => ?_⟩
      · omega
      have h2D := hs _ _ h1D
      rw [List.length_map, hlc] at he
      refine ⟨_, rfl, p, D, _, _, rfl, rfl, he, h2D, ?_, fun p3 n3 => ?_⟩
      · rw [List.length_map, List.length_map, octs_len, hlc]; exact len_line (by omega)
      refine ⟨by decide, fun p4 n4 => ?_⟩
      refine ⟨p3, p4, _, _, rfl, rfl, by rw [upd_ne (ne_of_none upd_same n4)]; exact upd_same, upd_same, ?_, fun p5 n5 => ?_⟩
      · rw [List.length_append, List.length_map, List.length_map, octs_len, hlc]; exact len_line (by show 4 + z.length + 1 ≤ _; omega)
      refine ⟨p5, octs (z.length + 1 : Int) 4 ++ codesOf z ++ [0], rfl, ?_, ?_, fun p6 H6 n6 => q p6 H6 ?_⟩
      · rw [upd_same, List.map_append, List.map_append]; rfl
      · rw [List.length_append, List.length_append, octs_len, hlc]; show 4 + z.length + 1 < 90000; omega
      · exact ⟨xx.hh.free (hs.free ((same_upd n3).free ((same_upd n4).free ((same_upd n5).free n6.new)))), xx.hh.trans (hs.trans ((same_upd n3).trans ((same_upd n4).trans ((same_upd n5).trans n6.same)))), n6.at_⟩
/-! ### the kinds -/
inductive NumKind : Str → Int → Int → Prop
  | uint : NumKind "uint" 0 4294967295
  | maybe : NumKind "maybe" 0 4294967295
  | int : NumKind "int" (-2147483648) 2147483647
  | object : NumKind "object" 1 4294967295
  | new : NumKind "new" 1 4294967295
inductive AV
  | num (i : Int)
  | txt (s : Str)
  | oct (xs : List Int)
  | bnd (s : Str) (n : Int)
def ArgAt (K : PySem.W.Frag) (H : Hp) (v : V) : AV → Prop
  | .num i => v = .int i
  | .txt s => v = .str s ∧ s.length < 80000
  | .oct xs => ∃ a, v = .ref a ∧ H a = some (.lst (xs.map V.int)) ∧ xs.length < 80000
  | .bnd s n => ∃ a, v = .ref a ∧ SqT K H a [.str s, .int n] ∧ s.length < 80000
theorem ArgAt.to {K : PySem.W.Frag} {H H' : Hp} {v : V} {x : AV} (h : ArgAt K H v x) (s : Same H H') : ArgAt K H' v x := by
  cases x with
  | num i => exact h
  | txt z => exact h
  | oct xs => obtain ⟨a, e, q, l⟩ := h; exact ⟨a, e, s _ _ q, l⟩
  | bnd z n => obtain ⟨a, e, q, l⟩ := h; exact ⟨a, e, s.sqt q, l⟩
def octsOk (xs : List Int) : Bool := decide (xs.length ≤ 16384) && xs.all fun x => decide (0 ≤ x ∧ x ≤ 255)
inductive ArgSpec : Str → AV → Bool → List Int → Prop
  | num {k : Str} {lo hi i : Int} (h : NumKind k lo hi) : ArgSpec k (.num i) (decide (lo ≤ i ∧ i ≤ hi)) (octs (i % 4294967296) 4)
  | txt {s : Str} : ArgSpec "text" (.txt s) (isText s) (textOcts s)
  | oct {xs : List Int} : ArgSpec "octets" (.oct xs) (octsOk xs) (pad (octs xs.length 4 ++ xs))
  | bnd {s : Str} {n : Int} : ArgSpec "bound" (.bnd s n) (isText s && decide (1 ≤ n ∧ n ≤ 4294967295)) (textOcts s ++ octs n 4)
def sp__are_octets (K : PySem.W.Frag) : Sp := fun vs H Q _ => ∃ (a : Addr) (xs : List Int), vs = [.ref a] ∧ H a = some (.lst (xs.map V.int)) ∧ xs.length < 80000 ∧ ∀ H', Same H H' → Q (.bl (octsOk xs)) H'
theorem sc__are_octets : FnScope ["value", "octet"] ["value"] (defScope s__are_octets) := ⟨rfl, rfl, rfl, by decide +kernel, rfl, by decide +kernel, by decide +kernel⟩
theorem ok__are_octets (T : Txt K mg A) : FnOk P w K mg base CX0 2 A.f_are_octets A.d_are_octets ["value"] (sp__are_octets K) := by
  refine T.F_are_octets.ok sc__are_octets (fun vs H Q E h => ?_) (fun cdv Ar outer s H vs Q E hr h => ?_)
  · obtain ⟨a, xs, rfl, _⟩ := h
    rfl
  · obtain ⟨a, xs, rfl, ha, hl, q⟩ := h
    refine ⟨_, (pss_cons (ps_if (PW.pt (pw_or (pt_not (pt_val (pe_callB call_isi (by rfl) T.isinstance (by decide +kernel) (pa_cons (pv 0) (pa_cons (pe_bltn (v := .ty "list") (by rfl) T.list (by decide +kernel) rfl) pa_nil))))) (pw_or1 (pt_cmpR op_gt (pe_callB call_len_seq (by rfl) T.len PySem.boot_len (pa_cons (pv 0) pa_nil)) (pe_glob (v := .int (16384)) rfl T.gMOST_OCTETS ⟨_, rfl⟩) (nomark _)))))
      (pss_one (ps_ret pe_bl))
      pss_nil)
      (pss_one (ps_ret (pe_callB (cr_all rfl) (by rfl) T.all (by decide +kernel) (pa_cons (pe_lc (own := [("octet", 1)]) (g := (gName 1)) (tt := tYes) rfl sc__are_octets.nd (pi_list (pv 0)) (blkOk_by (own := [("octet", 1)]) (N := ["value", "octet"]) (sc := defScope s__are_octets) (by decide +kernel)) (fun _ _ _ _ _ => (pg_name (i := 1) sc__are_octets.nd rfl (Or.inl rfl))) (fun _ _ _ _ _ => pts_nil) (fun _ _ _ _ _ => by exact (pe_call (ok_is_integer T) (hr.mono (by decide)) rfl T.gis_integer T.kis_integer T.bis_integer .nil pass0 (pa_cons (pv 1) (pa_cons pe_int (pa_cons pe_int pa_nil)))))) pa_nil))))), ?_⟩
    refine ⟨_, rfl, .ref a, .ty "list", .type "list", .type "list", true, rfl, .ty _, tyL (K := K) (SqL.of ha), kit_ty (by decide +kernel), _, rfl, if_f rfl ?_⟩
    refine ⟨_, rfl, a, _, rfl, .inl (SqL.of ha), _, _, rfl, rfl, _, rfl, iteP (fun h => ?_) (fun h => ?_)⟩
    · have := q H (Same.refl H)
      unfold octsOk at this
      rw [List.length_map] at h
      rw [decide_eq_false (show ¬ xs.length ≤ 16384 by omega)] at this
      exact this
    · rw [List.length_map] at h
      refine ⟨_, rfl, a, rfl, ⟨_, SqL.of ha⟩, fun D hD => ?_⟩
      refine lc_dp (walk_list (K := K) (a := a) (xs := xs.map V.int)) (K := K) (V0 := H) (H0 := H) (fun i => (xs[i]?).map fun x => PyData.bool (decide (0 ≤ x ∧ x ≤ 255))) [some (.ref a), none] rfl (Same.refl _) hD (by rw [List.length_map]; omega) (fun H' s => s.seq (SqL.of ha)) (fun i x H H' y => y.1) ?_ ?_
      · rintro i x U H1 hi xx ⟨_, hx⟩ Qy Qn hy _
        rw [List.getElem?_map] at hx
        obtain ⟨z, hz, rfl⟩ := Option.map_eq_some_iff.mp hx
        exact ⟨rfl, _, rfl, z, 0, 255, rfl, hy _ _ _ _ (by rw [hz]; rfl) (Ext.refl xx.vh) (.bl _)⟩
      · rintro U H1 _ xx _ _ dl
        rw [List.length_map, show fm (fun i => (xs[i]?).map fun x => PyData.bool (decide (0 ≤ x ∧ x ≤ 255))) xs.length = (xs.map fun x => decide (0 ≤ x ∧ x ≤ 255)).map PyData.bool from by
          rw [List.map_map]; exact fm_list _ _ _ rfl _ fun i x hx => by rw [hx]; rfl] at dl
        refine ⟨D, _, rfl, xx.vh.seq (dp_boolsL dl), ?_⟩
        have := q _ xx.hh
        unfold octsOk at this
        rw [decide_eq_true (show xs.length ≤ 16384 by omega), Bool.true_and] at this
        rw [List.all_map]; exact this
theorem sc__is_of : FnScope ["kind", "value"] ["kind", "value"] (defScope s__is_of) := ⟨rfl, rfl, rfl, by decide +kernel, rfl, by decide +kernel, by decide +kernel⟩
/-- the kinds but bound -/
def sp_is_of0 (K : PySem.W.Frag) : Sp := fun vs H Q _ => ∃ (kind : Str) (v : V) (x : AV) (ok : Bool) (os : List Int), vs = [.str kind, v] ∧ ArgSpec kind x ok os ∧ kind ≠ "bound" ∧ ArgAt K H v x ∧ ∀ H', Same H H' → Q (.bl ok) H'
theorem ok_is_of0 (T : Txt K mg A) : FnOk P w K mg base CX0 3 A.f_is_of A.d_is_of ["kind", "value"] (sp_is_of0 K) := by
  refine T.F_is_of.ok sc__is_of (fun vs H Q E h => ?_) (fun cdv Ar outer s H vs Q E hr h => ?_)
  · obtain ⟨kind, v, x, ok, os, rfl, _⟩ := h
    rfl
  · obtain ⟨kind, v, x, ok, os, rfl, hk, nb, ha, q⟩ := h
    refine ⟨_, (pss_cons (ps_if (PW.pt (pw_or (pt_cmpR op_eq (pv 0) pe_str (nomark _)) (pw_or1 (pt_cmpR op_eq (pv 0) pe_str (nomark _)))))
      (pss_one (ps_ret (pe_call (ok_is_integer T) (hr.mono (by decide)) rfl T.gis_integer T.kis_integer T.bis_integer .nil pass0 (pa_cons (pv 1) (pa_cons pe_int (pa_cons (pe_glob (v := .int (4294967295)) rfl T.gGREATEST_NUMBER ⟨_, rfl⟩) pa_nil))))))
      pss_nil)
      (pss_cons (ps_if (pt_cmpR op_eq (pv 0) pe_str (nomark _))
      (pss_one (ps_ret (pe_call (ok_is_integer T) (hr.mono (by decide)) rfl T.gis_integer T.kis_integer T.bis_integer .nil pass0 (pa_cons (pv 1) (pa_cons (pe_glob (v := .int (-2147483648)) rfl T.gLEAST_INT ⟨_, rfl⟩) (pa_cons (pe_glob (v := .int (2147483647)) rfl T.gGREATEST_INT ⟨_, rfl⟩) pa_nil))))))
      pss_nil)
      (pss_cons (ps_if (PW.pt (pw_or (pt_cmpR op_eq (pv 0) pe_str (nomark _)) (pw_or1 (pt_cmpR op_eq (pv 0) pe_str (nomark _)))))
      (pss_one (ps_ret (pe_call (ok_is_integer T) (hr.mono (by decide)) rfl T.gis_integer T.kis_integer T.bis_integer .nil pass0 (pa_cons (pv 1) (pa_cons pe_int (pa_cons (pe_glob (v := .int (4294967295)) rfl T.gGREATEST_NUMBER ⟨_, rfl⟩) pa_nil))))))
      pss_nil)
      (pss_cons (ps_if (pt_cmpR op_eq (pv 0) pe_str (nomark _))
      (pss_one (ps_ret (pe_and (pe_callB call_isi (by rfl) T.isinstance (by decide +kernel) (pa_cons (pv 1) (pa_cons (pe_bltn (v := .ty "str") (by rfl) T.str (by decide +kernel) rfl) pa_nil))) (pe_one (pe_call (ok_is_text T) (hr.mono (by decide)) rfl T.gis_text T.kis_text T.bis_text .nil pass0 (pa_cons (pv 1) pa_nil))))))
      pss_nil)
      (pss_cons (ps_if (pt_cmpR op_eq (pv 0) pe_str (nomark _))
      (pss_one (ps_ret (pe_call (ok__are_octets T) (hr.mono (by decide)) rfl T.g_are_octets T.k_are_octets T.b_are_octets .nil pass0 (pa_cons (pv 1) pa_nil))))
      pss_nil)
      (pss_one ps_never)))))), ?_⟩
    have q0 := q H (Same.refl H)
    cases hk with
    | num h =>
      rename_i lo hi i
      obtain rfl : v = .int i := ha
      cases h with
      | uint => exact ⟨_, rfl, rfl, _, rfl, if_t (by decide +kernel) (if_t rfl ⟨_, rfl, _, _, _, rfl, q0⟩)⟩
      | maybe => exact ⟨_, rfl, rfl, _, rfl, if_f (by decide +kernel) ⟨_, rfl, rfl, _, rfl, if_t (by decide +kernel) ⟨_, rfl, _, _, _, rfl, q0⟩⟩⟩
      | int =>
        refine ⟨_, rfl, rfl, _, rfl, if_f (by decide +kernel) ⟨_, rfl, rfl, _, rfl, if_f (by decide +kernel) ?_⟩⟩
        exact ⟨_, rfl, rfl, _, rfl, if_t (by decide +kernel) ⟨_, rfl, _, _, _, rfl, q0⟩⟩
      | object =>
        refine ⟨_, rfl, rfl, _, rfl, if_f (by decide +kernel) ⟨_, rfl, rfl, _, rfl, if_f (by decide +kernel) ?_⟩⟩
        refine ⟨_, rfl, rfl, _, rfl, if_f (by decide +kernel) ⟨_, rfl, rfl, _, rfl, if_t (by decide +kernel) (if_t rfl ⟨_, rfl, _, _, _, rfl, q0⟩)⟩⟩
      | new =>
        refine ⟨_, rfl, rfl, _, rfl, if_f (by decide +kernel) ⟨_, rfl, rfl, _, rfl, if_f (by decide +kernel) ?_⟩⟩
        refine ⟨_, rfl, rfl, _, rfl, if_f (by decide +kernel) ⟨_, rfl, rfl, _, rfl, if_f (by decide +kernel) ⟨_, rfl, rfl, _, rfl, if_t (by decide +kernel) ⟨_, rfl, _, _, _, rfl, q0⟩⟩⟩⟩
    | txt =>
      rename_i s
      obtain ⟨rfl, hl⟩ := ha
      refine ⟨_, rfl, rfl, _, rfl, if_f (by decide +kernel) ⟨_, rfl, rfl, _, rfl, if_f (by decide +kernel) ?_⟩⟩
      refine ⟨_, rfl, rfl, _, rfl, if_f (by decide +kernel) ⟨_, rfl, rfl, _, rfl, if_f (by decide +kernel) ⟨_, rfl, rfl, _, rfl, if_f (by decide +kernel) ?_⟩⟩⟩
      refine ⟨_, rfl, rfl, _, rfl, if_t (by decide +kernel) ?_⟩
      exact ⟨_, rfl, .str s, .ty "str", .type "str", .type "str", true, rfl, .ty _, .base (.str _), kit_ty (by decide +kernel), _, rfl, if_t rfl ⟨_, rfl, s, rfl, by omega, q⟩⟩
    | oct =>
      rename_i xs
      obtain ⟨a, rfl, ha, hl⟩ := ha
      refine ⟨_, rfl, rfl, _, rfl, if_f (by decide +kernel) ⟨_, rfl, rfl, _, rfl, if_f (by decide +kernel) ?_⟩⟩
      refine ⟨_, rfl, rfl, _, rfl, if_f (by decide +kernel) ⟨_, rfl, rfl, _, rfl, if_f (by decide +kernel) ⟨_, rfl, rfl, _, rfl, if_f (by decide +kernel) ?_⟩⟩⟩
      refine ⟨_, rfl, rfl, _, rfl, if_f (by decide +kernel) ?_⟩
      exact ⟨_, rfl, rfl, _, rfl, if_t (by decide +kernel) ⟨_, rfl, a, xs, rfl, ha, hl, q⟩⟩
    | bnd => exact absurd rfl nb
def sp__is_bound (K : PySem.W.Frag) : Sp := fun vs H Q _ => ∃ (a : Addr) (s : Str) (n : Int), vs = [.ref a] ∧ SqT K H a [.str s, .int n] ∧ s.length < 80000 ∧ ∀ H', Same H H' → Q (.bl (isText s && decide (1 ≤ n ∧ n ≤ 4294967295))) H'
theorem sc__is_bound : FnScope ["value"] ["value"] (defScope s__is_bound) := ⟨rfl, rfl, rfl, by decide +kernel, rfl, by decide +kernel, by decide +kernel⟩
theorem ok__is_bound (T : Txt K mg A) : FnOk P w K mg base CX0 4 A.f_is_bound A.d_is_bound ["value"] (sp__is_bound K) := by
  refine T.F_is_bound.ok sc__is_bound (fun vs H Q E h => ?_) (fun cdv Ar outer s H vs Q E hr h => ?_)
  · obtain ⟨a, s, n, rfl, _⟩ := h
    rfl
  · obtain ⟨a, z, n, rfl, ha, hl, q⟩ := h
    have ok__is_of : ∀ {A' : Adr} (T : Txt K mg A'), FnOk P w K mg base CX0 3 A'.f_is_of A'.d_is_of ["kind", "value"] (sp_is_of0 K) := fun T => ok_is_of0 T
    refine ⟨_, (pss_cons (ps_if (PW.pt (pw_or (pt_not (pt_val (pe_callB call_isi (by rfl) T.isinstance (by decide +kernel) (pa_cons (pv 0) (pa_cons (pe_bltn (v := .ty "tuple") (by rfl) T.tuple (by decide +kernel) rfl) pa_nil))))) (pw_or1 (pt_cmpR op_ne (pe_callB call_len_seq (by rfl) T.len PySem.boot_len (pa_cons (pv 0) pa_nil)) pe_int (nomark _)))))
      (pss_one (ps_ret pe_bl))
      pss_nil)
      (pss_one (ps_ret (pe_and (pe_call (ok__is_of T) (hr.mono (by decide)) rfl T.g_is_of T.k_is_of T.b_is_of .nil pass0 (pa_cons pe_str (pa_cons (pe_ix (r := rIxT K) ix_tup (pv 0) pe_int (fun _ _ => rfl)) pa_nil))) (pe_one (pe_call (ok__is_of T) (hr.mono (by decide)) rfl T.g_is_of T.k_is_of T.b_is_of .nil pass0 (pa_cons pe_str (pa_cons (pe_ix (r := rIxT K) ix_tup (pv 0) pe_int (fun _ _ => rfl)) pa_nil)))))))), ?_⟩
    refine ⟨_, rfl, .ref a, .ty "tuple", .type "tuple", .type "tuple", true, rfl, .ty _, tyT ha, kit_ty (by decide +kernel), _, rfl, if_f rfl ?_⟩
    refine ⟨_, rfl, a, _, rfl, .inr ha, rfl, _, rfl, if_f rfl ?_⟩
    refine ⟨_, rfl, a, _, 0, .str z, rfl, rfl, ha, atI_nat (j := 0) rfl, "text", .str z, .txt z, isText z, _, rfl, .txt, by decide +kernel, ⟨rfl, hl⟩, fun H' s => ⟨_, rfl, if_b (fun c => ?_) (fun c => ?_)⟩⟩
    · refine ⟨_, rfl, a, _, 1, .int n, rfl, rfl, s.sqt ha, atI_nat (j := 1) rfl, "new", .int n, .num n, _, _, rfl, .num .new, by decide +kernel, rfl, fun H2 s2 => ?_⟩
      have := q H2 (s.trans s2)
      rw [c, Bool.true_and] at this
      exact this
    · have := q H' s
      rw [c, Bool.false_and] at this
      exact this
def sp__is_of (K : PySem.W.Frag) : Sp := fun vs H Q _ => ∃ (kind : Str) (v : V) (x : AV) (ok : Bool) (os : List Int), vs = [.str kind, v] ∧ ArgSpec kind x ok os ∧ ArgAt K H v x ∧ ∀ H', Same H H' → Q (.bl ok) H'
theorem ok__is_of (T : Txt K mg A) : FnOk P w K mg base CX0 5 A.f_is_of A.d_is_of ["kind", "value"] (sp__is_of K) := by
  refine T.F_is_of.ok sc__is_of (fun vs H Q E h => ?_) (fun cdv Ar outer s H vs Q E hr h => ?_)
  · obtain ⟨kind, v, x, ok, os, rfl, _⟩ := h
    rfl
  · obtain ⟨kind, v, x, ok, os, rfl, hk, ha, q⟩ := h
    refine ⟨_, (pss_cons (ps_if (PW.pt (pw_or (pt_cmpR op_eq (pv 0) pe_str (nomark _)) (pw_or1 (pt_cmpR op_eq (pv 0) pe_str (nomark _)))))
      (pss_one (ps_ret (pe_call (ok_is_integer T) (hr.mono (by decide)) rfl T.gis_integer T.kis_integer T.bis_integer .nil pass0 (pa_cons (pv 1) (pa_cons pe_int (pa_cons (pe_glob (v := .int (4294967295)) rfl T.gGREATEST_NUMBER ⟨_, rfl⟩) pa_nil))))))
      pss_nil)
      (pss_cons (ps_if (pt_cmpR op_eq (pv 0) pe_str (nomark _))
      (pss_one (ps_ret (pe_call (ok_is_integer T) (hr.mono (by decide)) rfl T.gis_integer T.kis_integer T.bis_integer .nil pass0 (pa_cons (pv 1) (pa_cons (pe_glob (v := .int (-2147483648)) rfl T.gLEAST_INT ⟨_, rfl⟩) (pa_cons (pe_glob (v := .int (2147483647)) rfl T.gGREATEST_INT ⟨_, rfl⟩) pa_nil))))))
      pss_nil)
      (pss_cons (ps_if (PW.pt (pw_or (pt_cmpR op_eq (pv 0) pe_str (nomark _)) (pw_or1 (pt_cmpR op_eq (pv 0) pe_str (nomark _)))))
      (pss_one (ps_ret (pe_call (ok_is_integer T) (hr.mono (by decide)) rfl T.gis_integer T.kis_integer T.bis_integer .nil pass0 (pa_cons (pv 1) (pa_cons pe_int (pa_cons (pe_glob (v := .int (4294967295)) rfl T.gGREATEST_NUMBER ⟨_, rfl⟩) pa_nil))))))
      pss_nil)
      (pss_cons (ps_if (pt_cmpR op_eq (pv 0) pe_str (nomark _))
      (pss_one (ps_ret (pe_and (pe_callB call_isi (by rfl) T.isinstance (by decide +kernel) (pa_cons (pv 1) (pa_cons (pe_bltn (v := .ty "str") (by rfl) T.str (by decide +kernel) rfl) pa_nil))) (pe_one (pe_call (ok_is_text T) (hr.mono (by decide)) rfl T.gis_text T.kis_text T.bis_text .nil pass0 (pa_cons (pv 1) pa_nil))))))
      pss_nil)
      (pss_cons (ps_if (pt_cmpR op_eq (pv 0) pe_str (nomark _))
      (pss_one (ps_ret (pe_call (ok__are_octets T) (hr.mono (by decide)) rfl T.g_are_octets T.k_are_octets T.b_are_octets .nil pass0 (pa_cons (pv 1) pa_nil))))
      pss_nil)
      (pss_one (ps_ret (pe_and (pe_cmpR op_eq (pv 0) pe_str (nomark _)) (pe_one (pe_call (ok__is_bound T) (hr.mono (by decide)) rfl T.g_is_bound T.k_is_bound T.b_is_bound .nil pass0 (pa_cons (pv 1) pa_nil))))))))))), ?_⟩
    have q0 := q H (Same.refl H)
    cases hk with
    | num h =>
      rename_i lo hi i
      obtain rfl : v = .int i := ha
      cases h with
      | uint => exact ⟨_, rfl, rfl, _, rfl, if_t (by decide +kernel) (if_t rfl ⟨_, rfl, _, _, _, rfl, q0⟩)⟩
      | maybe => exact ⟨_, rfl, rfl, _, rfl, if_f (by decide +kernel) ⟨_, rfl, rfl, _, rfl, if_t (by decide +kernel) ⟨_, rfl, _, _, _, rfl, q0⟩⟩⟩
      | int =>
        refine ⟨_, rfl, rfl, _, rfl, if_f (by decide +kernel) ⟨_, rfl, rfl, _, rfl, if_f (by decide +kernel) ?_⟩⟩
        exact ⟨_, rfl, rfl, _, rfl, if_t (by decide +kernel) ⟨_, rfl, _, _, _, rfl, q0⟩⟩
      | object =>
        refine ⟨_, rfl, rfl, _, rfl, if_f (by decide +kernel) ⟨_, rfl, rfl, _, rfl, if_f (by decide +kernel) ?_⟩⟩
        refine ⟨_, rfl, rfl, _, rfl, if_f (by decide +kernel) ⟨_, rfl, rfl, _, rfl, if_t (by decide +kernel) (if_t rfl ⟨_, rfl, _, _, _, rfl, q0⟩)⟩⟩
      | new =>
        refine ⟨_, rfl, rfl, _, rfl, if_f (by decide +kernel) ⟨_, rfl, rfl, _, rfl, if_f (by decide +kernel) ?_⟩⟩
        refine ⟨_, rfl, rfl, _, rfl, if_f (by decide +kernel) ⟨_, rfl, rfl, _, rfl, if_f (by decide +kernel) ⟨_, rfl, rfl, _, rfl, if_t (by decide +kernel) ⟨_, rfl, _, _, _, rfl, q0⟩⟩⟩⟩
    | txt =>
      rename_i s
      obtain ⟨rfl, hl⟩ := ha
      refine ⟨_, rfl, rfl, _, rfl, if_f (by decide +kernel) ⟨_, rfl, rfl, _, rfl, if_f (by decide +kernel) ?_⟩⟩
      refine ⟨_, rfl, rfl, _, rfl, if_f (by decide +kernel) ⟨_, rfl, rfl, _, rfl, if_f (by decide +kernel) ⟨_, rfl, rfl, _, rfl, if_f (by decide +kernel) ?_⟩⟩⟩
      refine ⟨_, rfl, rfl, _, rfl, if_t (by decide +kernel) ?_⟩
      exact ⟨_, rfl, .str s, .ty "str", .type "str", .type "str", true, rfl, .ty _, .base (.str _), kit_ty (by decide +kernel), _, rfl, if_t rfl ⟨_, rfl, s, rfl, by omega, q⟩⟩
    | oct =>
      rename_i xs
      obtain ⟨a, rfl, ha, hl⟩ := ha
      refine ⟨_, rfl, rfl, _, rfl, if_f (by decide +kernel) ⟨_, rfl, rfl, _, rfl, if_f (by decide +kernel) ?_⟩⟩
      refine ⟨_, rfl, rfl, _, rfl, if_f (by decide +kernel) ⟨_, rfl, rfl, _, rfl, if_f (by decide +kernel) ⟨_, rfl, rfl, _, rfl, if_f (by decide +kernel) ?_⟩⟩⟩
      refine ⟨_, rfl, rfl, _, rfl, if_f (by decide +kernel) ?_⟩
      exact ⟨_, rfl, rfl, _, rfl, if_t (by decide +kernel) ⟨_, rfl, a, xs, rfl, ha, hl, q⟩⟩
    | bnd =>
      rename_i z n
      obtain ⟨a, rfl, ha, hl⟩ := ha
      refine ⟨_, rfl, rfl, _, rfl, if_f (by decide +kernel) ⟨_, rfl, rfl, _, rfl, if_f (by decide +kernel) ?_⟩⟩
      refine ⟨_, rfl, rfl, _, rfl, if_f (by decide +kernel) ⟨_, rfl, rfl, _, rfl, if_f (by decide +kernel) ⟨_, rfl, rfl, _, rfl, if_f (by decide +kernel) ?_⟩⟩⟩
      refine ⟨_, rfl, rfl, _, rfl, if_f (by decide +kernel) ?_⟩
      refine ⟨_, rfl, rfl, _, rfl, if_f (by decide +kernel) ?_⟩
      exact ⟨_, rfl, rfl, _, rfl, if_t (by decide +kernel) ⟨_, rfl, a, z, n, rfl, ha, hl, q⟩⟩
/-- field_octets: a new list, or BadMessage -/
def sp_field_octets (K : PySem.W.Frag) (C : Addr) : Sp := fun vs H Q E => ∃ (kind : Str) (v : V) (x : AV) (ok : Bool) (os : List Int), vs = [.str kind, v] ∧ ArgSpec kind x ok os ∧ ArgAt K H v x ∧
  (ok = true → ∀ p H', NewL H H' p (os.map V.int) → Q (.ref p) H') ∧ (ok = false → ∀ H', Same H H' → E (.ref C) none H')
theorem sc_field_octets : FnScope ["kind", "value", "text", "number"] ["kind", "value"] (defScope s_field_octets) := ⟨rfl, rfl, rfl, by decide +kernel, rfl, by decide +kernel, by decide +kernel⟩
theorem ok_field_octets (T : Txt K mg A) : FnOk P w K mg base (L2.CX P w) 6 A.ffield_octets A.dfield_octets ["kind", "value"] (sp_field_octets K A.CBadMessage) := by
  refine T.Ffield_octets.okX sc_field_octets (fun vs H Q E h => ?_) (fun cdv Ar outer s H vs Q E hr h => ?_)
  · obtain ⟨kind, v, x, ok, os, rfl, _⟩ := h
    rfl
  · obtain ⟨kind, v, x, ok, os, rfl, hk, ha, q, e⟩ := h
    refine ⟨_, (pss_cons (ps_if (pt_not (pt_val (pe_call (ok__is_of T) (hr.mono (by decide)) rfl T.g_is_of T.k_is_of T.b_is_of .nil pass0 (pa_cons (pv 0) (pa_cons (pv 1) pa_nil)))))
      (pss_one (ps_raise rfl (takes_of rfl rfl rfl rfl) (pmk_own PySem.F.excBase_ValueError T.xBadMessage T.gBadMessage T.kBadMessage (raises_own T.bxBadMessage T.txBadMessage) rfl)))
      pss_nil)
      (pss_cons (ps_if (pt_cmpR op_eq (pv 0) pe_str (nomark _))
      (pss_one (ps_ret (pe_call (ok__text_octets T) (hr.mono (by decide)) rfl T.g_text_octets T.k_text_octets T.b_text_octets .nil pass0 (pa_cons (pv 1) pa_nil))))
      pss_nil)
      (pss_cons (ps_if (pt_cmpR op_eq (pv 0) pe_str (nomark _))
      (pss_one (ps_ret (pe_call (ok__padded T) (hr.mono (by decide)) rfl T.g_padded T.k_padded T.b_padded .nil pass0 (pa_cons (pe_op op_cat (pe_call (ok_number_octets T) (hr.mono (by decide)) rfl T.gnumber_octets T.knumber_octets T.bnumber_octets .nil pass0 (pa_cons (pe_callB call_len_seq (by rfl) T.len PySem.boot_len (pa_cons (pv 1) pa_nil)) (pa_cons pe_int pa_nil))) (pv 1)) pa_nil))))
      pss_nil)
      (pss_cons (ps_if (pt_cmpR op_eq (pv 0) pe_str (nomark _))
      (pss_cons (ps_asg (pv 1) (pg_tup rfl (pgs_cons (pg_name (i := 2) sc_field_octets.nd rfl (Or.inl rfl)) (pgs_cons (pg_name (i := 3) sc_field_octets.nd rfl (Or.inl rfl)) pgs_nil))))
      (pss_one (ps_ret (pe_op op_cat (pe_call (ok__text_octets T) (hr.mono (by decide)) rfl T.g_text_octets T.k_text_octets T.b_text_octets .nil pass0 (pa_cons (pv 2) pa_nil)) (pe_call (ok_number_octets T) (hr.mono (by decide)) rfl T.gnumber_octets T.knumber_octets T.bnumber_octets .nil pass0 (pa_cons (pv 3) (pa_cons pe_int pa_nil)))))))
      pss_nil)
      (pss_one (ps_ret (pe_call (ok_number_octets T) (hr.mono (by decide)) rfl T.gnumber_octets T.knumber_octets T.bnumber_octets .nil pass0 (pa_cons (pe_op op_mod (pv 1) (pe_op op_pow pe_int pe_int)) (pa_cons pe_int pa_nil))))))))), ?_⟩
    refine ⟨_, rfl, _, rfl, kind, v, x, ok, os, rfl, hk, ha, fun H1 s1 => ⟨_, rfl, if_b (fun c => ?_) (fun c => ?_)⟩⟩
    · refine e ?_ H1 s1
      cases ok
      · rfl
      · cases c
    have hok : ok = true := by cases ok; · cases c
                               · rfl
    replace q : ∀ p H', NewL H H' p (os.map V.int) → Q (.ref p) H' := q hok
    replace ha := ha.to s1
    clear e c
    cases hk with
    | num h =>
      rename_i lo hi i
      obtain rfl : v = .int i := ha
      have hne : kind ≠ "text" ∧ kind ≠ "octets" ∧ kind ≠ "bound" := by cases h <;> exact ⟨by decide +kernel, by decide +kernel, by decide +kernel⟩
      refine ⟨_, rfl, rfl, _, rfl, if_f (decide_eq_false fun z => hne.1 (V.str.inj z)) ?_⟩
      refine ⟨_, rfl, rfl, _, rfl, if_f (decide_eq_false fun z => hne.2.1 (V.str.inj z)) ?_⟩
      refine ⟨_, rfl, rfl, _, rfl, if_f (decide_eq_false fun z => hne.2.2 (V.str.inj z)) ?_⟩
      refine ⟨_, rfl, _, _, rfl, rfl, ⟨by decide, by decide, by decide⟩, _, _, rfl, rfl, by show (0 : Int) < 2 ^ (32 : Int).toNat; decide +kernel, ?_⟩
      have e2 : i % 2 ^ (32 : Int).toNat = i % 4294967296 := by rw [show (2 : Int) ^ (32 : Int).toNat = 4294967296 by decide +kernel]
      refine ⟨_, 4, rfl, ?_, by decide, ?_⟩
      · rw [e2]; omega
      · rw [e2]; exact fun p H' hp hs he => q p H' ⟨s1.free hp, s1.trans hs, he⟩
    | txt =>
      rename_i z
      obtain ⟨rfl, hl⟩ := ha
      refine ⟨_, rfl, rfl, _, rfl, if_t (by decide +kernel) ⟨_, rfl, z, rfl, hl, fun p H' n => q p H' ⟨s1.free n.new, s1.trans n.same, n.at_⟩⟩⟩
    | oct =>
      rename_i xs
      obtain ⟨a, rfl, ha, hl⟩ := ha
      refine ⟨_, rfl, rfl, _, rfl, if_f (by decide +kernel) ⟨_, rfl, rfl, _, rfl, if_t (by decide +kernel) ?_⟩⟩
      refine ⟨_, rfl, a, _, rfl, .inl (SqL.of ha), _, 4, rfl, by omega, by decide, fun p H2 hp hs he => ?_⟩
      rw [List.length_map] at he
      refine ⟨_, rfl, p, a, _, _, rfl, rfl, he, hs _ _ ha, ?_, fun p3 n3 => ?_⟩
      · rw [List.length_map, List.length_map, octs_len]; exact len_line (by omega)
      refine ⟨p3, octs xs.length 4 ++ xs, rfl, by rw [upd_same, List.map_append], by rw [List.length_append, octs_len]; omega, fun p4 H4 n4 => q p4 H4 ?_⟩
      exact ⟨s1.free (hs.free ((same_upd n3).free n4.new)), s1.trans (hs.trans ((same_upd n3).trans n4.same)), n4.at_⟩
    | bnd =>
      rename_i z n
      obtain ⟨a, rfl, ha, hl⟩ := ha
      refine ⟨_, rfl, rfl, _, rfl, if_f (by decide +kernel) ⟨_, rfl, rfl, _, rfl, if_f (by decide +kernel) ⟨_, rfl, rfl, _, rfl, if_t (by decide +kernel) ?_⟩⟩⟩
      refine ⟨_, rfl, a, _, rfl, ha, rfl, _, _, rfl, _, _, rfl, rfl, ?_⟩
      refine ⟨_, rfl, z, rfl, hl, fun p2 H2 n2 => ?_⟩
      refine ⟨_, rfl, n, 4, rfl, ?_, by decide, fun p3 H3 n3 s3 e3 => ?_⟩
      · have h2 := (Bool.and_eq_true_iff.mp hok).2
        have h3 := of_decide_eq_true h2
        omega
      refine ⟨p2, p3, _, _, rfl, rfl, s3 _ _ n2.at_, e3, ?_, fun p4 n4 => q p4 _ ⟨?_, ?_, ?_⟩⟩
      · rw [List.length_map, List.length_map, octs_len]; have := textOcts_len z; exact len_line (by omega)
      · exact s1.free (n2.same.free (s3.free n4))
      · exact s1.trans (n2.same.trans (s3.trans (same_upd n4)))
      · rw [upd_same, List.map_append]
/-! ### the law's signs -/
def signs1 : Str := " !\"#$&'()*+,-./0123456789:;<=>?@ABCDEFGHIJKLMNOPQRSTUVWXYZ[\\]^_`"
def signs2 : Str := "abcdefghijklmnopqrstuvwxyz{|}~"
theorem signs_len : (signs1 ++ signs2).cps.toList.length = 94 := by decide +kernel
theorem signs_ok : (signs1 ++ signs2).cps.toList.all (fun c : Nat => codeOk (c : Int)) = true := by decide +kernel
def okCodes (cs : List Nat) : Prop := ∀ c ∈ cs, codeOk (c : Int) = true
theorem at_of' {α : Type} {xs : List α} {z : Int} {j : Nat} {v : α} (e : z = (j : Int)) (h : xs[j]? = some v) : atI xs z = some v := by
  rw [e]
  exact atI_nat h
def signAt (d : Int) : Nat := (signs1 ++ signs2).cps.toList.getD (d % 94).toNat 32
theorem signAt_ok (d : Int) : codeOk (signAt d : Int) = true := by
  have hl := signs_len
  have hj : (d % 94).toNat < (signs1 ++ signs2).cps.toList.length := by omega
  unfold signAt
  rw [List.getD_eq_getElem?_getD, List.getElem?_eq_getElem hj]
  exact List.all_eq_true.mp signs_ok _ (List.getElem_mem hj)
def sp__law_sign (K : PySem.W.Frag) : Sp := fun vs H Q _ => ∃ (d : Int), vs = [.int d] ∧ Q (.str ⟨#[signAt d]⟩) H
theorem sc__law_sign : FnScope ["digit", "signs"] ["digit"] (defScope s__law_sign) := ⟨rfl, rfl, rfl, by decide +kernel, rfl, by decide +kernel, by decide +kernel⟩
theorem ok__law_sign (T : Txt K mg A) : FnOk P w K mg base CX0 1 A.f_law_sign A.d_law_sign ["digit"] (sp__law_sign K) := by
  refine T.F_law_sign.ok sc__law_sign (fun vs H Q E h => ?_) (fun cdv Ar outer s H vs Q E hr h => ?_)
  · obtain ⟨d, rfl, _⟩ := h
    rfl
  · obtain ⟨d, rfl, q⟩ := h
    refine ⟨_, (pss_cons (ps_set (i := 1) sc__law_sign.nd rfl (Or.inl rfl) pe_str)
      (pss_cons (ps_set (i := 1) sc__law_sign.nd rfl (Or.inl rfl) (pe_op op_add_str (pv 1) pe_str))
      (pss_one (ps_ret (pe_ix (r := rIxS) ix_str (pv 1) (pe_op op_mod (pe_callTy call_int1 (by rfl) T.int (by decide +kernel) (pa_cons (pv 0) pa_nil)) pe_int) (fun _ _ => rfl)))))), ?_⟩
    have hl := signs_len
    have hj : (d % 94).toNat < (signs1 ++ signs2).cps.toList.length := by omega
    refine ⟨_, rfl, _, _, rfl, rfl, by decide +kernel, _, rfl, _, rfl, Or.inl ⟨_, rfl, ?_⟩⟩
    refine ⟨_, _, rfl, rfl, by show (0 : Int) < 94; decide, signs1 ++ signs2, _, (signs1 ++ signs2).cps.toList[(d % 94).toNat], rfl, rfl, by decide +kernel, ?_, ?_⟩
    · exact at_of' (by omega) (List.getElem?_eq_getElem hj)
    · unfold signAt at q
      rw [List.getD_eq_getElem?_getD, List.getElem?_eq_getElem hj] at q
      exact q
theorem join_singles (cs : List Nat) : Txt.join ⟨#[]⟩ (cs.map fun c => (⟨#[c]⟩ : Str)) = ⟨cs.toArray⟩ := by
  have h := SX.join_S [] (cs.map fun c => [c])
  rw [List.map_map] at h
  have e : ∀ l : List Nat, TL.joinL [] (l.map fun c => [c]) = l := by
    intro l
    induction l with
    | nil => rfl
    | cons a l ih =>
      cases l with
      | nil => rfl
      | cons b l => exact congrArg (a :: ·) ih
  rw [e] at h
  exact h
/-! ### _law_octets -/
def lawOcts (r : Int) (n : Nat) : List Int := (List.range n).map fun k : Nat => (r / ((k : Int) % 9 + 1) + (k : Int) * (r % 251)) % 256
theorem lawOcts_len (r : Int) (n : Nat) : (lawOcts r n).length = n := by unfold lawOcts; rw [List.length_map, List.length_range]
theorem lawOcts_ok (r : Int) (n : Nat) : (lawOcts r n).all (fun x => decide (0 ≤ x ∧ x ≤ 255)) = true := by
  rw [List.all_eq_true]
  intro x hx
  obtain ⟨k, _, rfl⟩ := List.mem_map.mp hx
  refine decide_eq_true ?_
  omega
def sp__law_octets (K : PySem.W.Frag) : Sp := fun vs H Q _ => ∃ (r : Int) (n : Nat), vs = [.int r, .int (n : Int)] ∧ n < 80000 ∧ ∀ p H', NewL H H' p ((lawOcts r n).map V.int) → Q (.ref p) H'
theorem sc__law_octets : FnScope ["row", "size", "k"] ["row", "size"] (defScope s__law_octets) := ⟨rfl, rfl, rfl, by decide +kernel, rfl, by decide +kernel, by decide +kernel⟩
theorem ok__law_octets (T : Txt K mg A) : FnOk P w K mg base CX0 1 A.f_law_octets A.d_law_octets ["row", "size"] (sp__law_octets K) := by
  refine T.F_law_octets.ok sc__law_octets (fun vs H Q E h => ?_) (fun cdv Ar outer s H vs Q E hr h => ?_)
  · obtain ⟨r, n, rfl, _⟩ := h
    rfl
  · obtain ⟨r, n, rfl, hn, q⟩ := h
    refine ⟨_, (pss_one (ps_ret (pe_lc (own := [("k", 2)]) (g := (gName 2)) (tt := tYes) rfl sc__law_octets.nd (pi_range1 (by rfl) T.range (pa_cons (pv 1) pa_nil)) (blkOk_by (own := [("k", 2)]) (N := ["row", "size", "k"]) (sc := defScope s__law_octets) (by decide +kernel)) (fun _ _ _ _ _ => (pg_name (i := 2) sc__law_octets.nd rfl (Or.inl rfl))) (fun _ _ _ _ _ => pts_nil) (fun _ _ _ _ _ => by exact (pe_op op_mod (pe_callTy call_int1 (by rfl) T.int (by decide +kernel) (pa_cons (pe_op op_add (pe_op op_fdiv (pv 0) (pe_op op_add (pe_op op_mod (pv 2) pe_int) pe_int)) (pe_op op_mul (pv 2) (pe_op op_mod (pv 0) pe_int))) pa_nil)) pe_int))))), ?_⟩
    refine ⟨_, rfl, (n : Int), rfl, by omega, by omega, fun D hD => ?_⟩
    refine lc_dp (walk_range (lo := 0) (n := (n : Int).toNat)) (K := K) (V0 := H) (H0 := H) (fun k => some (PyData.int ((r / ((k : Int) % 9 + 1) + (k : Int) * (r % 251)) % 256))) [some (.int r), some (.int (n : Int)), none] rfl (Same.refl _) hD (by omega) (fun _ _ => trivial) (fun i x H H' y => y.1) ?_ ?_
    · rintro i x U H1 hi xx ⟨_, rfl⟩ Qy Qn hy _
      refine ⟨rfl, _, rfl, _, rfl, _, _, rfl, rfl, by show (0 : Int) < 9; decide, _, _, rfl, rfl, _, _, rfl, rfl, ⟨?_, ?_⟩, _, rfl, _, rfl, _, _, rfl, rfl, by show (0 : Int) < 251; decide, _, _, rfl, rfl, Or.inr ⟨by omega, by omega⟩, _, _, rfl, rfl, Or.inl ⟨_, rfl, ?_⟩⟩
      · show (0 : Int) < (0 + (i : Int)) % 9 + 1; omega
      · show (0 + (i : Int)) % 9 + 1 < 1073741824; omega
      refine ⟨_, _, rfl, rfl, by show (0 : Int) < 256; decide, ?_⟩
      rw [Int.zero_add]
      exact hy _ _ _ _ rfl (Ext.refl xx.vh) (.int _)
    · rintro U H1 xs xx hDU dl _
      rw [show (n : Int).toNat = n by omega, fm_some, show ((List.range n).map fun k : Nat => PyData.int ((r / ((k : Int) % 9 + 1) + (k : Int) * (r % 251)) % 256)) = (lawOcts r n).map PyData.int from by unfold lawOcts; rw [List.map_map]; rfl] at dl
      have e := dp_intsV dl
      subst e
      exact q D H1 ⟨hD, xx.hh, xx.vh _ _ hDU⟩
/-! ### _law_text, a comprehension -/
def lawText (r : Int) (n : Nat) : List Nat := (List.range n).map fun k : Nat => signAt (r / ((k : Int) % 7 + 1) + (k : Int) * (r % 93 + 1))
theorem lawText_len (r : Int) (n : Nat) : (lawText r n).length = n := by unfold lawText; rw [List.length_map, List.length_range]
theorem lawText_ok (r : Int) (n : Nat) : okCodes (lawText r n) := by
  intro c hc
  obtain ⟨k, _, rfl⟩ := List.mem_map.mp hc
  exact signAt_ok _
def lawTextS (r : Int) (n : Nat) : Str := ⟨(lawText r n).toArray⟩
theorem lawTextS_len (r : Int) (n : Nat) : (lawTextS r n).length = n := by show (lawText r n).toArray.size = n; rw [List.size_toArray, lawText_len]
theorem lawTextS_ok (r : Int) (n : Nat) : okCodes (lawTextS r n).cps.toList := by show okCodes (lawText r n).toArray.toList; simpa using lawText_ok r n
def sp__law_text (K : PySem.W.Frag) : Sp := fun vs H Q _ => ∃ (r : Int) (n : Nat), vs = [.int r, .int (n : Int)] ∧ n < 70000 ∧ ∀ H', Same H H' → Q (.str (lawTextS r n)) H'
theorem sc__law_text : FnScope ["row", "size", "k"] ["row", "size"] (defScope s__law_text) := ⟨rfl, rfl, rfl, by decide +kernel, rfl, by decide +kernel, by decide +kernel⟩
theorem ok__law_text (T : Txt K mg A) : FnOk P w K mg base CX0 2 A.f_law_text A.d_law_text ["row", "size"] (sp__law_text K) := by
  refine T.F_law_text.ok sc__law_text (fun vs H Q E h => ?_) (fun cdv Ar outer s H vs Q E hr h => ?_)
  · obtain ⟨r, n, rfl, _⟩ := h
    rfl
  · obtain ⟨r, n, rfl, hn, q⟩ := h
    refine ⟨_, (pss_one (ps_ret (pe_join pe_str (pe_lc (own := [("k", 2)]) (g := (gName 2)) (tt := tYes) rfl sc__law_text.nd (pi_range1 (by rfl) T.range (pa_cons (pv 1) pa_nil)) (blkOk_by (own := [("k", 2)]) (N := ["row", "size", "k"]) (sc := defScope s__law_text) (by decide +kernel)) (fun _ _ _ _ _ => (pg_name (i := 2) sc__law_text.nd rfl (Or.inl rfl))) (fun _ _ _ _ _ => pts_nil) (fun _ _ _ _ _ => by exact (pe_call (ok__law_sign T) (hr.mono (by decide)) rfl T.g_law_sign T.k_law_sign T.b_law_sign .nil pass0 (pa_cons (pe_op op_add (pe_callTy call_int1 (by rfl) T.int (by decide +kernel) (pa_cons (pe_op op_fdiv (pv 0) (pe_op op_add (pe_op op_mod (pv 2) pe_int) pe_int)) pa_nil)) (pe_op op_mul (pv 2) (pe_op op_add (pe_op op_mod (pe_callTy call_int1 (by rfl) T.int (by decide +kernel) (pa_cons (pv 0) pa_nil)) pe_int) pe_int))) pa_nil))))))), ?_⟩
    refine ⟨⟨_, rfl⟩, _, rfl, (n : Int), rfl, by omega, by omega, fun D hD => ?_⟩
    refine lc_dp (walk_range (lo := 0) (n := (n : Int).toNat)) (K := K) (V0 := H) (H0 := H) (fun k => some (PyData.str ⟨#[signAt (r / ((k : Int) % 7 + 1) + (k : Int) * (r % 93 + 1))]⟩)) [some (.int r), some (.int (n : Int)), none] rfl (Same.refl _) hD (by omega) (fun _ _ => trivial) (fun i x H H' y => y.1) ?_ ?_
    · rintro i x U H1 hi xx ⟨_, rfl⟩ Qy Qn hy _
      refine ⟨rfl, _, rfl, _, rfl, _, _, rfl, rfl, by show (0 : Int) < 7; decide, _, _, rfl, rfl, _, _, rfl, rfl, ⟨?_, ?_⟩, Or.inl ⟨_, rfl, ?_⟩⟩
      · show (0 : Int) < (0 + (i : Int)) % 7 + 1; omega
      · show (0 + (i : Int)) % 7 + 1 < 1073741824; omega
      refine ⟨_, rfl, _, rfl, Or.inl ⟨_, rfl, ?_⟩⟩
      refine ⟨_, _, rfl, rfl, by show (0 : Int) < 93; decide, _, _, rfl, rfl, _, _, rfl, rfl, Or.inr ⟨by omega, by omega⟩, _, _, rfl, rfl, _, rfl, ?_⟩
      rw [Int.zero_add]
      exact hy _ _ _ _ rfl (Ext.refl xx.vh) (.str _)
    · rintro U H1 xs xx hDU dl _
      rw [show (n : Int).toNat = n by omega, fm_some, show ((List.range n).map fun k : Nat => PyData.str ⟨#[signAt (r / ((k : Int) % 7 + 1) + (k : Int) * (r % 93 + 1))]⟩) = ((lawText r n).map fun c => (⟨#[c]⟩ : Str)).map PyData.str from by unfold lawText; rw [List.map_map, List.map_map]; rfl] at dl
      have e := dp_strsV dl
      subst e
      refine ⟨⟨#[]⟩, D, (lawText r n).map fun c => (⟨#[c]⟩ : Str), by decide +kernel, rfl, .inl (SqL.of (xx.vh _ _ hDU)), ?_, ?_⟩
      · have e : ∀ cs : List Nat, ((cs.map fun c => (⟨#[c]⟩ : Str)).map (·.length)).sum = cs.length := by
          intro cs
          induction cs with
          | nil => rfl
          | cons c cs ih => rw [List.map_cons, List.map_cons, List.sum_cons, ih]; show 1 + cs.length = cs.length + 1; omega
        rw [e, lawText_len]; show n + _ * 0 ≤ _; omega
      · rw [join_singles]
        exact q _ xx.hh
/-! ### arguments: kind, value, octets -/
structure Arg where
  kind : Str
  val : AV
  os : List Int
def bodyOf (args : List Arg) : List Int := args.flatMap Arg.os
theorem body_take {args : List Arg} {i : Nat} {g : Arg} (h : args[i]? = some g) : bodyOf (args.take (i + 1)) = bodyOf (args.take i) ++ g.os := fl_take' Arg.os args i g h
theorem body_le (args : List Arg) (i : Nat) : (bodyOf (args.take i)).length ≤ (bodyOf args).length := fl_le' Arg.os args i
theorem body_len_le {args : List Arg} {c : Nat} (h : ∀ g ∈ args, g.os.length ≤ c) : (bodyOf args).length ≤ c * args.length := by
  induction args with
  | nil => exact Nat.zero_le _
  | cons g r ih =>
    show (g.os ++ bodyOf r).length ≤ c * (r.length + 1)
    rw [List.length_append, Nat.mul_succ]
    have := ih fun x hx => h x (List.mem_cons_of_mem _ hx)
    have := h g List.mem_cons_self
    omega
/-! ### encode_message -/
/-- the list of the arguments, all of them of their kinds -/
structure ArgsAt (K : PySem.W.Frag) (H : Hp) (a : Addr) (args : List Arg) : Prop where
  ex : ∃ xs : List V, SqL K H a xs ∧ xs.length = args.length ∧ ∀ (i : Nat) (x : V), xs[i]? = some x → ∃ (g : Arg) (t : Addr) (v : V), args[i]? = some g ∧ x = .ref t ∧ SqT K H t [.str g.kind, v] ∧ ArgAt K H v g.val
  ok : ∀ g ∈ args, ArgSpec g.kind g.val true g.os
theorem ArgsAt.to {K : PySem.W.Frag} {H H' : Hp} {a : Addr} {args : List Arg} (h : ArgsAt K H a args) (s : Same H H') : ArgsAt K H' a args := by
  obtain ⟨xs, h1, h2, h3⟩ := h.ex
  refine ⟨⟨xs, s.seq h1, h2, fun i x hx => ?_⟩, h.ok⟩
  obtain ⟨g, t, v, e1, e2, e3, e4⟩ := h3 i x hx
  exact ⟨g, t, v, e1, e2, s.sqt e3, e4.to s⟩
def msgOcts (n o : Int) (body : List Int) : List Int := octs n 4 ++ octs o 2 ++ octs ((8 + body.length : Nat) : Int) 2 ++ body
def encBad (n o : Int) (args : List Arg) : Prop := ¬ (1 ≤ n ∧ n ≤ 4294967295) ∨ ¬ (0 ≤ o ∧ o ≤ 65535) ∨ 20 < args.length
def encLong (args : List Arg) : Prop := 20480 < 8 + (bodyOf args).length
def sp_encode_message (K : PySem.W.Frag) (B L : Addr) : Sp := fun vs H Q E => ∃ (n o : Int) (a : Addr) (args : List Arg), vs = [.int n, .int o, .ref a] ∧ ArgsAt K H a args ∧ (bodyOf args).length < 60000 ∧ args.length < 60000 ∧
  (encBad n o args → ∀ H', Same H H' → E (.ref B) none H') ∧ (¬ encBad n o args → encLong args → ∀ H', Same H H' → E (.ref L) none H') ∧
  (¬ encBad n o args → ¬ encLong args → ∀ p H', NewL H H' p ((msgOcts n o (bodyOf args)).map V.int) → Q (.ref p) H')
theorem sc_encode_message : FnScope ["number", "opcode", "arguments", "body", "kind", "value", "size"] ["number", "opcode", "arguments"] (defScope s_encode_message) := ⟨rfl, rfl, rfl, by decide +kernel, rfl, by decide +kernel, by decide +kernel⟩
theorem ok_encode_message (T : Txt K mg A) : FnOk P w K mg base (L2.CX P w) 7 A.fencode_message A.dencode_message ["number", "opcode", "arguments"] (sp_encode_message K A.CBadMessage A.CMessageTooLong) := by
  refine T.Fencode_message.okX sc_encode_message (fun vs H Q E h => ?_) (fun cdv Ar outer s H vs Q E hr h => ?_)
  · obtain ⟨n, o, a, args, rfl, _⟩ := h
    rfl
  · obtain ⟨n, o, a, args, rfl, hA, hb, hl, qb, ql, q⟩ := h
    obtain ⟨xs, hS, hxl, hx⟩ := hA.ex
    refine ⟨_, (pss_cons (ps_if (pt_not (pt_val (pe_call (ok_is_integer T) (hr.mono (by decide)) rfl T.gis_integer T.kis_integer T.bis_integer .nil pass0 (pa_cons (pv 0) (pa_cons pe_int (pa_cons (pe_glob (v := .int (4294967295)) rfl T.gGREATEST_NUMBER ⟨_, rfl⟩) pa_nil))))))
      (pss_one (ps_raise rfl (takes_of rfl rfl rfl rfl) (pmk_own PySem.F.excBase_ValueError T.xBadMessage T.gBadMessage T.kBadMessage (raises_own T.bxBadMessage T.txBadMessage) rfl)))
      pss_nil)
      (pss_cons (ps_if (pt_not (pt_val (pe_call (ok_is_integer T) (hr.mono (by decide)) rfl T.gis_integer T.kis_integer T.bis_integer .nil pass0 (pa_cons (pv 1) (pa_cons pe_int (pa_cons (pe_glob (v := .int (65535)) rfl T.gGREATEST_OPCODE ⟨_, rfl⟩) pa_nil))))))
      (pss_one (ps_raise rfl (takes_of rfl rfl rfl rfl) (pmk_own PySem.F.excBase_ValueError T.xBadMessage T.gBadMessage T.kBadMessage (raises_own T.bxBadMessage T.txBadMessage) rfl)))
      pss_nil)
      (pss_cons (ps_if (pt_cmpR op_gt (pe_callB call_len_seq (by rfl) T.len PySem.boot_len (pa_cons (pv 2) pa_nil)) (pe_glob (v := .int (20)) rfl T.gMOST_ARGUMENTS ⟨_, rfl⟩) (nomark _))
      (pss_one (ps_raise rfl (takes_of rfl rfl rfl rfl) (pmk_own PySem.F.excBase_ValueError T.xBadMessage T.gBadMessage T.kBadMessage (raises_own T.bxBadMessage T.txBadMessage) rfl)))
      pss_nil)
      (pss_cons (ps_set (i := 3) sc_encode_message.nd rfl (Or.inl rfl) (pe_lst pa_nil))
      (pss_cons (ps_for (passes_of rfl) rfl (pi_list (pv 2)) (pg_tup rfl (pgs_cons (pg_name (i := 4) sc_encode_message.nd rfl (Or.inl rfl)) (pgs_cons (pg_name (i := 5) sc_encode_message.nd rfl (Or.inl rfl)) pgs_nil)))
      (pss_one (ps_expr (pe_bm PySem.F.plainAttrs_list PySem.F.slot_list_extend PySem.F.type_list_extend mt_extend (pv 3) (pa_cons (pe_call (ok_field_octets T) (hr.mono (by decide)) rfl T.gfield_octets T.kfield_octets T.bfield_octets .nil (passes_call (takes_of rfl rfl rfl rfl) (fun _ _ _ _ h => h)) (pa_cons (pv 4) (pa_cons (pv 5) pa_nil))) pa_nil)))))
      (pss_cons (ps_set (i := 6) sc_encode_message.nd rfl (Or.inl rfl) (pe_op op_add (pe_glob (v := .int (8)) rfl T.gHEADER_SIZE ⟨_, rfl⟩) (pe_callB call_len_seq (by rfl) T.len PySem.boot_len (pa_cons (pv 3) pa_nil))))
      (pss_cons (ps_if (pt_cmpR op_gt (pv 6) (pe_glob (v := .int (20480)) rfl T.gGREATEST_SIZE ⟨_, rfl⟩) (nomark _))
      (pss_one (ps_raise rfl (takes_of rfl rfl rfl rfl) (pmk_own PySem.F.excBase_ValueError T.xMessageTooLong T.gMessageTooLong T.kMessageTooLong (raises_own T.bxMessageTooLong T.txMessageTooLong) rfl)))
      pss_nil)
      (pss_one (ps_ret (pe_op op_cat (pe_op op_cat (pe_op op_cat (pe_call (ok_number_octets T) (hr.mono (by decide)) rfl T.gnumber_octets T.knumber_octets T.bnumber_octets .nil pass0 (pa_cons (pv 0) (pa_cons pe_int pa_nil))) (pe_call (ok_number_octets T) (hr.mono (by decide)) rfl T.gnumber_octets T.knumber_octets T.bnumber_octets .nil pass0 (pa_cons (pv 1) (pa_cons pe_int pa_nil)))) (pe_call (ok_number_octets T) (hr.mono (by decide)) rfl T.gnumber_octets T.knumber_octets T.bnumber_octets .nil pass0 (pa_cons (pv 6) (pa_cons pe_int pa_nil)))) (pv 3))))))))))), ?_⟩
    refine ⟨_, rfl, n, 1, 4294967295, rfl, _, rfl, iteN (fun c => qb (Or.inl c) H (Same.refl H)) (fun c1 => ?_)⟩
    refine ⟨_, rfl, o, 0, 65535, rfl, _, rfl, iteN (fun c => qb (Or.inr (Or.inl c)) H (Same.refl H)) (fun c2 => ?_)⟩
    refine ⟨_, rfl, a, _, rfl, .inl hS, _, _, rfl, rfl, _, rfl, iteP (fun c => qb (Or.inr (Or.inr (by omega))) H (Same.refl H)) (fun c3 => ?_)⟩
    have nb : ¬ encBad n o args := fun z => by
      rcases z with z | z | z
      · exact z c1
      · exact z c2
      · omega
    refine ⟨by decide, fun p hp => ?_⟩
    refine ⟨_, rfl, a, rfl, ⟨_, (same_upd hp).seq hS⟩, for_list (K := K) (a := a) (xs := xs) (fun i σ H' => ∃ v4 v5 : Option V, σ = [some (.int n), some (.int o), some (.ref a), some (.ref p), v4, v5, none] ∧ Same H H' ∧ H' p = some (.lst ((bodyOf (args.take i)).map V.int)))
      ⟨_, _, rfl, same_upd hp, upd_same⟩ (fun i σ H' _ ⟨_, _, _, s, _⟩ => s.seq hS) ?_ ?_⟩
    · rintro i x σ H1 hi ⟨v4, v5, rfl, s1, e1⟩
      obtain ⟨g, t, v, hg, rfl, ht, hv⟩ := hx i x hi
      refine ⟨t, _, rfl, s1.sqt ht, rfl, _, _, rfl, _, _, rfl, rfl, ?_⟩
      refine ⟨_, rfl, .inl ⟨rfl, _, SqL.of e1⟩, ?_⟩
      refine ⟨_, rfl, _, rfl, g.kind, v, g.val, true, g.os, rfl, hA.ok g (List.mem_of_getElem? hg), hv.to s1, fun _ p2 H2 n2 => ?_, fun z => nomatch z⟩
      have e2 := n2.same _ _ e1
      have hbt := body_take hg
      have hbl := body_le args (i + 1)
      rw [hbt, List.length_append] at hbl
      refine ⟨p, p2, _, _, rfl, rfl, e2, n2.at_, ?_, ?_⟩
      · rw [List.length_map, List.length_map]; exact len_line (by omega)
      refine ⟨_, _, rfl, fun b u e => ?_, ?_⟩
      · rw [upd_ne (ne_of_none e hp)]; exact n2.same _ _ (s1 b u e)
      · rw [upd_same, hbt, List.map_append]
    · rintro σ H1 ⟨v4, v5, rfl, s1, e1⟩
      rw [hxl, List.take_length] at e1
      refine ⟨_, rfl, p, _, rfl, .inl (SqL.of e1), _, _, rfl, rfl, ?_⟩
      rw [List.length_map]
      have ec : (8 : Int) + ((bodyOf args).length : Int) = ((8 + (bodyOf args).length : Nat) : Int) := by omega
      refine ⟨_, rfl, _, _, rfl, rfl, _, rfl, iteP (fun c => ?_) (fun c => ?_)⟩
      · exact ql nb (by show 20480 < _; have : (20480 : Int) < 8 + ((bodyOf args).length : Int) := c; omega) H1 s1
      have nl : ¬ encLong args := fun z => c (by show (20480 : Int) < 8 + ((bodyOf args).length : Int); have : 20480 < 8 + (bodyOf args).length := z; omega)
      refine ⟨_, rfl, n, 4, rfl, by omega, by decide, fun p2 H2 h2 s2 e2 => ?_⟩
      refine ⟨_, rfl, o, 2, rfl, by omega, by decide, fun p3 H3 h3 s3 e3 => ?_⟩
      refine ⟨p2, p3, _, _, rfl, rfl, s3 _ _ e2, e3, ?_, fun p4 h4 => ?_⟩
      · rw [List.length_map, List.length_map, octs_len, octs_len]; exact len_line (by decide)
      refine ⟨_, rfl, ((8 + (bodyOf args).length : Nat) : Int), 2, ?_, by omega, by decide, fun p5 H5 h5 s5 e5 => ?_⟩
      · exact congrArg (fun z => [V.int z, V.int 2]) ec
      refine ⟨p4, p5, _, _, rfl, rfl, s5 _ _ upd_same, e5, ?_, fun p6 h6 => ?_⟩
      · rw [List.length_append, List.length_map, List.length_map, List.length_map, octs_len, octs_len, octs_len]; exact len_line (by decide)
      have e1' := same_upd (o := .lst ((octs n 4).map V.int ++ (octs o 2).map V.int ++ (octs ((8 + (bodyOf args).length : Nat) : Int) 2).map V.int)) h6 _ _ (s5 _ _ (same_upd (o := .lst ((octs n 4).map V.int ++ (octs o 2).map V.int)) h4 _ _ (s3 _ _ (s2 _ _ e1))))
      refine ⟨_, rfl, p6, p, _, _, rfl, rfl, upd_same, e1', ?_, fun p7 h7 => q nb nl p7 _ ⟨?_, ?_, ?_⟩⟩
      · rw [List.length_append, List.length_append, List.length_map, List.length_map, List.length_map, List.length_map, octs_len, octs_len, octs_len]; exact len_line (by omega)
      · exact s1.free (s2.free (s3.free ((same_upd h4).free (s5.free ((same_upd h6).free h7)))))
      · exact s1.trans (s2.trans (s3.trans ((same_upd h4).trans (s5.trans ((same_upd h6).trans (same_upd h7))))))
      · rw [upd_same]
        unfold msgOcts
        rw [List.map_append, List.map_append, List.map_append]
/-! ### a rule: a walk of zip of a tuple and a list -/
section
open PySem.Spec PyProof.Rows
def ItzM (K : PySem.W.Frag) (a b : Addr) : It :=
  ⟨fun i H => ∃ (xs ys : List V) (x y : V), SqT K H a xs ∧ SqL K H b ys ∧ xs[i]? = some x ∧ ys[i]? = some y,
    fun i H v H' => ∃ T x y, v = .ref T ∧ H T = none ∧ H' = upd H T (.tup [x, y]) ∧ (∀ xs, SqT K H a xs → xs[i]? = some x) ∧ ∀ ys, SqL K H b ys → ys[i]? = some y,
    fun i H => ∃ xs ys : List V, SqT K H a xs ∧ SqL K H b ys ∧ i ≤ xs.length ∧ i ≤ ys.length ∧ (i = xs.length ∨ i = ys.length)⟩
theorem sepM {z TI TO i1 i2 a b : Addr} (D : ZipApart z TI TO i1 i2 a b) : ZipSep2 z TI TO i1 i2 [i1, a] [i2, b] where
  TIz := D.TIz
  TOz := D.TOz
  TITO := D.TITO
  TIi1 := D.TIi1
  mem1 := by simp
  zf1 := by simp only [List.mem_cons, List.not_mem_nil, or_false]; exact fun h => h.elim D.i1z.symm D.l1z.symm
  Tf1 := by simp only [List.mem_cons, List.not_mem_nil, or_false]; exact fun h => h.elim D.TOi1 D.l1TO.symm
  TIi2 := D.TIi2
  mem2 := by simp
  zf2 := by simp only [List.mem_cons, List.not_mem_nil, or_false]; exact fun h => h.elim D.i2z.symm D.l2z.symm
  Tf2 := by simp only [List.mem_cons, List.not_mem_nil, or_false]; exact fun h => h.elim D.TOi2 D.l2TO.symm
  sep1_2 := by simp only [List.mem_cons, List.not_mem_nil, or_false]; exact fun h => h.elim D.i12 D.l2i1.symm
  sep2_1 := by simp only [List.mem_cons, List.not_mem_nil, or_false]; exact fun h => h.elim D.i12.symm D.l1i2.symm
theorem turn_zipM {P : Program} {w : World} {K : PySem.W.Frag} {elts : List Expr} {kk : Nat} {tpos : Pos} {a b z TI TO i1 i2 : Addr} (D : ZipApart z TI TO i1 i2 a b) :
    Turn P w K (.Tuple elts kk tpos) (ItzM K a b) [z, TI, TO, i1, i2] z (fun i h => IsZip h z TI TO .none ∧ IsTupOf2 h TI (.ref i1) (.ref i2) ∧ (∃ x y, IsTupOf2 h TO x y) ∧ h.IsTupleIter i1 a i ∧ h.IsListIter i2 b i) where
  mem := by simp
  obj := fun i h st c hc => by
    obtain ⟨hz, hTI, ⟨x, y, hTO⟩, ⟨o1, e1, _, d1⟩, ⟨o2, e2, _, d2⟩⟩ := st
    simp only [List.mem_cons, List.not_mem_nil, or_false] at hc
    rcases hc with rfl | rfl | rfl | rfl | rfl
    · exact ⟨_, hz, fun v q => nomatch q⟩
    · exact ⟨_, hTI, fun v q => nomatch q⟩
    · exact ⟨_, hTO, fun v q => nomatch q⟩
    · exact ⟨o1, e1, fun v q => by rw [d1] at q; cases q⟩
    · exact ⟨o2, e2, fun v q => by rw [d2] at q; cases q⟩
  keep := fun i h h' st k => by
    obtain ⟨hz, hTI, ⟨x, y, hTO⟩, h1, h2⟩ := st
    exact ⟨k z (by simp) _ hz, k TI (by simp) _ hTI, ⟨x, y, k TO (by simp) _ hTO⟩, h1.at fun o q => k i1 (by simp) o q, h2.at fun o q => k i2 (by simp) o q⟩
  item := by
    intro X hP hw hK hc i pins s σ H E I hf st hg
    subst hP hw hK
    obtain ⟨hz, hTI, ⟨x0, y0, hTO⟩, h1, h2⟩ := st
    obtain ⟨xs, ys, x, y, hqx, hqy, hx, hy⟩ := hg
    obtain ⟨its, rv, p, _⟩ := I.tuple hqx
    obtain ⟨its2, rv2, p2, _⟩ := I.list hqy
    obtain ⟨u, hu, ru⟩ := rv.get hx
    obtain ⟨u2, hu2, ru2⟩ := rv2.get hy
    have hzl : z < s.heap.objs.size := Heap.lt_size hz
    have hh : X.A.handled = none := I.ok.hd hc
    have g1 : its.toArray[i]? = some u := by simpa using hu
    have g2 : its2.toArray[i]? = some u2 := by simpa using hu2
    refine wpAny_pyNext_zipD2_item (sepM D) (Draws.tuple (A := X.A.in1) hh i1 a D.l1i1 its.toArray) (Draws.list (A := X.A.in1) hh i2 b D.l2i2 its2.toArray) hz hTI hTO ⟨h1, p⟩ ⟨h2, p2.isList⟩
      (Array.getElem?_eq_some_iff.mp g1).1 (Array.getElem?_eq_some_iff.mp g2).1 fun x1 x2 h' tk e1 e2 z' TO' h1' h2' hT hsz hk => ?_
    obtain rfl : u = x1 := Option.some.inj (g1.symm.trans e1)
    obtain rfl : u2 = x2 := Option.some.inj (g2.symm.trans e2)
    refine ⟨_, rfl, wpAny_letOwnedTupleGo_zip (s := { s with heap := h', toks := tk }) z' fun h'' z'' sb => ?_⟩
    have hT2 : h''.get? s.heap.objs.size = some { cls := .type "tuple", data := .seq #[u, u2] } := (sb.2 _ (Nat.ne_of_gt hzl)).trans hT
    have new : ObjOk X.prog X.w (upd H s.heap.objs.size (.tup [x, y])) h'' s.heap.objs.size (.tup [x, y]) :=
      ⟨by show 2 ≤ sizeLine; decide, [u, u2], .cons ru (.cons ru2 .nil), ⟨_, hT2, rfl, _, rfl⟩⟩
    have I1 : Inv X pins σ (upd H s.heap.objs.size (.tup [x, y])) { s with heap := h'', toks := tk } :=
      I.turnedNew (t' := tk) (ch := [z, TI, TO, i1, i2]) (fun c o hb q => by
        simp only [List.mem_cons, List.not_mem_nil, or_false, not_or] at hb
        exact (sb.2 c hb.1).trans (hk c o hb.1 hb.2.2.1 hb.2.2.2.1 hb.2.2.2.2 q)) hf (Nat.le_refl _) new
    refine ⟨.ref s.heap.objs.size, _, I1, rfl, ⟨_, x, y, rfl, I.hok.fresh (Nat.le_refl _), rfl, fun l hl => by rw [I.tuple_inj hl hqx]; exact hx, fun l hl => by rw [I.list_inj hl hqy]; exact hy⟩, ⟨z'', ?_, ⟨u, u2, ?_⟩, ?_, ?_⟩, fun c hcm => ?_⟩
    · exact (sb.2 _ D.TIz).trans (hk _ _ D.TIz D.TITO D.TIi1 D.TIi2 hTI)
    · exact (sb.2 _ D.TOz).trans TO'
    · exact h1'.1.at fun o q => (sb.2 _ D.i1z).trans q
    · exact h2'.1.at fun o q => (sb.2 _ D.i2z).trans q
    · have hlt : c < s.heap.objs.size := by
        simp only [List.mem_cons, List.not_mem_nil, or_false] at hcm
        obtain ⟨_, e1, _⟩ := h1
        obtain ⟨_, e2, _⟩ := h2
        rcases hcm with rfl | rfl | rfl | rfl | rfl
        · exact hzl
        · exact Heap.lt_size hTI
        · exact Heap.lt_size hTO
        · exact Heap.lt_size e1
        · exact Heap.lt_size e2
      rw [upd_ne (Nat.ne_of_lt hlt)]
      exact (hf c hcm).1
  done := by
    intro X hP hw hK hc i pins s σ H E I hf st hg
    subst hP hw hK
    obtain ⟨hz, hTI, ⟨x0, y0, hTO⟩, h1, h2⟩ := st
    obtain ⟨xs, ys, hqx, hqy, l1, l2, hend⟩ := hg
    obtain ⟨its, rv, p, _⟩ := I.tuple hqx
    obtain ⟨its2, rv2, p2, _⟩ := I.list hqy
    have n1 : its.toArray.size = xs.length := by rw [List.size_toArray]; exact rv.length.symm
    have n2 : its2.toArray.size = ys.length := by rw [List.size_toArray]; exact rv2.length.symm
    have hh : X.A.handled = none := I.ok.hd hc
    exact wpAny_pyNext_zipD2_end (sepM D) (Draws.tuple (A := X.A.in1) hh i1 a D.l1i1 its.toArray) (Draws.list (A := X.A.in1) hh i2 b D.l2i2 its2.toArray) hz hTI hTO ⟨h1, p⟩ ⟨h2, p2.isList⟩ (by omega) (by omega) (by omega) fun h' tk hk =>
      ⟨rfl, I.turnedL (t' := tk) (ch := [z, TI, TO, i1, i2]) (fun c o hb q => by
        simp only [List.mem_cons, List.not_mem_nil, or_false, not_or] at hb
        exact hk c o hb.1 hb.2.2.1 hb.2.2.2.1 hb.2.2.2.2 q) hf⟩
  self := fun A i s Q E st h => wpAny_pyIter_zip st.1 h
def iZipM (K : PySem.W.Frag) (ta : TA) : TI := fun σ H R => ta σ H fun vs H1 => ∃ a b xs ys, vs = [.ref a, .ref b] ∧ SqT K H1 a xs ∧ SqL K H1 b ys ∧ R (ItzM K a b) H1
theorem pi_zipM {X : Cx} {e e2 : Expr} {ta : TA} {p pos tpos : Pos} {elts : List Expr} {kk : Nat} (hg : Gl X "zip") (hm : X.mg "zip" = none) (ha : PA X [e, e2] ta)
    (hs : starEach [e, e2] X.env = (false, eval e X.env) :: starEach [e2] X.env := by rfl) (hpl : (backTo pos (starEach [e2] X.env)).any (·.1) = false := by rfl) :
    PI X (.Tuple elts kk tpos) (.Call (.Name "zip" p) [e, e2] [] pos) (iZipM X.K ta) := by
  refine ⟨fun pins s σ H R I h => ?_⟩
  refine Call_ (ld_blt I hg hm PyProof.Rows.boot_zip (PyProof.Rows.callWith_type1 (thn (ha.run pos pins s σ H _ I h) fun us s1 ⟨vs, H1, I1, r1, q1⟩ => ?_) hs hpl))
  obtain ⟨a, b, xs, ys, ex, hqx, hqy, q⟩ := q1
  subst ex
  obtain ⟨u, u2, rfl, r, r2⟩ : ∃ u u2, us = [u, u2] ∧ RelV (.ref a) u ∧ RelV (.ref b) u2 := by
    cases r1 with
    | cons r rr => cases rr with
      | cons r' rr => cases rr; exact ⟨_, _, rfl, r, r'⟩
  obtain rfl : u = Value.ref a := r
  obtain rfl : u2 = Value.ref b := r2
  obtain ⟨its, rv, p1, _⟩ := I1.tuple hqx
  obtain ⟨its2, rv2, p2, _⟩ := I1.list hqy
  obtain ⟨o1, ho1, _⟩ := id p1
  refine zip_begins2 (begins_tuple a its.toArray) (begins_list b its2.toArray) p1 p2.isList fun h' hz hTI hTO h1 h2 hsz hk => wpAny_pyIter_zip hz ?_
  have I2 : Inv X pins σ H1 { s1 with heap := h' } := I1.kept (t' := s1.toks) hk
  refine ⟨s1.heap.objs.size + 4, [s1.heap.objs.size + 4, s1.heap.objs.size + 2, s1.heap.objs.size + 3, s1.heap.objs.size, s1.heap.objs.size + 1], _, _, H1, rfl, I2, turn_zipM (PySem.W.ktu_apart s1.heap.objs.size a b (Heap.lt_size ho1) p2.lt), ⟨hz, hTI, ⟨_, _, hTO⟩, ⟨_, h1, rfl, rfl⟩, ⟨_, h2, rfl, rfl⟩⟩, fun c hcm => ?_, q⟩
  have hle : s1.heap.objs.size ≤ c := by
    simp only [List.mem_cons, List.not_mem_nil, or_false] at hcm
    rcases hcm with rfl | rfl | rfl | rfl | rfl
    · exact Nat.le_add_right _ _
    · exact Nat.le_add_right _ _
    · exact Nat.le_add_right _ _
    · exact Nat.le_refl _
    · exact Nat.le_add_right _ _
  exact I1.fpOk hle (I1.hok.fresh hle)
end
/-! ### a rule: list(zip(a, b)) of any two iterators: the pairs are kept -/
section
open PySem.Spec PyProof.Rows
section
variable {prog : Program} {w : World} {A : Around} {E : Value → Shared → Prop} {s : Shared} {z TI TO i1 i2 T : Addr} {fp1 fp2 : List Addr} {n1 n2 i : Nat} {P1 P2 : Nat → Value → Prop} {St1 St2 : Nat → Heap → Prop} {f : Bool} {oT : Obj}
theorem heldD_item {Q : Value → Shared → Prop} (S : ZipSep2 z TI TO i1 i2 fp1 fp2) (D1 : Draws prog w A i1 fp1 n1 P1 St1) (D2 : Draws prog w A i2 fp2 n2 P2 St2)
    (hz : IsZipHeld s.heap z TI TO T f) (hT : s.heap.get? T = some oT) (hTI : IsTupOf2 s.heap TI (.ref i1) (.ref i2)) (st1 : St1 i s.heap) (st2 : St2 i s.heap) (hlt1 : i < n1) (hlt2 : i < n2)
    (hQ : ∀ x1 x2 h' tk, P1 i x1 → P2 i x2 → IsZipHeld h' z TI TO T true → St1 (i + 1) h' → St2 (i + 1) h' → IsTupOf2 h' s.heap.objs.size x1 x2 →
      (∀ c o, c ≠ z → c ≠ i1 → c ≠ i2 → s.heap.get? c = some o → h'.get? c = some o) → Q (.ref s.heap.objs.size) { s with heap := h', toks := tk }) :
    wpAny (model prog w) A (Builtin.«zip.__next__» ⟨[.ref z], []⟩) (fun fin s' => ∃ v, fin = .done (.ret v) ∧ Q v s') E s := by
  obtain ⟨hp, g, d, tk0, os⟩ := s
  show wpAny _ _ (field (.ref z) 2 >>= _) _ _ _
  refine wpAny_bind (wpAny_field hz rfl (x := .bool false) rfl ?_)
  show wpAny _ _ (field (.ref z) 3 >>= _) _ _ _
  refine wpAny_bind (wpAny_field hz rfl (x := .ref TI) rfl ?_)
  refine wpAny_bind (wpAny_seqItems hTI rfl ?_)
  show wpAny _ _ (Builtin.SmallTypes.ownedTupleIsFree (.ref z) >>= _) _ _ _
  refine wpAny_bind (wpAny_tupleHeld_zip hz hT fun g0 hz0 hs0 => ?_)
  replace hs0 : Heap.SameBut z hp g0 := hs0
  simp only [Bool.false_eq_true, if_false]
  refine wpAny_bind ?_
  rw [← Array.forIn_toList]
  simp only [List.forIn_cons, List.forIn_nil]
  refine wpAny_bind (wpAny_bind (wpAny_holding ?_))
  show wpAny _ _ (Builtin.SmallTypes.nextOf (.ref i1) >>= _) _ _ ⟨g0, g, d, tk0, os⟩
  refine wpAny_bind (D1.item i _ _ _ hlt1 (D1.over st1 hs0 S.zf1) fun x1 p1 tk1 hx1 sn1 hp1 => wpAny_pure ?_)
  replace hp1 : Heap.SameBut i1 g0 p1 := hp1
  refine wpAny_pure ?_
  refine wpAny_bind (wpAny_bind (wpAny_holding ?_))
  show wpAny _ _ (Builtin.SmallTypes.nextOf (.ref i2) >>= _) _ _ ⟨p1, g, d, tk1, os⟩
  refine wpAny_bind (D2.item i _ _ _ hlt2 (D2.over (D2.over st2 hs0 S.zf2) hp1 S.sep1_2) fun x2 p2 tk2 hx2 sn2 hp2 => wpAny_pure ?_)
  replace hp2 : Heap.SameBut i2 p1 p2 := hp2
  refine wpAny_pure (wpAny_pure ?_)
  show wpAny _ _ (newTuple [x1, x2] >>= _) _ _ _
  refine wpAny_bind (wpAny_newTuple ?_)
  have hsz : p2.objs.size = hp.objs.size := by rw [hp2.1, hp1.1, hs0.1]
  have hz2 : IsZipHeld p2 z TI TO T true := hp2.extBut _ _ S.zi2 (hp1.extBut _ _ S.zi1 hz0)
  have hk : ∀ c o, c ≠ z → c ≠ i1 → c ≠ i2 → hp.get? c = some o → p2.get? c = some o := fun c o c0 c1 c2 e => hp2.extBut _ _ c2 (hp1.extBut _ _ c1 (hs0.extBut _ _ c0 e))
  have hj1 : St1 (i + 1) p2 := D1.over sn1 hp2 S.sep2_1
  have up : ∀ c o, p2.get? c = some o → (p2.push { cls := .type "tuple", data := .seq #[x1, x2] }).get? c = some o := fun c o e => Heap.get?_push_of_some _ e
  have hN : IsTupOf2 (p2.push { cls := .type "tuple", data := .seq #[x1, x2] }) p2.objs.size x1 x2 := Heap.get?_push_size _ rfl
  refine wpAny_pure ⟨_, rfl, ?_⟩
  show Q (.ref p2.objs.size) _
  rw [hsz] at hN ⊢
  exact hQ x1 x2 _ tk2 hx1 hx2 (up _ _ hz2) (D1.frame _ _ _ hj1 fun b _ o e => up b o e) (D2.frame _ _ _ sn2 fun b _ o e => up b o e) hN fun c o c0 c1 c2 e => up c o (hk c o c0 c1 c2 e)
theorem heldD_end {Q : Fin → Shared → Prop} (S : ZipSep2 z TI TO i1 i2 fp1 fp2) (D1 : Draws prog w A i1 fp1 n1 P1 St1) (D2 : Draws prog w A i2 fp2 n2 P2 St2)
    (hz : IsZipHeld s.heap z TI TO T f) (hT : s.heap.get? T = some oT) (hTI : IsTupOf2 s.heap TI (.ref i1) (.ref i2)) (st1 : St1 i s.heap) (st2 : St2 i s.heap) (hi : i = n1)
    (hE : ∀ h' e, (∀ c o, c ≠ z → c ≠ i1 → s.heap.get? c = some o → h'.get? c = some o) → (∃ o, h'.get? e = some o ∧ o.cls = .type "StopIteration") → E (.ref e) { s with heap := h' }) :
    wpAny (model prog w) A (Builtin.«zip.__next__» ⟨[.ref z], []⟩) Q E s := by
  subst hi
  show wpAny _ _ (field (.ref z) 2 >>= _) _ _ _
  refine wpAny_bind (wpAny_field hz rfl (x := .bool false) rfl ?_)
  show wpAny _ _ (field (.ref z) 3 >>= _) _ _ _
  refine wpAny_bind (wpAny_field hz rfl (x := .ref TI) rfl ?_)
  refine wpAny_bind (wpAny_seqItems hTI rfl ?_)
  show wpAny _ _ (Builtin.SmallTypes.ownedTupleIsFree (.ref z) >>= _) _ _ _
  refine wpAny_bind (wpAny_tupleHeld_zip hz hT fun g0 hz0 hs0 => ?_)
  simp only [Bool.false_eq_true, if_false]
  refine wpAny_bind ?_
  rw [← Array.forIn_toList]
  simp only [List.forIn_cons, List.forIn_nil]
  refine wpAny_bind (wpAny_bind (wpAny_holding ?_))
  show wpAny _ _ (Builtin.SmallTypes.nextOf (.ref i1) >>= _) _ _ _
  refine wpAny_bind (D1.done _ _ _ (D1.over st1 hs0 S.zf1) fun h2 e hs2 he => ?_)
  exact hE h2 e (fun c o c0 c1 x => hs2 _ _ c1 (hs0.extBut _ _ c0 x)) he
theorem heldD_next {Q : Option Value → Shared → Prop} (S : ZipSep2 z TI TO i1 i2 fp1 fp2) (D1 : Draws prog w A.in1 i1 fp1 n1 P1 St1) (D2 : Draws prog w A.in1 i2 fp2 n2 P2 St2)
    (hz : IsZipHeld s.heap z TI TO T f) (hT : s.heap.get? T = some oT) (hTI : IsTupOf2 s.heap TI (.ref i1) (.ref i2)) (st1 : St1 i s.heap) (st2 : St2 i s.heap) (hlt1 : i < n1) (hlt2 : i < n2)
    (hQ : ∀ x1 x2 h' tk, P1 i x1 → P2 i x2 → IsZipHeld h' z TI TO T true → St1 (i + 1) h' → St2 (i + 1) h' → IsTupOf2 h' s.heap.objs.size x1 x2 →
      (∀ c o, c ≠ z → c ≠ i1 → c ≠ i2 → s.heap.get? c = some o → h'.get? c = some o) → Q (some (.ref s.heap.objs.size)) { s with heap := h', toks := tk }) :
    wpAny (model prog w) A (pyNext (.ref z)) Q E s := by
  have hTy : s.TypeIs (.ref z) "zip" := ⟨_, hz, rfl⟩
  unfold pyNext
  exact wpAny_bind (wpAny_attempt (wpAny_callSpecial?_slot (name := Str.ofString "__next__") hTy F.slot_zip_next
    (wpAny_call_entry F.slot_zip_next hTy F.entry_zip_next
      (heldD_item S D1 D2 hz hT hTI st1 st2 hlt1 hlt2 fun x1 x2 h' tk a1 a2 a3 a4 a5 a6 a7 => wpAny_pure (hQ x1 x2 h' tk a1 a2 a3 a4 a5 a6 a7)) (F.args_zip_next_1 _))))
theorem heldD_stop {Q : Option Value → Shared → Prop} (S : ZipSep2 z TI TO i1 i2 fp1 fp2) (D1 : Draws prog w A.in1 i1 fp1 n1 P1 St1) (D2 : Draws prog w A.in1 i2 fp2 n2 P2 St2)
    (hz : IsZipHeld s.heap z TI TO T f) (hT : s.heap.get? T = some oT) (hTI : IsTupOf2 s.heap TI (.ref i1) (.ref i2)) (st1 : St1 i s.heap) (st2 : St2 i s.heap) (hi : i = n1)
    (hQ : ∀ h', (∀ c o, c ≠ z → c ≠ i1 → s.heap.get? c = some o → h'.get? c = some o) → Q none { s with heap := h' }) :
    wpAny (model prog w) A (pyNext (.ref z)) Q E s := by
  have hTy : s.TypeIs (.ref z) "zip" := ⟨_, hz, rfl⟩
  unfold pyNext
  refine wpAny_bind (wpAny_attempt (wpAny_callSpecial?_slot (name := Str.ofString "__next__") hTy F.slot_zip_next
    (wpAny_call_entry F.slot_zip_next hTy F.entry_zip_next (heldD_end S D1 D2 hz hT hTI st1 st2 hi fun h' e hk he => ?_) (F.args_zip_next_1 _))))
  obtain ⟨o, ho, hc⟩ := he
  refine wpAny_bind (wpAny_isInstance (T := "StopIteration") (b := true) ⟨o, ho, hc⟩ isSubtype_stop ?_)
  exact wpAny_pure (hQ _ hk)
end
section
variable {X : Cx} {pins : List (Addr × Obj)} {σ : L2.St} {z TI TO i1 i2 a b S : Addr} {xs ys : List V} {H0 : Hp}
structure LpE (X : Cx) (pins : List (Addr × Obj)) (σ : L2.St) (S : Addr) (xs ys : List V) (H0 : Hp) (i : Nat) (Ts : List Addr) (H : Hp) (s : Shared) (c : Nat) : Prop where
  inv : Inv X pins σ H s
  same : Same H0 H
  len : Ts.length = i
  tup : ∀ (j : Nat) (t : Addr), Ts[j]? = some t → ∃ x y, xs[j]? = some x ∧ ys[j]? = some y ∧ H t = some (.tup [x, y]) ∧ H0 t = none
  lst : s.heap.get? S = some { cls := .type "list", dict := none, data := .seq (Ts.map Value.ref).toArray c, slots := #[] }
  fpS : FpOk X pins H S
structure LpI (X : Cx) (pins : List (Addr × Obj)) (σ : L2.St) (z TI TO i1 i2 a b S : Addr) (xs ys : List V) (H0 : Hp) (i : Nat) (Ts : List Addr) (H : Hp) (s : Shared) (c : Nat) : Prop where
  e : LpE X pins σ S xs ys H0 i Ts H s c
  fp : ∀ c ∈ [z, TI, TO, i1, i2], FpOk X pins H c
  lt : ∀ c ∈ [z, TI, TO, i1, i2], c < s.heap.objs.size
  tie : IsTupOf2 s.heap TI (.ref i1) (.ref i2)
  it1 : s.heap.IsTupleIter i1 a i
  it2 : s.heap.IsListIter i2 b i
  zs : (IsZip s.heap z TI TO .none ∧ ∃ u v, IsTupOf2 s.heap TO u v) ∨ ∃ T f x y, IsZipHeld s.heap z TI TO T f ∧ H T = some (.tup [x, y])
theorem fpOk_upd {H : Hp} {T c : Addr} {o : HO} (h : FpOk X pins H c) (n : c ≠ T) : FpOk X pins (upd H T o) c := ⟨by rw [upd_ne n]; exact h.1, h.2⟩
theorem lp_push {H : Hp} {Ts : List Addr} {s : Shared} {c i tk : Nat} {x y : V} {u u2 : Value} {h' : Heap} {T : Addr} {f : Bool} (D : ZipApart z TI TO i1 i2 a b) (hS : S ∉ [z, TI, TO, i1, i2]) (L : LpI X pins σ z TI TO i1 i2 a b S xs ys H0 i Ts H s c)
    (hx : xs[i]? = some x) (hy : ys[i]? = some y) (ru : RelV x u) (ru2 : RelV y u2)
    (z' : IsZipHeld h' z TI TO T f) (hTT : ∃ x1 y1, upd H s.heap.objs.size (.tup [x, y]) T = some (.tup [x1, y1])) (j1 : h'.IsTupleIter i1 a (i + 1)) (j2 : h'.IsListIter i2 b (i + 1)) (hT : IsTupOf2 h' s.heap.objs.size u u2)
    (hk : ∀ c o, c ≠ z → c ≠ TO → c ≠ i1 → c ≠ i2 → s.heap.get? c = some o → h'.get? c = some o) :
    ∃ c', LpI X pins σ z TI TO i1 i2 a b S xs ys H0 (i + 1) (Ts ++ [s.heap.objs.size]) (upd H s.heap.objs.size (.tup [x, y])) { s with heap := h'.update S (Obj.mapSeq (·.push (.ref s.heap.objs.size))), toks := tk } c' := by
  simp only [List.mem_cons, List.not_mem_nil, or_false, not_or] at hS
  obtain ⟨sz, sTI, sTO, s1, s2⟩ := hS
  have fr : H s.heap.objs.size = none := L.e.inv.hok.fresh (Nat.le_refl _)
  have hS' := hk S _ sz sTO s1 s2 L.e.lst
  have e2 := Heap.get?_update_self (Obj.mapSeq (·.push (Value.ref s.heap.objs.size))) hS' rfl
  have oth : ∀ c o, c ≠ S → h'.get? c = some o → (h'.update S (Obj.mapSeq (·.push (Value.ref s.heap.objs.size)))).get? c = some o := fun c o n e => (Heap.get?_update_other _ _ (Ne.symm n)).trans e
  have nS : S ≠ s.heap.objs.size := Nat.ne_of_lt (Heap.lt_size L.e.lst)
  have nt : ∀ c u, H c = some u → c ≠ s.heap.objs.size := fun c u e n => by rw [n, fr] at e; cases e
  have hsz : s.heap.objs.size < (h'.update S (Obj.mapSeq (·.push (Value.ref s.heap.objs.size)))).objs.size := Heap.lt_size (oth _ _ nS.symm hT)
  have new : ObjOk X.prog X.w (upd H s.heap.objs.size (.tup [x, y])) (h'.update S (Obj.mapSeq (·.push (Value.ref s.heap.objs.size)))) s.heap.objs.size (.tup [x, y]) :=
    ⟨by show 2 ≤ sizeLine; decide, [u, u2], .cons ru (.cons ru2 .nil), ⟨_, oth _ _ nS.symm hT, rfl, _, rfl⟩⟩
  have I1 : Inv X pins σ (upd H s.heap.objs.size (.tup [x, y])) { s with heap := h'.update S (Obj.mapSeq (·.push (Value.ref s.heap.objs.size))), toks := tk } :=
    L.e.inv.turnedNew (t' := tk) (ch := [S, z, TI, TO, i1, i2]) (fun c o hb q => by
      simp only [List.mem_cons, List.not_mem_nil, or_false, not_or] at hb
      exact oth c o hb.1 (hk c o hb.2.1 hb.2.2.2.1 hb.2.2.2.2.1 hb.2.2.2.2.2 q)) (fun c hc => by
      rcases List.mem_cons.mp hc with rfl | hc
      · exact L.e.fpS
      · exact L.fp c hc) (Nat.le_refl _) new
  have ea : (List.map Value.ref (Ts ++ [s.heap.objs.size])).toArray = (List.map Value.ref Ts).toArray.push (.ref s.heap.objs.size) := by simp
  obtain ⟨c', e3⟩ : ∃ c', (h'.update S (Obj.mapSeq (·.push (Value.ref s.heap.objs.size)))).get? S = some { cls := .type "list", dict := none, data := .seq (List.map Value.ref (Ts ++ [s.heap.objs.size])).toArray c', slots := #[] } := ⟨_, by rw [ea]; exact e2⟩
  refine ⟨c', ⟨I1, fun c u e => ?_, ?_, fun j t hj => ?_, e3, fpOk_upd L.e.fpS nS⟩, fun c hc => fpOk_upd (L.fp c hc) (Nat.ne_of_lt (L.lt c hc)), fun c hc => Nat.lt_trans (L.lt c hc) hsz, oth _ _ (Ne.symm sTI) (hk _ _ D.TIz D.TITO D.TIi1 D.TIi2 L.tie), j1.at fun o e => oth _ o (Ne.symm s1) e, j2.at fun o e => oth _ o (Ne.symm s2) e, .inr ?_⟩
  · rw [upd_ne (nt _ _ (L.e.same c u e))]; exact L.e.same c u e
  · rw [List.length_append, L.e.len]; rfl
  · by_cases hlt : j < Ts.length
    · rw [List.getElem?_append_left hlt] at hj
      obtain ⟨x1, y1, e1, e2, e3, e4⟩ := L.e.tup j t hj
      exact ⟨x1, y1, e1, e2, by rw [upd_ne (nt _ _ e3)]; exact e3, e4⟩
    · rw [List.getElem?_append_right (by omega)] at hj
      have hj0 : j - Ts.length = 0 := by
        cases hd : j - Ts.length with
        | zero => rfl
        | succ m => rw [hd] at hj; cases hj
      rw [hj0] at hj
      injection hj with hj
      have hji : j = i := by have := L.e.len; omega
      rw [← hj, hji]
      refine ⟨x, y, hx, hy, upd_same, ?_⟩
      cases q : H0 s.heap.objs.size with
      | none => rfl
      | some o => have := L.e.same _ _ q; rw [fr] at this; cases this
  · obtain ⟨x1, y1, e⟩ := hTT
    exact ⟨T, f, x1, y1, oth _ _ (Ne.symm sz) z', e⟩
theorem lp_end {H : Hp} {Ts : List Addr} {s : Shared} {c i tk : Nat} {h' : Heap} (hS : S ∉ [z, TI, TO, i1, i2]) (L : LpI X pins σ z TI TO i1 i2 a b S xs ys H0 i Ts H s c)
    (hk : ∀ c o, c ≠ z → c ≠ TO → c ≠ i1 → c ≠ i2 → s.heap.get? c = some o → h'.get? c = some o) : LpE X pins σ S xs ys H0 i Ts H { s with heap := h', toks := tk } c := by
  simp only [List.mem_cons, List.not_mem_nil, or_false, not_or] at hS
  obtain ⟨sz, sTI, sTO, s1, s2⟩ := hS
  refine ⟨L.e.inv.turnedL (t' := tk) (ch := [z, TI, TO, i1, i2]) (fun c o hb q => ?_) L.fp, L.e.same, L.e.len, L.e.tup, hk S _ sz sTO s1 s2 L.e.lst, L.e.fpS⟩
  simp only [List.mem_cons, List.not_mem_nil, or_false, not_or] at hb
  exact hk c o hb.1 hb.2.2.1 hb.2.2.2.1 hb.2.2.2.2 q
theorem lp_loop {A : Around} {R : Result → Shared → Prop} (hh : A.handled = none) (D : ZipApart z TI TO i1 i2 a b) (hS : S ∉ [z, TI, TO, i1, i2]) (qx : SqT X.K H0 a xs) (qy : SqL X.K H0 b ys) (hl : xs.length = ys.length) (hz : xs.length ≤ 1000000) (res : Value) :
    ∀ (k i : Nat) (s : Shared) (H : Hp) (Ts : List Addr) (c : Nat), xs.length - i = k → i ≤ xs.length → LpI X pins σ z TI TO i1 i2 a b S xs ys H0 i Ts H s c →
    (∀ s' H' Ts' c', LpE X pins σ S xs ys H0 xs.length Ts' H' s' c' → R (.ok (.ret res)) s') →
    codeAny (model X.prog X.w) A (.builtin "list.extend.loop" ⟨[.ref S, .ref z, res], []⟩) R s := by
  intro k
  induction k with
  | zero =>
    intro i s H Ts c hk hi L hR
    have hin : i = xs.length := by omega
    subst hin
    obtain ⟨its, rv, p, _⟩ := L.e.inv.tuple (L.e.same.sqt qx)
    obtain ⟨its2, rv2, p2, _⟩ := L.e.inv.list (L.e.same.seq qy)
    have n1 : its.toArray.size = xs.length := by rw [List.size_toArray]; exact rv.length.symm
    have n2 : its2.toArray.size = ys.length := by rw [List.size_toArray]; exact rv2.length.symm
    refine codeAny_builtin F.entry_extend_loop ?_
    rw [Around.under_plainId F.plain_extend_loop _]
    show wpAny _ A.in1 (pyNext (.ref z) >>= _) _ _ s
    rcases L.zs with ⟨hz0, u, v, hTO⟩ | ⟨T, f, x0, y0, hz0, hT0⟩
    · exact wpAny_bind (wpAny_pyNext_zipD2_end (sepM D) (Draws.tuple (A := A.in1.in1) hh i1 a D.l1i1 its.toArray) (Draws.list (A := A.in1.in1) hh i2 b D.l2i2 its2.toArray) hz0 L.tie hTO ⟨L.it1, p⟩ ⟨L.it2, p2.isList⟩ (by omega) (by omega) (by omega) fun h' tk hk =>
        wpAny_pure (hR _ _ _ _ (lp_end hS L hk)))
    · obtain ⟨_, _, ⟨oT, hoT, _⟩, _⟩ := L.e.inv.tuple (SqT.of hT0)
      exact wpAny_bind (heldD_stop (sepM D) (Draws.tuple (A := A.in1.in1) hh i1 a D.l1i1 its.toArray) (Draws.list (A := A.in1.in1) hh i2 b D.l2i2 its2.toArray) hz0 hoT L.tie ⟨L.it1, p⟩ ⟨L.it2, p2.isList⟩ n1.symm fun h' hk =>
        wpAny_pure (hR _ _ _ _ (lp_end (tk := s.toks) hS L fun c o h0 _ h1 _ e => hk c o h0 h1 e)))
  | succ k ih =>
    intro i s H Ts c hk hi L hR
    have hlt : i < xs.length := by omega
    have hlt2 : i < ys.length := by omega
    obtain ⟨its, rv, p, _⟩ := L.e.inv.tuple (L.e.same.sqt qx)
    obtain ⟨its2, rv2, p2, _⟩ := L.e.inv.list (L.e.same.seq qy)
    have hx : xs[i]? = some xs[i] := List.getElem?_eq_getElem hlt
    have hy : ys[i]? = some ys[i] := List.getElem?_eq_getElem hlt2
    obtain ⟨u, hu, ru⟩ := rv.get hx
    obtain ⟨u2, hu2, ru2⟩ := rv2.get hy
    have g1 : its.toArray[i]? = some u := by simpa using hu
    have g2 : its2.toArray[i]? = some u2 := by simpa using hu2
    have hS2 := hS
    simp only [List.mem_cons, List.not_mem_nil, or_false, not_or] at hS2
    have hts := L.e.len
    refine codeAny_builtin F.entry_extend_loop ?_
    rw [Around.under_plainId F.plain_extend_loop _]
    show wpAny _ A.in1 (pyNext (.ref z) >>= _) _ _ s
    rcases L.zs with ⟨hz0, u0, v0, hTO⟩ | ⟨T, f, x0, y0, hz0, hT0⟩
    · refine wpAny_bind (wpAny_pyNext_zipD2_item (sepM D) (Draws.tuple (A := A.in1.in1) hh i1 a D.l1i1 its.toArray) (Draws.list (A := A.in1.in1) hh i2 b D.l2i2 its2.toArray) hz0 L.tie hTO ⟨L.it1, p⟩ ⟨L.it2, p2.isList⟩
        (Array.getElem?_eq_some_iff.mp g1).1 (Array.getElem?_eq_some_iff.mp g2).1 fun x1 x2 h' tk e1 e2 z' TO' h1' h2' hT hsz hk => ?_)
      obtain rfl : u = x1 := Option.some.inj (g1.symm.trans e1)
      obtain rfl : u2 = x2 := Option.some.inj (g2.symm.trans e2)
      obtain ⟨c', L2⟩ := lp_push (tk := tk) (f := false) D hS L hx hy ru ru2 z' ⟨_, _, upd_same⟩ h1'.1 h2'.1 hT hk
      have hS' := hk S _ hS2.1 hS2.2.2.1 hS2.2.2.2.1 hS2.2.2.2.2 L.e.lst
      show wpAny _ A.in1 (updateSeq S (·.push (.ref s.heap.objs.size)) >>= _) _ _ _
      refine wpAny_bind ?_
      refine wpAny_updateSeq (s := { s with heap := h', toks := tk }) hS' rfl (wpAny_pure ⟨plainId_quiet F.plain_extend_loop _, ih (i + 1) _ _ _ _ (by omega) hlt L2 hR⟩) ?_ ?_
      · simp only [List.size_toArray, List.length_map]; rw [sizeLine_eq]; omega
      · simp only [Array.size_push, List.size_toArray, List.length_map]; rw [sizeLine_eq]; omega
    · obtain ⟨_, _, ⟨oT, hoT, _⟩, _⟩ := L.e.inv.tuple (SqT.of hT0)
      refine wpAny_bind (heldD_next (sepM D) (Draws.tuple (A := A.in1.in1) hh i1 a D.l1i1 its.toArray) (Draws.list (A := A.in1.in1) hh i2 b D.l2i2 its2.toArray) hz0 hoT L.tie ⟨L.it1, p⟩ ⟨L.it2, p2.isList⟩
        (Array.getElem?_eq_some_iff.mp g1).1 (Array.getElem?_eq_some_iff.mp g2).1 fun x1 x2 h' tk e1 e2 z' h1' h2' hT hk => ?_)
      obtain rfl : u = x1 := Option.some.inj (g1.symm.trans e1)
      obtain rfl : u2 = x2 := Option.some.inj (g2.symm.trans e2)
      have nT : T ≠ s.heap.objs.size := fun n => by rw [n, L.e.inv.hok.fresh (Nat.le_refl _)] at hT0; cases hT0
      obtain ⟨c', L2⟩ := lp_push (tk := tk) (f := true) D hS L hx hy ru ru2 z' ⟨x0, y0, by rw [upd_ne nT]; exact hT0⟩ h1'.1 h2'.1 hT (fun c o h0 _ h1 h2 e => hk c o h0 h1 h2 e)
      have hS' := hk S _ hS2.1 hS2.2.2.2.1 hS2.2.2.2.2 L.e.lst
      show wpAny _ A.in1 (updateSeq S (·.push (.ref s.heap.objs.size)) >>= _) _ _ _
      refine wpAny_bind ?_
      refine wpAny_updateSeq (s := { s with heap := h', toks := tk }) hS' rfl (wpAny_pure ⟨plainId_quiet F.plain_extend_loop _, ih (i + 1) _ _ _ _ (by omega) hlt L2 hR⟩) ?_ ?_
      · simp only [List.size_toArray, List.length_map]; rw [sizeLine_eq]; omega
      · simp only [Array.size_push, List.size_toArray, List.length_map]; rw [sizeLine_eq]; omega
theorem lp_touch {H : Hp} {Ts : List Addr} {s : Shared} {c c' i tk : Nat} {h' : Heap} (hS : S ∉ [z, TI, TO, i1, i2]) (L : LpI X pins σ z TI TO i1 i2 a b S xs ys H0 i Ts H s c)
    (hsz : s.heap.objs.size ≤ h'.objs.size) (hk : ∀ c o, c ≠ S → s.heap.get? c = some o → h'.get? c = some o) (e : h'.get? S = some { cls := .type "list", dict := none, data := .seq (Ts.map Value.ref).toArray c', slots := #[] }) :
    LpI X pins σ z TI TO i1 i2 a b S xs ys H0 i Ts H { s with heap := h', toks := tk } c' := by
  simp only [List.mem_cons, List.not_mem_nil, or_false, not_or] at hS
  obtain ⟨sz, sTI, sTO, s1, s2⟩ := hS
  refine ⟨⟨L.e.inv.turnedL (t' := tk) (ch := [S]) (fun c o hb q => hk c o (fun n => hb (by simp [n])) q) (fun c hc => by rw [List.mem_singleton.mp hc]; exact L.e.fpS), L.e.same, L.e.len, L.e.tup, e, L.e.fpS⟩, L.fp, fun c hc => Nat.lt_of_lt_of_le (L.lt c hc) hsz,
    hk _ _ (Ne.symm sTI) L.tie, L.it1.at fun o q => hk _ o (Ne.symm s1) q, L.it2.at fun o q => hk _ o (Ne.symm s2) q, ?_⟩
  rcases L.zs with ⟨hz, u, v, hTO⟩ | ⟨T, f, x, y, hz, hT⟩
  · exact .inl ⟨hk _ _ (Ne.symm sz) hz, u, v, hk _ _ (Ne.symm sTO) hTO⟩
  · exact .inr ⟨T, f, x, y, hk _ _ (Ne.symm sz) hz, hT⟩
theorem lp_take {H : Hp} {Ts : List Addr} {s : Shared} {c i : Nat} (L : LpE X pins σ S xs ys H0 i Ts H s c) (hi : i ≤ 1000000) : Inv X pins σ (upd H S (.lst (Ts.map V.ref))) s := by
  have vr : ∀ l : List Addr, Vals (l.map V.ref) (l.map Value.ref) := fun l => by
    induction l with
    | nil => exact .nil
    | cons t r ih => exact .cons rfl ih
  refine L.inv.take (t' := s.toks) (h' := s.heap) (fun _ _ _ e => e) L.fpS ⟨?_, Ts.map Value.ref, c, vr Ts, L.lst⟩
  rw [List.length_map, L.len, sizeLine_eq]; omega
theorem zip_no_len : typeLookup (.type "zip") "__len__" = pure none := am_miss_of_fast (by decide +kernel)
theorem zip_no_hint : typeLookup (.type "zip") "__length_hint__" = pure none := am_miss_of_fast (by decide +kernel)
theorem lp_extend {A : Around} {R : Result → Shared → Prop} (hh : A.handled = none) (D : ZipApart z TI TO i1 i2 a b) (hS : S ∉ [z, TI, TO, i1, i2]) (qx : SqT X.K H0 a xs) (qy : SqL X.K H0 b ys) (hl : xs.length = ys.length) (hz : xs.length ≤ 1000000) (res : Value)
    {s : Shared} {H : Hp} {c : Nat} (L : LpI X pins σ z TI TO i1 i2 a b S xs ys H0 0 [] H s c) (hz0 : IsZip s.heap z TI TO .none)
    (hR : ∀ s' H' Ts' c', LpE X pins σ S xs ys H0 xs.length Ts' H' s' c' → R (.ok (.ret res)) s') :
    wpAny (model X.prog X.w) A.in1 (Builtin.List.listExtendWith (.ref S) (.ref z) res)
      (fun fin s' => match fin with | .done f => R (.ok f) s' | .again c' => c'.quiet = true ∧ codeAny (model X.prog X.w) A c' R s') (fun e s' => R (.error e) s') s := by
  have hTy : s.TypeIs (.ref z) "zip" := ⟨_, hz0, rfl⟩
  have hS2 := hS
  simp only [List.mem_cons, List.not_mem_nil, or_false, not_or] at hS2
  have hL := L.e.lst
  unfold Builtin.List.listExtendWith
  refine wpAny_bind (wpAny_typeOf hTy ?_)
  have h1 : Builtin.List.listSameRef (.ref S) (.ref z) = false := by simp [Builtin.List.listSameRef, hS2.1]
  have h2 : (Value.type "zip" == Value.type "list") = false := by decide
  have h3 : (Value.type "zip" == Value.type "tuple") = false := by decide
  simp only [h1, h2, h3, Bool.or_false, Bool.false_eq_true, if_false]
  refine wpAny_bind (wpAny_pyIter_zip hz0 ?_)
  refine wpAny_bind (wpAny_holding ?_)
  unfold Builtin.List.listLengthHint
  refine wpAny_bind (wpAny_specialOf hTy zip_no_len ?_)
  show wpAny _ A.in1 (specialOf (Value.ref z) (Str.ofString "__length_hint__") >>= _) _ _ _
  refine wpAny_bind (wpAny_specialOf hTy zip_no_hint ?_)
  refine wpAny_pure ?_
  show wpAny _ A.in1 (rule "list.extend.makes-room" >>= fun _ => Builtin.List.listTouch (.ref S) >>= fun _ =>
    again (.builtin "list.extend.loop" ⟨[.ref S, .ref z, res], []⟩)) _ _ _
  refine wpAny_bind (wpAny_rule ?_)
  refine wpAny_bind ?_
  show wpAny _ A.in1 (updateSeq S (·.push .none) >>= fun _ => updateSeq S (·.pop)) _ _ _
  refine wpAny_bind (wpAny_updateSeq hL rfl ?_)
  have e2 := Heap.get?_update_self (Obj.mapSeq (·.push Value.none)) hL rfl
  refine wpAny_updateSeq (hz := by seq_fits) e2 rfl ?_
  have e3 := Heap.get?_update_self (Obj.mapSeq (·.pop)) e2 rfl
  have oth : ∀ b o, b ≠ S → s.heap.get? b = some o → ((s.heap.update S (Obj.mapSeq (·.push Value.none))).update S (Obj.mapSeq (·.pop))).get? b = some o :=
    fun b o hb e => (Heap.get?_update_other _ _ (Ne.symm hb)).trans ((Heap.get?_update_other _ _ (Ne.symm hb)).trans e)
  have L3 := lp_touch (s := s) (tk := s.toks) (h' := (s.heap.update S (Obj.mapSeq (·.push Value.none))).update S (Obj.mapSeq (·.pop))) hS L (by rw [(Heap.SameBut.update ..).1, (Heap.SameBut.update ..).1]; exact Nat.le_refl _) oth e3
  exact wpAny_pure ⟨plainId_quiet F.plain_extend_loop _, lp_loop hh D hS qx qy hl hz res xs.length 0 _ H [] _ (by omega) (Nat.zero_le _) L3 hR⟩
theorem lp_init {A : Around} {R : Result → Shared → Prop} (hh : A.handled = none) (D : ZipApart z TI TO i1 i2 a b) {s : Shared} (qx : SqT X.K H0 a xs) (qy : SqL X.K H0 b ys) (hl : xs.length = ys.length) (hz : xs.length ≤ 1000000)
    (I : Inv X pins σ H0 s) (fp : ∀ c ∈ [z, TI, TO, i1, i2], FpOk X pins H0 c) (lt : ∀ c ∈ [z, TI, TO, i1, i2], c < s.heap.objs.size) (tie : IsTupOf2 s.heap TI (.ref i1) (.ref i2)) (it1 : s.heap.IsTupleIter i1 a 0) (it2 : s.heap.IsListIter i2 b 0)
    (hz0 : IsZip s.heap z TI TO .none) {u v : Value} (hTO : IsTupOf2 s.heap TO u v)
    (hR : ∀ s' H' Ts' c', LpE X pins σ s.heap.objs.size xs ys H0 xs.length Ts' H' s' c' → R (.ok (.ret .none)) s') :
    wpAny (model X.prog X.w) A.in1 (Builtin.«list.__init__» ⟨[.ref s.heap.objs.size, .ref z], []⟩)
      (fun fin s' => match fin with | .done f => R (.ok f) s' | .again c' => c'.quiet = true ∧ codeAny (model X.prog X.w) A c' R s') (fun e s' => R (.error e) s') { s with heap := s.heap.push { cls := .type "list", data := .seq #[] } } := by
  have e0 : (s.heap.push { cls := .type "list", data := .seq #[] }).get? s.heap.objs.size = some { cls := .type "list", data := .seq #[] } := Heap.get?_push_size _ rfl
  show wpAny _ _ (do let old ← Builtin.List.listItems (.ref s.heap.objs.size); Builtin.List.listUpdate (.ref s.heap.objs.size) (fun _ => #[]); letGo old.toList.reverse; Builtin.List.listExtendWith (.ref s.heap.objs.size) (.ref z) .none) _ _ _
  refine wpAny_bind ?_
  unfold Builtin.List.listItems
  refine wpAny_bind (wpAny_seqItems e0 rfl (wpAny_pure ?_))
  show wpAny _ _ (updateSeq s.heap.objs.size (fun _ => #[]) >>= fun _ => letGo (#[] : Array Value).toList.reverse >>= fun _ => Builtin.List.listExtendWith (.ref s.heap.objs.size) (.ref z) .none) _ _ _
  refine wpAny_bind (wpAny_updateSeq e0 rfl ?_)
  have e2 := Heap.get?_update_self (Obj.mapSeq (fun _ => (#[] : Array Value))) e0 rfl
  have oth : ∀ c o, s.heap.get? c = some o → ((s.heap.push { cls := .type "list", data := .seq #[] }).update s.heap.objs.size (Obj.mapSeq (fun _ => (#[] : Array Value)))).get? c = some o := fun c o e =>
    (Heap.get?_update_other _ _ (Nat.ne_of_gt (Heap.lt_size e))).trans (Heap.get?_push_of_some _ e)
  refine wpAny_bind (wpAny_letGo ?_)
  have hS : s.heap.objs.size ∉ [z, TI, TO, i1, i2] := fun h => Nat.lt_irrefl _ (lt _ h)
  have sz : s.heap.objs.size ≤ ((s.heap.push { cls := .type "list", data := .seq #[] }).update s.heap.objs.size (Obj.mapSeq (fun _ => (#[] : Array Value)))).objs.size := by
    rw [(Heap.SameBut.update ..).1, Heap.size_push]; exact Nat.le_succ _
  have L : LpI X pins σ z TI TO i1 i2 a b s.heap.objs.size xs ys H0 0 [] H0 { s with heap := (s.heap.push { cls := .type "list", data := .seq #[] }).update s.heap.objs.size (Obj.mapSeq (fun _ => (#[] : Array Value))) } _ :=
    ⟨⟨I.kept (t' := s.toks) oth, Same.refl _, rfl, fun j t h => (by cases h), e2, I.fpOk (Nat.le_refl _) (I.hok.fresh (Nat.le_refl _))⟩, fp, fun c hc => Nat.lt_of_lt_of_le (lt c hc) sz, oth _ _ tie, it1.at fun o q => oth _ o q, it2.at fun o q => oth _ o q, .inl ⟨oth _ _ hz0, u, v, oth _ _ hTO⟩⟩
  exact lp_extend hh D hS qx qy hl hz .none L (oth _ _ hz0) hR
theorem lp_call {A : Around} {E : Value → Shared → Prop} {Q : Value → Shared → Prop} (hh : A.handled = none) (D : ZipApart z TI TO i1 i2 a b) {s : Shared} (qx : SqT X.K H0 a xs) (qy : SqL X.K H0 b ys) (hl : xs.length = ys.length) (hz : xs.length ≤ 1000000)
    (I : Inv X pins σ H0 s) (fp : ∀ c ∈ [z, TI, TO, i1, i2], FpOk X pins H0 c) (lt : ∀ c ∈ [z, TI, TO, i1, i2], c < s.heap.objs.size) (tie : IsTupOf2 s.heap TI (.ref i1) (.ref i2)) (it1 : s.heap.IsTupleIter i1 a 0) (it2 : s.heap.IsListIter i2 b 0)
    (hz0 : IsZip s.heap z TI TO .none) {u v : Value} (hTO : IsTupOf2 s.heap TO u v)
    (hQ : ∀ (s' : Shared) (H' : Hp) (Ts' : List Addr), Inv X pins σ (upd H' s.heap.objs.size (.lst (Ts'.map V.ref))) s' → Same H0 H' → Ts'.length = xs.length → (∀ (j : Nat) (t : Addr), Ts'[j]? = some t → ∃ x y, xs[j]? = some x ∧ ys[j]? = some y ∧ H' t = some (.tup [x, y]) ∧ H0 t = none) →
      H' s.heap.objs.size = none → Q (.ref s.heap.objs.size) s') :
    wpAny (model X.prog X.w) A (call (.type "list") [.ref z]) Q E s := by
  refine callType_codes (Q₁ := fun obj s₁ => obj = .ref s.heap.objs.size ∧ s₁ = { s with heap := s.heap.push { cls := .type "list", data := .seq #[] } }) F.called_list (F.typeCall_list_1 _) F.entry_list_init
    (code_list_new _ ⟨rfl, rfl⟩) fun obj s₁ h₁ => ?_
  obtain ⟨rfl, rfl⟩ := h₁
  refine ⟨⟨_, Heap.get?_push_size _ rfl, rfl⟩, F.args_list_init_2 _ _, lp_init (A := A.in1) hh D qx qy hl hz I fp lt tie it1 it2 hz0 hTO fun s' H' Ts' c' L => ?_⟩
  exact ⟨rfl, hQ s' H' Ts' (lp_take L hz) L.same L.len L.tup L.fpS.1⟩
end
def tListZip (K : PySem.W.Frag) (ta : TA) : TE := fun σ H Q => ta σ H fun vs H1 => ∃ (a b : Addr) (xs ys : List V), vs = [.ref a, .ref b] ∧ SqT K H1 a xs ∧ SqL K H1 b ys ∧ xs.length = ys.length ∧ xs.length ≤ 1000000 ∧
  ∀ (p : Addr) (Ts : List Addr) (H' : Hp), Same H1 H' → Ts.length = xs.length → (∀ (j : Nat) (t : Addr), Ts[j]? = some t → ∃ x y, xs[j]? = some x ∧ ys[j]? = some y ∧ H' t = some (.tup [x, y]) ∧ H1 t = none) → H' p = none → Q (.ref p) (upd H' p (.lst (Ts.map V.ref)))
theorem pe_listZip {X : Cx} {e e2 : Expr} {ta : TA} {p pos p2 pos2 : Pos} (hcalm : X.calm = true) (hgl : Gl X "list") (hml : X.mg "list" = none) (hg : Gl X "zip") (hm : X.mg "zip" = none) (ha : PA X [e, e2] ta)
    (hs : starEach [e, e2] X.env = (false, eval e X.env) :: starEach [e2] X.env := by rfl) (hpl : (backTo pos2 (starEach [e2] X.env)).any (·.1) = false := by rfl)
    (na : starEach [(.Call (.Name "zip" p2) [e, e2] [] pos2 : Expr)] X.env = (false, eval (.Call (.Name "zip" p2) [e, e2] [] pos2) X.env) :: starEach [] X.env := by rfl) :
    PE X (.Call (.Name "list" p) [.Call (.Name "zip" p2) [e, e2] [] pos2] [] pos) (tListZip X.K ta) := by
  refine ⟨fun pins s σ H Q I h => ?_⟩
  refine Call_ (ld_blt I hgl hml boot_list (PyProof.Rows.callWith_type1 (args_cons ?_ na) na))
  refine Call_ (ld_blt I hg hm PyProof.Rows.boot_zip (PyProof.Rows.callWith_type1 (thn (ha.run pos2 pins s σ H _ I h) fun us s1 ⟨vs, H1, I1, r1, q1⟩ => ?_) hs hpl))
  obtain ⟨a, b, xs, ys, ex, hqx, hqy, hl, hz, q⟩ := q1
  subst ex
  obtain ⟨u, u2, rfl, r, r2⟩ : ∃ u u2, us = [u, u2] ∧ RelV (.ref a) u ∧ RelV (.ref b) u2 := by
    cases r1 with
    | cons r rr => cases rr with
      | cons r' rr => cases rr; exact ⟨_, _, rfl, r, r'⟩
  obtain rfl : u = Value.ref a := r
  obtain rfl : u2 = Value.ref b := r2
  obtain ⟨its, rv, p1, _⟩ := I1.tuple hqx
  obtain ⟨its2, rv2, p2, _⟩ := I1.list hqy
  obtain ⟨o1, ho1, _⟩ := id p1
  refine zip_begins2 (begins_tuple a its.toArray) (begins_list b its2.toArray) p1 p2.isList fun h' hz0 hTI hTO h1 h2 hsz hk => args_nil ?_
  have I2 : Inv X pins σ H1 { s1 with heap := h' } := I1.kept (t' := s1.toks) hk
  have mem : ∀ c ∈ [s1.heap.objs.size + 4, s1.heap.objs.size + 2, s1.heap.objs.size + 3, s1.heap.objs.size, s1.heap.objs.size + 1], s1.heap.objs.size ≤ c ∧ c < h'.objs.size := fun c hcm => by
    simp only [List.mem_cons, List.not_mem_nil, or_false] at hcm
    rw [hsz]
    rcases hcm with rfl | rfl | rfl | rfl | rfl
    · exact ⟨Nat.le_add_right _ _, Nat.add_lt_add_left (by decide) _⟩
    · exact ⟨Nat.le_add_right _ _, Nat.add_lt_add_left (by decide) _⟩
    · exact ⟨Nat.le_add_right _ _, Nat.add_lt_add_left (by decide) _⟩
    · exact ⟨Nat.le_refl _, Nat.lt_add_of_pos_right (by decide)⟩
    · exact ⟨Nat.le_add_right _ _, Nat.add_lt_add_left (by decide) _⟩
  refine lp_call (I2.ok.hd hcalm) (PySem.W.ktu_apart s1.heap.objs.size a b (Heap.lt_size ho1) p2.lt) hqx hqy hl hz I2 (fun c hc => I1.fpOk (mem c hc).1 (I1.hok.fresh (mem c hc).1)) (fun c hc => (mem c hc).2) hTI ⟨_, h1, rfl, rfl⟩ ⟨_, h2, rfl, rfl⟩ hz0 hTO fun s' H' Ts' I3 sm ln tp hn => ?_
  exact ⟨.ref _, _, I3, rfl, q _ Ts' H' sm ln tp hn⟩
end
section
/-! ### xs == [], xs != [] of a list of any items (our own rule, by the library's for lists of unlike lengths) -/
open PySem PySem.Spec PyProof.Rows
def rEqNil (K : PySem.W.Frag) (neg : Bool) : R2 := fun x y H Q => ∃ a b xs, x = .ref a ∧ y = .ref b ∧ SqL K H a xs ∧ SqL K H b [] ∧ Q (.bl (if neg then !xs.isEmpty else xs.isEmpty)) H
theorem op_eqNil {X : Cx} (hu : X.A.units + 64 < cLine) : OpR X (compareOp .Eq) (rEqNil X.K false) := by
  intro pins s σ H x y v u Q I rx ry h
  obtain ⟨a, b, xs, rfl, rfl, ha, hb, q⟩ := h
  cases (show v = Value.ref a from rx)
  cases (show u = Value.ref b from ry)
  obtain ⟨us, r1, p1, _⟩ := I.list ha
  obtain ⟨ws, r2, p2, _⟩ := I.list hb
  cases r2
  cases xs with
  | nil =>
    cases r1
    exact SeqAt.eq_listAt (e := fun _ => true) p1.isList p2.isList rfl (by omega) (fun j h1 h2 => absurd h1 (Nat.not_lt_zero j)) ⟨.bl true, H, I, rfl, q⟩
  | cons z zs =>
    cases r1
    exact SeqAt.eq_list_lengthsAt p1.isList p2.isList (by simp) (by omega) ⟨.bl false, H, I, rfl, q⟩
theorem op_neNil {X : Cx} (hu : X.A.units + 64 < cLine) : OpR X (compareOp .NotEq) (rEqNil X.K true) := by
  intro pins s σ H x y v u Q I rx ry h
  obtain ⟨a, b, xs, rfl, rfl, ha, hb, q⟩ := h
  cases (show v = Value.ref a from rx)
  cases (show u = Value.ref b from ry)
  obtain ⟨us, r1, p1, _⟩ := I.list ha
  obtain ⟨ws, r2, p2, _⟩ := I.list hb
  cases r2
  cases xs with
  | nil =>
    cases r1
    exact SeqAt.RcNeAt.lists (e := fun _ => true) p1.isList p2.isList rfl (by omega) (fun j h1 h2 => absurd h1 (Nat.not_lt_zero j)) _ _ _ _ ⟨.bl false, H, I, rfl, q⟩
  | cons z zs =>
    cases r1
    exact SeqAt.RcNeAt.lists_lengths p1.isList p2.isList (by simp) (by omega) _ _ _ _ ⟨.bl true, H, I, rfl, q⟩
end
/-! ### comprehensions whose items are told by a relation of ours -/
section
variable {α : Type} (Rl : Hp → V → α → Prop)
def AllR (U : Hp) : List V → List α → Prop
  | [], [] => True
  | z :: zs, r :: rs => Rl U z r ∧ AllR U zs rs
  | _, _ => False
variable {Rl}
theorem allr_len {U : Hp} : ∀ {zs : List V} {rs : List α}, AllR Rl U zs rs → zs.length = rs.length
  | [], [], _ => rfl
  | _ :: zs, _ :: rs, h => by rw [List.length_cons, List.length_cons, allr_len h.2]
  | [], _ :: _, h => h.elim
  | _ :: _, [], h => h.elim
theorem allr_get {U : Hp} : ∀ {zs : List V} {rs : List α} {i : Nat} {z : V}, AllR Rl U zs rs → zs[i]? = some z → ∃ r, rs[i]? = some r ∧ Rl U z r
  | [], [], i, z, _, e => by cases e
  | z :: zs, r :: rs, 0, _, h, e => by cases e; exact ⟨r, rfl, h.1⟩
  | z :: zs, r :: rs, i + 1, _, h, e => allr_get (zs := zs) (rs := rs) (i := i) h.2 e
  | [], _ :: _, _, _, h, _ => h.elim
  | _ :: _, [], _, _, h, _ => h.elim
theorem allr_app {U : Hp} : ∀ {zs ws : List V} {rs ss : List α}, AllR Rl U zs rs → AllR Rl U ws ss → AllR Rl U (zs ++ ws) (rs ++ ss)
  | [], _, [], _, _, g => g
  | _ :: zs, _, _ :: rs, _, h, g => ⟨h.1, allr_app h.2 g⟩
  | [], _, _ :: _, _, h, _ => h.elim
  | _ :: _, _, [], _, h, _ => h.elim
theorem allr_to (mono : ∀ U U' v a, Same U U' → Rl U v a → Rl U' v a) {U U' : Hp} (s : Same U U') : ∀ {zs : List V} {rs : List α}, AllR Rl U zs rs → AllR Rl U' zs rs
  | [], [], _ => trivial
  | _ :: zs, _ :: rs, h => ⟨mono _ _ _ _ s h.1, allr_to mono s h.2⟩
  | [], _ :: _, h => h.elim
  | _ :: _, [], h => h.elim
variable (Rl) in
structure LcR (V0 H0 : Hp) (D : Addr) (acc : List α) (H : Hp) : Prop where
  ex : ∃ V xs, Ext V0 H0 V H ∧ V D = none ∧ H D = some (.lst xs) ∧ AllR Rl V xs acc
theorem lc_rel (mono : ∀ U U' v a, Same U U' → Rl U v a → Rl U' v a) {J : It} {n : Nat} {G : Hp → Prop} {Y : Nat → Hp → V → Hp → Prop} (wk : Walk J n G Y) {V0 H0 : Hp} {D : Addr} {g : TG} {tt : TT} {te : TE} {vs : List Nat} {σ : St} {Qd : Hp → Prop} (f : Nat → Option α) (σ0 : St) (hσ : wipe σ vs = σ0) (s0 : Same V0 H0) (hD : H0 D = none) (hn : n < 100000)
    (hG : ∀ H, Same H0 H → G H) (hY : ∀ i H x H', Y i H x H' → H' = H)
    (hs : ∀ i x V H, i < n → Ext V0 H0 V H → Y i H x H → ∀ (Qy : VK) (Qn : Hp → Prop), (∀ d y V' H', f i = some d → Ext V H V' H' → Rl V' y d → Qy y H') → (f i = none → ∀ V' H', Ext V H V' H' → Qn H') →
      g x σ0 H fun σ2 H2 => wipe σ2 vs = σ0 ∧ tt σ2 H2 fun b H3 => if b = true then te σ2 H3 Qy else Qn H3)
    (hd : ∀ (U H : Hp) (xs : List V), Ext V0 H0 U H → U D = some (.lst xs) → AllR Rl U xs (fm f n) → Qd H) :
    ∃ W : Nat → Nat → Hp → Prop, (∃ m, W 0 m (upd H0 D (.lst []))) ∧ ∀ i m H, W i m H →
      (J.stop i H ∧ Qd H) ∨ (J.go i H ∧ ∃ Nx : Hp → Prop, (∀ H', Nx H' → ∃ m', m' < m ∧ W (i + 1) m' H') ∧ ∀ x H', J.yld i H x H' → g x (wipe σ vs) H' fun σ2 H2 => wipe σ2 vs = wipe σ vs ∧ tt σ2 H2 fun b H3 =>
        if b = true then te σ2 H3 fun y H4 => ∃ acc, H4 D = some (.lst acc) ∧ acc.length < sizeLine ∧ Nx (upd H4 D (.lst (acc ++ [y]))) else Nx H3) := by
  subst hσ
  refine lc_it wk (fun i H => LcR Rl V0 H0 D (fm f i) H) ⟨V0, [], Ext.skip s0 hD, s0.free hD, upd_same, trivial⟩ (fun i H _ p => ?_) (fun i x H H' hi p y => ?_) (fun H p => ?_)
  · obtain ⟨V, xs, x, _⟩ := p.ex
    exact hG H x.hh
  · obtain ⟨V, xs, x0, hv, hdd, dp⟩ := p.ex
    obtain rfl := hY i H x H' y
    refine hs i x V H' hi x0 y _ _ (fun d y' V' H4 e x2 dy => ?_) (fun e V' H4 x2 => ?_)
    · have hl : xs.length < 100000 := by
        rw [allr_len dp]; exact Nat.lt_of_le_of_lt (fm_len f i) (Nat.lt_trans hi hn)
      have hv' : V' D = none := x2.keepOut hv (by rw [hdd]; exact fun z => by cases z)
      refine ⟨xs, x2.hh _ _ hdd, lt_line hl, V', xs ++ [y'], (x0.trans x2).poke hD hv', hv', upd_same, ?_⟩
      rw [fm_succ, e]
      exact allr_app (allr_to mono x2.vv dp) ⟨dy, trivial⟩
    · have hv' : V' D = none := x2.keepOut hv (by rw [hdd]; exact fun z => by cases z)
      rw [fm_succ, e]
      show LcR Rl V0 H0 D (fm f i ++ []) H4
      rw [List.append_nil]
      exact ⟨V', xs, x0.trans x2, hv', x2.hh _ _ hdd, allr_to mono x2.vv dp⟩
  · obtain ⟨U, xs, x, hv, hdd, dp⟩ := p.ex
    exact hd _ H xs (x.take hD hv hdd) upd_same (allr_to mono (same_upd hv) dp)
end
/-! ### _law_kind, _law_value -/
def kindsL : List Str := ["uint", "int", "text", "octets", "object", "maybe", "new", "bound"]
def sp__law_value (K : PySem.W.Frag) : Sp := fun vs H Q _ => ∃ (kind : Str) (r : Int) (U : Hp), vs = [.str kind, .int r] ∧ kind ∈ kindsL ∧ Same U H ∧ ∀ (v : V) (x : AV) (os : List Int) (U' H' : Hp), Ext U H U' H' → ArgSpec kind x true os → ArgAt K U' v x → os.length ≤ 60 → Q v H'
theorem sc__law_value : FnScope ["kind", "row", "big"] ["kind", "row"] (defScope s__law_value) := ⟨rfl, rfl, rfl, by decide +kernel, rfl, by decide +kernel, by decide +kernel⟩
theorem isText_ok' {t : Str} (h : okCodes t.cps.toList) : isText t = decide ((t.length : Int) ≤ 1000) := by
  unfold isText
  rw [List.all_eq_true.mpr h, Bool.and_true]
theorem ok__law_value (T : Txt K mg A) : FnOk P w K mg base CX0 3 A.f_law_value A.d_law_value ["kind", "row"] (sp__law_value K) := by
  refine T.F_law_value.ok sc__law_value (fun vs H Q E h => ?_) (fun cdv Ar outer s H vs Q E hr h => ?_)
  · obtain ⟨k, r, U, rfl, _⟩ := h
    rfl
  · obtain ⟨kind, r, U, rfl, hk, sU, q⟩ := h
    refine ⟨_, (pss_cons (ps_set (i := 2) sc__law_value.nd rfl (Or.inl rfl) (pe_op op_mod (pe_callTy call_int1 (by rfl) T.int (by decide +kernel) (pa_cons (pe_op op_fdiv (pv 1) pe_int) pa_nil)) pe_int))
      (C8.pss_cut (ps_if (pt_cmpR op_eq (pe_op op_mod (pe_callTy call_int1 (by rfl) T.int (by decide +kernel) (pa_cons (pv 1) pa_nil)) pe_int) pe_int (nomark _))
      (pss_one (ps_set (i := 2) sc__law_value.nd rfl (Or.inl rfl) (pe_ix (r := rIxT K) ix_tup (pe_tup (pa_cons pe_int (pa_cons pe_int (pa_cons pe_int (pa_cons pe_int (pa_cons pe_int (pa_cons pe_int (pa_cons pe_int (pa_cons pe_int pa_nil))))))))) (pe_op op_mod (pe_callTy call_int1 (by rfl) T.int (by decide +kernel) (pa_cons (pe_op op_fdiv (pv 1) pe_int) pa_nil)) pe_int) (fun _ _ => rfl))))
      pss_nil)
      (pss_cons (ps_if (pt_cmpR op_eq (pv 0) pe_str (nomark _))
      (pss_one (ps_ret (pe_call (ok__law_text T) (hr.mono (by decide)) rfl T.g_law_text T.k_law_text T.b_law_text .nil pass0 (pa_cons (pe_op op_fdiv (pv 1) pe_int) (pa_cons (pe_op op_mod (pe_callTy call_int1 (by rfl) T.int (by decide +kernel) (pa_cons (pe_op op_fdiv (pv 1) pe_int) pa_nil)) pe_int) pa_nil)))))
      pss_nil)
      (pss_cons (ps_if (pt_cmpR op_eq (pv 0) pe_str (nomark _))
      (pss_one (ps_ret (pe_call (ok__law_octets T) (hr.mono (by decide)) rfl T.g_law_octets T.k_law_octets T.b_law_octets .nil pass0 (pa_cons (pe_op op_fdiv (pv 1) pe_int) (pa_cons (pe_op op_mod (pe_callTy call_int1 (by rfl) T.int (by decide +kernel) (pa_cons (pe_op op_fdiv (pv 1) pe_int) pa_nil)) pe_int) pa_nil)))))
      pss_nil)
      (pss_cons (ps_if (pt_cmpR op_eq (pv 0) pe_str (nomark _))
      (pss_one (ps_ret (pe_tup (pa_cons (pe_call (ok__law_text T) (hr.mono (by decide)) rfl T.g_law_text T.k_law_text T.b_law_text .nil pass0 (pa_cons (pe_op op_fdiv (pv 1) pe_int) (pa_cons (pe_op op_mod (pe_callTy call_int1 (by rfl) T.int (by decide +kernel) (pa_cons (pe_op op_fdiv (pv 1) pe_int) pa_nil)) pe_int) pa_nil))) (pa_cons (pe_callB (call_max2 rfl) (by rfl) T.max (by decide +kernel) (pa_cons pe_int (pa_cons (pv 2) pa_nil))) pa_nil)))))
      pss_nil)
      (pss_cons (ps_if (pt_cmpR op_eq (pv 0) pe_str (nomark _))
      (pss_one (ps_ret (pe_op op_sub (pv 2) pe_int)))
      pss_nil)
      (pss_cons (ps_if (PW.pt (pw_or (pt_cmpR op_eq (pv 0) pe_str (nomark _)) (pw_or1 (pt_cmpR op_eq (pv 0) pe_str (nomark _)))))
      (pss_one (ps_ret (pe_callB (call_max2 rfl) (by rfl) T.max (by decide +kernel) (pa_cons pe_int (pa_cons (pv 2) pa_nil)))))
      pss_nil)
      (pss_one (ps_ret (pv 2)))))))))), ?_⟩
    walk_at "rd"
    refine ⟨fun σ' H' => ∃ b : Int, 0 ≤ b ∧ b ≤ 4294967295 ∧ σ' = [some (.str kind), some (.int r), some (.int b)] ∧ Same H H', ?_, ?_⟩
    · walk_at "rd"
      refine iteEq (fun c => ?_) (fun c => ?_)
      · refine ⟨len_line (by show 8 ≤ 100000; decide), fun p hp => ?_⟩
        walk_at "rd"
        have hj : (r / 3 % 8).toNat < [(0 : Int), 1, 255, 65536, 2147483647, 2147483648, 4294967294, 4294967295].length := by show _ < 8; omega
        have hm := List.getElem_mem hj
        refine ⟨p, _, _, .int ([(0 : Int), 1, 255, 65536, 2147483647, 2147483648, 4294967294, 4294967295][(r / 3 % 8).toNat]), rfl, rfl, SqT.of upd_same, at_of (j := (r / 3 % 8).toNat) (by omega) ?_, _, ?_, ?_, rfl, same_upd hp⟩
        · show ([(0 : Int), 1, 255, 65536, 2147483647, 2147483648, 4294967294, 4294967295].map V.int)[(r / 3 % 8).toNat]? = _
          rw [List.getElem?_map, List.getElem?_eq_getElem hj]; rfl
        · generalize [(0 : Int), 1, 255, 65536, 2147483647, 2147483648, 4294967294, 4294967295][(r / 3 % 8).toNat] = z at hm
          simp only [List.mem_cons, List.not_mem_nil, or_false] at hm
          omega
        · generalize [(0 : Int), 1, 255, 65536, 2147483647, 2147483648, 4294967294, 4294967295][(r / 3 % 8).toNat] = z at hm
          simp only [List.mem_cons, List.not_mem_nil, or_false] at hm
          omega
      · exact ⟨_, by omega, by omega, rfl, Same.refl H⟩
    rintro σ' H1 ⟨b, hb0, hb1, rfl, s1⟩
    have num : ∀ {lo hi : Int} (i : Int), NumKind kind lo hi → lo ≤ i → i ≤ hi → Q (.int i) H1 := fun i hn h0 h1 =>
      q (.int i) (.num i) (octs (i % 4294967296) 4) U H1 ⟨Same.refl U, sU.trans s1, s1, fun _ h => Or.inl h⟩ (by have := ArgSpec.num (i := i) hn; rw [decide_eq_true ⟨h0, h1⟩] at this; exact this) rfl (by rw [octs_len]; decide)
    have neq : ∀ {A B : Prop} (x : Str), kind ≠ x → B → if decide (V.str kind = V.str x) = true then A else B := fun x h hB => if_f (decide_eq_false fun z => h (V.str.inj z)) hB
    have txt : ∀ (n : Nat), n < 23 → ∀ (r2 : Int), isText (lawTextS r2 n) = true ∧ (lawTextS r2 n).length < 80000 ∧ (textOcts (lawTextS r2 n)).length ≤ 40 := fun n hn r2 => by
      have l := lawTextS_len r2 n
      refine ⟨?_, by omega, ?_⟩
      · rw [isText_ok' (lawTextS_ok r2 n), l]; exact decide_eq_true (by omega)
      · have := textOcts_len (lawTextS r2 n); omega
    have hn23 : (r / 7 % 23).toNat < 23 ∧ (((r / 7 % 23).toNat : Nat) : Int) = r / 7 % 23 := by omega
    -- kind == 'text'
    refine ⟨_, rfl, rfl, _, rfl, if_b (fun c => ?_) (fun c => ?_)⟩
    · have e : kind = "text" := V.str.inj (of_decide_eq_true c)
      subst e
      refine ⟨_, rfl, _, _, rfl, rfl, ⟨by decide, by decide⟩, _, rfl, _, _, rfl, rfl, ⟨by decide, by decide⟩, Or.inl ⟨_, rfl, ?_⟩⟩
      refine ⟨_, _, rfl, rfl, by show (0 : Int) < 23; decide, r / 5, (r / 7 % 23).toNat, ?_, by omega, fun H2 s2 => ?_⟩
      · rw [hn23.2]; rfl
      obtain ⟨t1, t2, t3⟩ := txt (r / 7 % 23).toNat hn23.1 (r / 5)
      refine q _ (.txt (lawTextS (r / 5) (r / 7 % 23).toNat)) _ U H2 ⟨Same.refl U, sU.trans (s1.trans s2), s1.trans s2, fun _ h => Or.inl h⟩ (by have := ArgSpec.txt (s := lawTextS (r / 5) (r / 7 % 23).toNat); rw [t1] at this; exact this) ⟨rfl, t2⟩ (by omega)
    have n1 : kind ≠ "text" := fun z => by rw [z, decide_eq_true rfl] at c; cases c
    refine ⟨_, rfl, rfl, _, rfl, if_b (fun c => ?_) (fun c => ?_)⟩
    · have e : kind = "octets" := V.str.inj (of_decide_eq_true c)
      subst e
      refine ⟨_, rfl, _, _, rfl, rfl, ⟨by decide, by decide⟩, _, rfl, _, _, rfl, rfl, ⟨by decide, by decide⟩, Or.inl ⟨_, rfl, ?_⟩⟩
      refine ⟨_, _, rfl, rfl, by show (0 : Int) < 23; decide, r / 5, (r / 7 % 23).toNat, ?_, by omega, fun p H2 n2 => ?_⟩
      · rw [hn23.2]; rfl
      have hl := lawOcts_len (r / 5) (r / 7 % 23).toNat
      have hok : octsOk (lawOcts (r / 5) (r / 7 % 23).toNat) = true := by
        unfold octsOk; rw [lawOcts_ok, hl, Bool.and_true]; exact decide_eq_true (by omega)
      have n2' : NewL H H2 p ((lawOcts (r / 5) (r / 7 % 23).toNat).map V.int) := ⟨s1.free n2.new, s1.trans n2.same, n2.at_⟩
      refine q _ (.oct (lawOcts (r / 5) (r / 7 % 23).toNat)) _ _ H2 (n2'.ext sU) (by have := ArgSpec.oct (xs := lawOcts (r / 5) (r / 7 % 23).toNat); rw [hok] at this; exact this) ⟨p, rfl, upd_same, by omega⟩ ?_
      rw [pad_len, List.length_append, octs_len, hl]
      have := padN_lt (4 + (r / 7 % 23).toNat)
      omega
    have n2 : kind ≠ "octets" := fun z => by rw [z, decide_eq_true rfl] at c; cases c
    have mx : ∀ (m : Int), m = (if b > 1 then b else 1) → 1 ≤ m ∧ m ≤ 4294967295 := fun m e => by rw [e]; split <;> omega
    refine ⟨_, rfl, rfl, _, rfl, if_b (fun c => ?_) (fun c => ?_)⟩
    · have e : kind = "bound" := V.str.inj (of_decide_eq_true c)
      subst e
      refine ⟨_, rfl, _, _, rfl, rfl, ⟨by decide, by decide⟩, _, rfl, _, _, rfl, rfl, ⟨by decide, by decide⟩, Or.inl ⟨_, rfl, ?_⟩⟩
      refine ⟨_, _, rfl, rfl, by show (0 : Int) < 23; decide, r / 5, (r / 7 % 23).toNat, ?_, by omega, fun H2 s2 => ?_⟩
      · rw [hn23.2]; rfl
      obtain ⟨t1, t2, t3⟩ := txt (r / 7 % 23).toNat hn23.1 (r / 5)
      generalize lawTextS (r / 5) (r / 7 % 23).toNat = t at t1 t2 t3 ⊢
      refine ⟨_, rfl, _, _, rfl, len_line (by show 2 ≤ 100000; decide), fun p hp => ?_⟩
      obtain ⟨m0, m1⟩ := mx _ rfl
      generalize (if b > 1 then b else 1) = m at m0 m1 hp ⊢
      have hpH : H p = none := (s1.trans s2).free hp
      refine q (.ref p) (.bnd t m) _ _ _ ((Ext.new (o := .tup [.str t, .int m]) sU hpH).trans ⟨Same.refl _, ?_, ?_, fun _ h => Or.inl h⟩) (by have := ArgSpec.bnd (s := t) (n := m); rw [t1, decide_eq_true ⟨m0, m1⟩] at this; exact this) ⟨p, rfl, SqT.of upd_same, t2⟩ ?_
      · intro c u e
        by_cases hc : c = p
        · subst hc; rw [upd_same] at e ⊢; exact e
        · rw [upd_ne hc] at e ⊢; exact (sU.trans (s1.trans s2)) c u e
      · intro c u e
        by_cases hc : c = p
        · subst hc; rw [upd_same] at e ⊢; exact e
        · rw [upd_ne hc] at e ⊢; exact (s1.trans s2) c u e
      · rw [List.length_append, octs_len]; omega
    have n3 : kind ≠ "bound" := fun z => by rw [z, decide_eq_true rfl] at c; cases c
    refine ⟨_, rfl, rfl, _, rfl, if_b (fun c => ?_) (fun c => ?_)⟩
    · have e : kind = "int" := V.str.inj (of_decide_eq_true c)
      subst e
      exact ⟨_, rfl, _, _, rfl, rfl, num _ .int (by omega) (by omega)⟩
    have n4 : kind ≠ "int" := fun z => by rw [z, decide_eq_true rfl] at c; cases c
    obtain ⟨m0, m1⟩ := mx _ rfl
    refine ⟨_, rfl, rfl, _, rfl, if_b (fun c => ?_) (fun c => ?_)⟩
    · have e : kind = "object" := V.str.inj (of_decide_eq_true c)
      subst e
      exact if_t rfl ⟨_, rfl, _, _, rfl, num _ .object m0 m1⟩
    have n5 : kind ≠ "object" := fun z => by rw [z, decide_eq_true rfl] at c; cases c
    refine ⟨_, rfl, rfl, _, rfl, if_b (fun c => ?_) (fun c => ?_)⟩
    · have e : kind = "new" := V.str.inj (of_decide_eq_true c)
      subst e
      exact ⟨_, rfl, _, _, rfl, num _ .new m0 m1⟩
    have n6 : kind ≠ "new" := fun z => by rw [z, decide_eq_true rfl] at c; cases c
    have hk2 : kind = "uint" ∨ kind = "maybe" := by
      unfold kindsL at hk
      simp only [List.mem_cons, List.not_mem_nil, or_false] at hk
      rcases hk with h | h | h | h | h | h | h | h
      · exact Or.inl h
      · exact absurd h n4
      · exact absurd h n1
      · exact absurd h n2
      · exact absurd h n5
      · exact Or.inr h
      · exact absurd h n6
      · exact absurd h n3
    rcases hk2 with rfl | rfl
    · exact ⟨_, rfl, num _ .uint hb0 hb1⟩
    · exact ⟨_, rfl, num _ .maybe hb0 hb1⟩
/-! ### split at one sign, by lists of codes -/
def spC (c : Nat) : List Nat → List (List Nat)
  | [] => [[]]
  | x :: r => if x = c then [] :: spC c r else match spC c r with
    | [] => [[x]]
    | p :: q => (x :: p) :: q
def jnC (c : Nat) : List (List Nat) → List Nat
  | [] => []
  | [p] => p
  | p :: r => p ++ c :: jnC c r
theorem spC_app (c : Nat) : ∀ (p : List Nat), c ∉ p → (spC c p = [p]) ∧ ∀ t, spC c (p ++ c :: t) = p :: spC c t
  | [], _ => ⟨rfl, fun t => by show (if c = c then [] :: spC c t else _) = _; rw [if_pos rfl]⟩
  | x :: p, h => by
    have hx : x ≠ c := fun z => h (by rw [z]; exact List.mem_cons_self ..)
    obtain ⟨h1, h2⟩ := spC_app c p (fun z => h (List.mem_cons_of_mem _ z))
    refine ⟨?_, fun t => ?_⟩
    · show (if x = c then _ else match spC c p with | [] => [[x]] | p :: q => (x :: p) :: q) = _
      rw [if_neg hx, h1]
    · show (if x = c then _ else match spC c (p ++ c :: t) with | [] => [[x]] | p :: q => (x :: p) :: q) = _
      rw [if_neg hx, h2 t]
theorem spC_jn (c : Nat) : ∀ (ps : List (List Nat)), ps ≠ [] → (∀ p ∈ ps, c ∉ p) → spC c (jnC c ps) = ps
  | [], h, _ => absurd rfl h
  | [p], _, h => (spC_app c p (h p (List.mem_cons_self ..))).1
  | p :: q :: r, _, h => by
    show spC c (p ++ c :: jnC c (q :: r)) = _
    rw [(spC_app c p (h p (List.mem_cons_self ..))).2, spC_jn c (q :: r) (fun z => by cases z) fun x hx => h x (List.mem_cons_of_mem _ hx)]
theorem jn_cps (c : Nat) : ∀ (ts : List Str), (Str.join ⟨#[c]⟩ ts).cps.toList = jnC c (ts.map fun t => t.cps.toList)
  | [] => rfl
  | [_] => rfl
  | p :: q :: r => by
    show (p ++ ⟨#[c]⟩ ++ Str.join ⟨#[c]⟩ (q :: r)).cps.toList = p.cps.toList ++ c :: jnC c ((q :: r).map fun t => t.cps.toList)
    rw [← jn_cps c (q :: r)]
    show ((p.cps ++ #[c]) ++ (Str.join ⟨#[c]⟩ (q :: r)).cps).toList = _
    simp
def spS (c : Nat) (t : Str) : List Str := (spC c t.cps.toList).map fun l => ⟨l.toArray⟩
theorem split_sp (x : Str) (c : Nat) : Txt.split x ⟨#[c]⟩ = spS c x := by
  have h1 := StrLaws.join_split x ⟨#[c]⟩
  have h2 := StrLaws.split_free x c
  have h3 : Txt.split x ⟨#[c]⟩ ≠ [] := fun z => by
    unfold Txt.split at z
    split at z
    · cases z
    · split at z
      · cases z
      · rw [StrLaws.partsBetween_eq] at z
        obtain ⟨p, r, e⟩ := StrLaws.partsFrom_ne x (Str.length ⟨#[c]⟩) 0 (Builtin.Str.occurrences x ⟨#[c]⟩ 0 x.length (x.length + 1))
        rw [e] at z; cases z
  generalize Txt.split x ⟨#[c]⟩ = ps at h1 h2 h3
  unfold spS
  rw [← h1, jn_cps, spC_jn c _ (fun z => h3 (List.map_eq_nil_iff.mp z)) (fun p hp => by
    obtain ⟨t, ht, rfl⟩ := List.mem_map.mp hp
    exact h2 t ht), List.map_map]
  exact (List.map_id'' (fun t => rfl) ps).symm
/-! ### the tables of requests and events; event_octets -/
def evD (rows : List (Str × List Str)) : PyData := .tuple (rows.map fun r => .tuple [.str r.1, .tuple (r.2.map PyData.str)])
theorem dpall_strs {K : PySem.W.Frag} {H : Hp} : ∀ {vs : List V} {ss : List Str}, DpAll K H vs (ss.map PyData.str) → vs = ss.map V.str
  | _, [], h => by cases h; rfl
  | _, s :: r, h => by
    cases h with
    | cons h1 h2 => rw [dp_str h1, dpall_strs h2]; rfl
/-- rows that begin with a name -/
def rowsD (rows : List (Str × List PyData)) : PyData := .tuple (rows.map fun r => .tuple (.str r.1 :: r.2))
theorem evD_rows (rows : List (Str × List Str)) : evD rows = rowsD (rows.map fun r => (r.1, [.tuple (r.2.map PyData.str)])) := by unfold evD rowsD; rw [List.map_map]; rfl
def sp__opcode_of (K : PySem.W.Frag) : Sp := fun vs H Q _ => ∃ (ar : Addr) (rows : List (Str × List PyData)) (name : Str) (j : Nat) (row : Str × List PyData), vs = [.ref ar, .str name] ∧ Dp K H (.ref ar) (rowsD rows) ∧ rows.length < 1000 ∧
  rows[j]? = some row ∧ row.1 = name ∧ (∀ (m : Nat) (row' : Str × List PyData), m < j → rows[m]? = some row' → row'.1 ≠ name) ∧ ∀ H', Same H H' → Q (.int (j : Nat)) H'
theorem sc__opcode_of : FnScope ["rows", "name", "row"] ["rows", "name"] (defScope s__opcode_of) := ⟨rfl, rfl, rfl, by decide +kernel, rfl, by decide +kernel, by decide +kernel⟩
theorem ok__opcode_of (T : Txt K mg A) : FnOk P w K mg base CX0 1 A.f_opcode_of A.d_opcode_of ["rows", "name"] (sp__opcode_of K) := by
  refine T.F_opcode_of.ok sc__opcode_of (fun vs H Q E h => ?_) (fun cdv Ar outer s H vs Q E hr h => ?_)
  · obtain ⟨_, _, _, _, _, rfl, _⟩ := h
    rfl
  · obtain ⟨ar, rows, name, j, row, rfl, dr, hl, hj, hn, hm, q⟩ := h
    obtain ⟨pr, zs, e0, qs, ds⟩ := dp_tuple dr
    cases e0
    have hzl : zs.length = rows.length := by rw [dpall_len ds, List.length_map]
    refine ⟨_, (pss_one (ps_ret (pe_bm PySem.F.plainAttrs_list PySem.F.slot_list_index PySem.F.type_list_index mt_index (pe_lc (own := [("row", 2)]) (g := (gName 2)) (tt := tYes) rfl sc__opcode_of.nd (pi_tup (pv 0)) (blkOk_by (own := [("row", 2)]) (N := ["rows", "name", "row"]) (sc := defScope s__opcode_of) (by decide +kernel)) (fun _ _ _ _ _ => (pg_name (i := 2) sc__opcode_of.nd rfl (Or.inl rfl))) (fun _ _ _ _ _ => pts_nil) (fun _ _ _ _ _ => by exact (pe_ix (r := rIxT K) ix_tup (pv 2) pe_int (fun _ _ => rfl)))) (pa_cons (pv 1) pa_nil)))), ?_⟩
    refine ⟨_, rfl, ar, rfl, ⟨_, qs⟩, fun D hD => ?_⟩
    refine lc_dp (walk_tup (K := K) (a := ar) (xs := zs)) (K := K) (V0 := H) (H0 := H) (fun i => (rows[i]?).map fun r => PyData.str r.1) _ rfl (Same.refl _) hD (by omega) (fun H' s => s.sqt qs) (fun i x H H' y => y.1) ?_ ?_
    · rintro n z U2 H4 hn' xx ⟨_, hz⟩ Qy Qn hy hno
      obtain ⟨d, hd, dv⟩ := dpall_get ds hz
      rw [List.getElem?_map] at hd
      obtain ⟨r, hr, rfl⟩ := Option.map_eq_some_iff.mp hd
      obtain ⟨pt, ws, rfl, qw, dw⟩ := dp_tuple dv
      cases dw with
      | cons d1 d2 =>
        obtain rfl := dp_str d1
        have qw' := xx.hh.sqt qw
        walk_at "go"
        exact hy (.str r.1) _ _ _ (by rw [hr]; rfl) (Ext.refl xx.vh) (.str _)
    · rintro U2 H4 ws xx uD dA _
      rw [hzl, fm_map] at dA
      have ew : ws = (rows.map fun r => r.1).map V.str := dpall_strs (by rw [List.map_map]; exact dA)
      subst ew
      have eD := xx.vh _ _ uD
      refine ⟨.inl ⟨rfl, _, SqL.of eD⟩, ?_⟩
      walk_at "go"
      have hj2 : ((rows.map fun r => r.1).map V.str)[j]? = some (.str row.1) := by rw [List.getElem?_map, List.getElem?_map, hj]; rfl
      refine ⟨D, _, .str name, j, .str row.1, rfl, rfl, SqL.of eD, rfl, ?_, hj2, ?_, fun m z' hlt hz' => ?_, ?_⟩
      · rw [List.map_map, List.all_map]; exact List.all_eq_true.mpr fun _ _ => rfl
      · show (row.1 == name) = true
        rw [hn]; exact beq_self_eq_true _
      · rw [List.getElem?_map, List.getElem?_map] at hz'
        obtain ⟨y, hy, rfl⟩ := Option.map_eq_some_iff.mp hz'
        obtain ⟨r', hr', rfl⟩ := Option.map_eq_some_iff.mp hy
        show (r'.1 == name) = false
        exact beq_eq_false_iff_ne.mpr (hm m r' hlt hr')
      · exact q _ xx.hh
def sp_event_octets (C : Addr) (w : World) (K : PySem.W.Frag) (B L : Addr) : Sp := fun vs H Q E => ∃ (n : Int) (intf name : Str) (va ar : Addr) (rows : List (Str × List Str)) (j : Nat) (row : Str × List Str) (xs : List V) (args : List Arg), vs = [.int n, .str intf, .str name, .ref va] ∧
  KDct K w C intf (.ref ar) ∧ (∀ H, Dp K H (.ref ar) (evD rows)) ∧ rows.length < 1000 ∧ rows[j]? = some row ∧ row.1 = name ∧ (∀ (m : Nat) (row' : Str × List Str), m < j → rows[m]? = some row' → row'.1 ≠ name) ∧
  SqL K H va xs ∧ xs.length = row.2.length ∧ args.length = row.2.length ∧ row.2.length ≤ 20 ∧ (∀ (i : Nat) (x : V), xs[i]? = some x → ∃ (g : Arg) (k : Str), args[i]? = some g ∧ row.2[i]? = some k ∧ g.kind = k ∧ ArgAt K H x g.val) ∧ (∀ g ∈ args, ArgSpec g.kind g.val true g.os) ∧ (bodyOf args).length < 60000 ∧
  (encBad n j args → ∀ H', Same H H' → E (.ref B) none H') ∧ (¬ encBad n j args → encLong args → ∀ H', Same H H' → E (.ref L) none H') ∧
  (¬ encBad n j args → ¬ encLong args → ∀ p H', NewL H H' p ((msgOcts n j (bodyOf args)).map V.int) → Q (.ref p) H')
theorem sc_event_octets : FnScope ["number", "interface", "name", "values", "rows", "opcode", "kinds"] ["number", "interface", "name", "values"] (defScope s_event_octets) := ⟨rfl, rfl, rfl, by decide +kernel, rfl, by decide +kernel, by decide +kernel⟩
theorem ok_event_octets (T : Txt K mg A) : FnOk P w K mg base (L2.CX P w) 8 A.fevent_octets A.devent_octets ["number", "interface", "name", "values"] (sp_event_octets A.a_EVENTS w K A.CBadMessage A.CMessageTooLong) := by
  refine T.Fevent_octets.okX sc_event_octets (fun vs H Q E h => ?_) (fun cdv Ar outer s H vs Q E hr h => ?_)
  · obtain ⟨_, _, _, _, _, _, _, _, _, _, rfl, _⟩ := h
    rfl
  · obtain ⟨n, intf, name, va, ar, rows, j, row, xs, args, rfl, hd, dr, hl, hj, hn, hm, qx, hxl, hal, h20, hx, hok, hb, qb, ql, q⟩ := h
    obtain ⟨ar', zs, e0, qs, ds⟩ := dp_tuple (dr H)
    cases e0
    refine ⟨_, (pss_cons (ps_set (i := 4) sc_event_octets.nd rfl (Or.inl rfl) (pe_ix (r := rIxD K w) ix_kdict (pe_glob (v := .ref A.a_EVENTS) rfl T.g_EVENTS rfl) (pv 1) (fun _ _ => rfl)))
      (pss_cons (ps_set (i := 5) sc_event_octets.nd rfl (Or.inl rfl) (pe_call (ok__opcode_of T) (hr.mono (by decide)) rfl T.g_opcode_of T.k_opcode_of T.b_opcode_of .nil pass0 (pa_cons (pv 4) (pa_cons (pv 2) pa_nil))))
      (pss_cons (ps_set (i := 6) sc_event_octets.nd rfl (Or.inl rfl) (pe_ix (r := rIxT K) ix_tup (pe_ix (r := rIxT K) ix_tup (pv 4) (pv 5) (fun _ _ => rfl)) pe_int (fun _ _ => rfl)))
      (pss_one (ps_ret (pe_call (ok_encode_message T) (hr.mono (by decide)) rfl T.gencode_message T.kencode_message T.bencode_message .nil (passes_call (takes_of rfl rfl rfl rfl) (fun _ _ _ _ h => h)) (pa_cons (pv 0) (pa_cons (pv 5) (pa_cons (pe_listZip rfl (by rfl) T.list (by rfl) T.zip (pa_cons (pv 6) (pa_cons (pv 3) pa_nil))) pa_nil))))))))), ?_⟩
    have hjz : (rows.map fun r => PyData.tuple [.str r.1, .tuple (r.2.map PyData.str)])[j]? = some (.tuple [.str row.1, .tuple (row.2.map PyData.str)]) := by rw [List.getElem?_map, hj]; rfl
    obtain ⟨z, hz, dz⟩ := dpall_get' ds hjz
    obtain ⟨pt, ws, rfl, qw, dw⟩ := dp_tuple dz
    cases dw with
    | cons d1 d2 => cases d2 with
      | cons d2 d3 =>
        cases d3
        obtain rfl := dp_str d1
        obtain ⟨pk, ks, rfl, qk, dk⟩ := dp_tuple d2
        obtain rfl := dpall_strs dk
        walk_at "go"
        refine ⟨_, _, _, rfl, rfl, hd, ?_⟩
        walk_at "go"
        refine ⟨ar, rows.map (fun r => (r.1, [.tuple (r.2.map PyData.str)])), name, j, (row.1, [.tuple (row.2.map PyData.str)]), rfl, by rw [← evD_rows]; exact dr H, by rw [List.length_map]; exact hl, by rw [List.getElem?_map, hj]; rfl, hn, fun m row' hlt h => ?_, fun H1 s1 => ?_⟩
        · rw [List.getElem?_map] at h
          obtain ⟨r0, hr0, rfl⟩ := Option.map_eq_some_iff.mp h
          exact hm m r0 hlt hr0
        have qw1 := s1.sqt qw
        walk_at "go"
        refine ⟨ar, _, _, .ref pt, rfl, rfl, s1.sqt qs, atI_nat hz, ?_⟩
        walk_at "go"
        refine ⟨pk, va, _, xs, rfl, s1.sqt qk, s1.seq qx, by rw [List.length_map]; exact hxl.symm, by rw [List.length_map]; omega, fun p Ts H2 sm ln tp hp => ?_⟩
        have s2 : Same H (upd H2 p (.lst (Ts.map V.ref))) := (s1.trans sm).trans (same_upd hp)
        walk_at "go"
        rw [List.length_map] at ln
        refine ⟨n, j, p, args, rfl, ⟨⟨_, SqL.of upd_same, by rw [List.length_map]; omega, fun i x hi => ?_⟩, hok⟩, hb, by omega, fun c H3 s3 => qb c H3 (s2.trans s3), fun c d H3 s3 => ql c d H3 (s2.trans s3), fun c d p3 H3 nl => q c d p3 H3 ⟨s2.free nl.new, s2.trans nl.same, nl.at_⟩⟩
        rw [List.getElem?_map] at hi
        obtain ⟨t, ht, rfl⟩ := Option.map_eq_some_iff.mp hi
        obtain ⟨x1, y1, e1, e2, e3, e4⟩ := tp i t ht
        rw [List.getElem?_map] at e1
        obtain ⟨k, hk, rfl⟩ := Option.map_eq_some_iff.mp e1
        obtain ⟨g, k', hg, hk', egk, ag⟩ := hx i y1 e2
        have ek : k = k' := Option.some.inj (hk.symm.trans hk')
        refine ⟨g, t, y1, hg, rfl, (same_upd hp).sqt (SqT.of (by rw [egk, ← ek]; exact e3)), ag.to s2⟩

/-! ### the rows of the tables -/
def rqD (rows : List (Str × List Str × Bool)) : PyData := .tuple (rows.map fun r => .tuple [.str r.1, .tuple (r.2.1.map PyData.str), .bool r.2.2])
theorem rqD_rows (rows : List (Str × List Str × Bool)) : rqD rows = rowsD (rows.map fun r => (r.1, [.tuple (r.2.1.map PyData.str), .bool r.2.2])) := by unfold rqD rowsD; rw [List.map_map]; rfl
def RowAt (K : PySem.W.Frag) (zs : List V) (op : Int) (H : Hp) (Q : VK) : Prop := (∀ (i : Nat) (z : V), op = (i : Int) → zs[i]? = some z → Q z H) ∧ (op < 0 ∨ (zs.length : Int) ≤ op → Q .non H)
def sp__row_at (K : PySem.W.Frag) : Sp := fun vs H Q _ => ∃ (ar : Addr) (zs : List V) (op : Int), vs = [.ref ar, .int op] ∧ SqT K H ar zs ∧ RowAt K zs op H Q
theorem sc__row_at : FnScope ["rows", "opcode"] ["rows", "opcode"] (defScope s__row_at) := ⟨rfl, rfl, rfl, by decide +kernel, rfl, by decide +kernel, by decide +kernel⟩
theorem ok__row_at (T : Txt K mg A) : FnOk P w K mg base CX0 1 A.f_row_at A.d_row_at ["rows", "opcode"] (sp__row_at K) := by
  refine T.F_row_at.ok sc__row_at (fun vs H Q E h => ?_) (fun cdv Ar outer s H vs Q E hr h => ?_)
  · obtain ⟨_, _, _, rfl, _⟩ := h
    rfl
  · obtain ⟨ar, zs, op, rfl, qs, q1, q2⟩ := h
    refine ⟨_, (pss_one (ps_ret (pe_ifExp (pt_chain op_le op_lt pe_int (pv 1) (pe_callB call_len_seq (by rfl) T.len PySem.boot_len (pa_cons (pv 0) pa_nil))) (pe_ix (r := rIxT K) ix_tup (pv 0) (pv 1) (fun _ _ => rfl)) pe_non))), ?_⟩
    walk_at "go"
    refine iteP (fun c0 => ?_) (fun c0 => ?_)
    · refine ⟨_, rfl, ar, zs, rfl, .inr qs, ?_⟩
      refine ⟨_, _, rfl, rfl, _, rfl, ?_⟩
      refine iteP (fun c1 => ?_) (fun c1 => ?_)
      · walk_at "go"
        have hop : op = ((op.toNat : Nat) : Int) := (Int.toNat_of_nonneg c0).symm
        have hlt : op.toNat < zs.length := by omega
        refine ⟨ar, _, _, zs[op.toNat], rfl, rfl, qs, L2.at_of (j := op.toNat) hop (List.getElem?_eq_getElem hlt), ?_⟩
        exact q1 _ _ hop (List.getElem?_eq_getElem hlt)
      · exact q2 (.inr (by omega))
    · exact ⟨_, rfl, if_f rfl (q2 (.inl (by omega)))⟩
def sp_request_row (A : Adr) (w : World) (K : PySem.W.Frag) : Sp := fun vs H Q _ => ∃ (name : Str) (ar : Addr) (zs : List V) (op : Int), vs = [.str name, .int op] ∧ (A.a_REQUESTS == sysModules) = false ∧ KDct K w A.a_REQUESTS name (.ref ar) ∧ SqT K H ar zs ∧ ∀ H', Same H H' → RowAt K zs op H' Q
theorem sc_request_row : FnScope ["interface", "opcode"] ["interface", "opcode"] (defScope s_request_row) := ⟨rfl, rfl, rfl, by decide +kernel, rfl, by decide +kernel, by decide +kernel⟩
theorem ok_request_row (T : Txt K mg A) : FnOk P w K mg base CX0 2 A.frequest_row A.drequest_row ["interface", "opcode"] (sp_request_row A w K) := by
  refine T.Frequest_row.ok sc_request_row (fun vs H Q E h => ?_) (fun cdv Ar outer s H vs Q E hr h => ?_)
  · obtain ⟨_, _, _, _, rfl, _⟩ := h
    rfl
  · obtain ⟨name, ar, zs, op, rfl, hs, hk, qs, q⟩ := h
    refine ⟨_, (pss_one (ps_ret (pe_call (ok__row_at T) (hr.mono (by decide)) rfl T.g_row_at T.k_row_at T.b_row_at .nil pass0 (pa_cons (pe_kget2 (pe_glob (v := .ref A.a_REQUESTS) rfl T.g_REQUESTS rfl) (pv 0) (pe_tup pa_nil) ⟨rfl, rfl, rfl, rfl⟩) (pa_cons (pv 1) pa_nil))))), ?_⟩
    walk_at "go"
    refine ⟨_, name, some (.ref ar), rfl, hs, hk, _, rfl, rfl, ?_⟩
    refine ⟨len_line (by show 0 ≤ 100000; decide), fun p hp => ?_⟩
    walk_at "go"
    exact ⟨ar, zs, op, rfl, (same_upd hp).sqt qs, q _ (same_upd hp)⟩
/-- the rows of an interface's events, or none -/
def EvT (A : Adr) (w : World) (K : PySem.W.Frag) (H : Hp) (name : Str) (zs : List V) : Prop := (∃ ar, KDct K w A.a_EVENTS name (.ref ar) ∧ SqT K H ar zs) ∨ ((∃ ks, KKeys K w A.a_EVENTS ks ∧ name ∉ ks) ∧ zs = [])
theorem EvT.to {A : Adr} {w : World} {K : PySem.W.Frag} {H H' : Hp} {name : Str} {zs : List V} (h : EvT A w K H name zs) (s : Same H H') : EvT A w K H' name zs :=
  h.elim (fun ⟨ar, k, q⟩ => .inl ⟨ar, k, s.sqt q⟩) .inr
def sp_event_row (A : Adr) (w : World) (K : PySem.W.Frag) : Sp := fun vs H Q _ => ∃ (name : Str) (zs : List V) (op : Int), vs = [.str name, .int op] ∧ (A.a_EVENTS == sysModules) = false ∧ EvT A w K H name zs ∧ ∀ H', Same H H' → RowAt K zs op H' Q
theorem sc_event_row : FnScope ["interface", "opcode"] ["interface", "opcode"] (defScope s_event_row) := ⟨rfl, rfl, rfl, by decide +kernel, rfl, by decide +kernel, by decide +kernel⟩
theorem ok_event_row (T : Txt K mg A) : FnOk P w K mg base CX0 2 A.fevent_row A.devent_row ["interface", "opcode"] (sp_event_row A w K) := by
  refine T.Fevent_row.ok sc_event_row (fun vs H Q E h => ?_) (fun cdv Ar outer s H vs Q E hr h => ?_)
  · obtain ⟨_, _, _, rfl, _⟩ := h
    rfl
  · obtain ⟨name, zs, op, rfl, hs, he, q⟩ := h
    refine ⟨_, (pss_one (ps_ret (pe_call (ok__row_at T) (hr.mono (by decide)) rfl T.g_row_at T.k_row_at T.b_row_at .nil pass0 (pa_cons (pe_kget2 (pe_glob (v := .ref A.a_EVENTS) rfl T.g_EVENTS rfl) (pv 0) (pe_tup pa_nil) ⟨rfl, rfl, rfl, rfl⟩) (pa_cons (pv 1) pa_nil))))), ?_⟩
    walk_at "go"
    rcases he with ⟨ar, hk, qs⟩ | ⟨hm, rfl⟩
    · refine ⟨_, name, some (.ref ar), rfl, hs, hk, _, rfl, rfl, ?_⟩
      refine ⟨len_line (by show 0 ≤ 100000; decide), fun p hp => ?_⟩
      walk_at "go"
      exact ⟨ar, zs, op, rfl, (same_upd hp).sqt qs, q _ (same_upd hp)⟩
    · refine ⟨_, name, none, rfl, hs, hm, _, rfl, rfl, ?_⟩
      refine ⟨len_line (by show 0 ≤ 100000; decide), fun p hp => ?_⟩
      walk_at "go"
      exact ⟨p, [], op, rfl, SqT.of upd_same, q _ (same_upd hp)⟩
def sp_request_opcode (A : Adr) (w : World) (K : PySem.W.Frag) : Sp := fun vs H Q _ => ∃ (ar : Addr) (rows : List (Str × List PyData)) (intf name : Str) (j : Nat) (row : Str × List PyData), vs = [.str intf, .str name] ∧ KDct K w A.a_REQUESTS intf (.ref ar) ∧ Dp K H (.ref ar) (rowsD rows) ∧ rows.length < 1000 ∧
  rows[j]? = some row ∧ row.1 = name ∧ (∀ (m : Nat) (row' : Str × List PyData), m < j → rows[m]? = some row' → row'.1 ≠ name) ∧ ∀ H', Same H H' → Q (.int (j : Nat)) H'
theorem sc_request_opcode : FnScope ["interface", "name"] ["interface", "name"] (defScope s_request_opcode) := ⟨rfl, rfl, rfl, by decide +kernel, rfl, by decide +kernel, by decide +kernel⟩
theorem ok_request_opcode (T : Txt K mg A) : FnOk P w K mg base CX0 2 A.frequest_opcode A.drequest_opcode ["interface", "name"] (sp_request_opcode A w K) := by
  refine T.Frequest_opcode.ok sc_request_opcode (fun vs H Q E h => ?_) (fun cdv Ar outer s H vs Q E hr h => ?_)
  · obtain ⟨_, _, _, _, _, _, rfl, _⟩ := h
    rfl
  · obtain ⟨ar, rows, intf, name, j, row, rfl, hk, dr, hl, hj, hn, hm, q⟩ := h
    refine ⟨_, (pss_one (ps_ret (pe_call (ok__opcode_of T) (hr.mono (by decide)) rfl T.g_opcode_of T.k_opcode_of T.b_opcode_of .nil pass0 (pa_cons (pe_ix (r := rIxD K w) ix_kdict (pe_glob (v := .ref A.a_REQUESTS) rfl T.g_REQUESTS rfl) (pv 0) (fun _ _ => rfl)) (pa_cons (pv 1) pa_nil))))), ?_⟩
    walk_at "go"
    refine ⟨_, _, _, rfl, rfl, hk, ?_⟩
    walk_at "go"
    exact ⟨ar, rows, name, j, row, rfl, dr, hl, hj, hn, hm, q⟩
def sp_interface_names (A : Adr) (w : World) (K : PySem.W.Frag) : Sp := fun vs H Q _ => ∃ (ks : List Str), vs = [] ∧ KKeys K w A.a_REQUESTS ks ∧ ks.Nodup ∧ ks.length ≤ 1000 ∧ ∀ p H', NewL H H' p (ks.map V.str) → Q (.ref p) H'
theorem sc_interface_names : FnScope [""] [] (defScope s_interface_names) := ⟨rfl, rfl, rfl, by decide +kernel, rfl, by decide +kernel, by decide +kernel⟩
theorem ok_interface_names (T : Txt K mg A) : FnOk P w K mg base CX0 1 A.finterface_names A.dinterface_names [] (sp_interface_names A w K) := by
  refine T.Finterface_names.ok sc_interface_names (fun vs H Q E h => ?_) (fun cdv Ar outer s H vs Q E hr h => ?_)
  · obtain ⟨_, rfl, _⟩ := h
    rfl
  · obtain ⟨ks, rfl, hk, hnd, hl, q⟩ := h
    refine ⟨_, (pss_one (ps_ret (pe_callTy (call_listK rfl) (by rfl) T.list (by decide +kernel) (pa_cons (pe_glob (v := .ref A.a_REQUESTS) rfl T.g_REQUESTS rfl) pa_nil)))), ?_⟩
    walk_at "go"
    refine ⟨_, ks, rfl, hk, hnd, hl, fun p hp => q p _ ⟨hp, same_upd hp, upd_same⟩⟩
/-! ### the law's table: its rows, as they stand in the law's own text -/
def strE : Nat → Expr → Str
  | 0, _ => Str.empty
  | n + 1, e => match e with
    | .Constant (.str s) _ _ => s
    | .BinOp l _ r _ => strE n l ++ strE n r
    | _ => Str.empty
def rowsE (s : Stmt) : List Str := match s with
  | .FunctionDef _ _ [.Return (some (.List es _)) _] _ _ _ _ _ _ _ => es.map (strE 6)
  | _ => []
def tblRows : List Str := rowsE s__law_rows
def sp__law_rows : Sp := fun vs H Q _ => vs = [] ∧ ∀ p H', NewL H H' p (tblRows.map V.str) → Q (.ref p) H'
theorem sc__law_rows : FnScope [""] [] (defScope s__law_rows) := ⟨rfl, rfl, rfl, by decide +kernel, rfl, by decide +kernel, by decide +kernel⟩
theorem ok__law_rows (T : Txt K mg A) : FnOk P w K mg base CX0 1 A.f_law_rows A.d_law_rows [] sp__law_rows := by
  refine T.F_law_rows.ok sc__law_rows (fun vs H Q E h => ?_) (fun cdv Ar outer s H vs Q E hr h => ?_)
  · obtain ⟨rfl, _⟩ := h
    rfl
  · obtain ⟨rfl, q⟩ := h
    refine ⟨_, (pss_one (ps_ret (pe_lst (pa_cons pe_str (pa_cons pe_str (pa_cons pe_str (pa_cons pe_str (pa_cons pe_str (pa_cons pe_str (pa_cons pe_str (pa_cons (pe_op op_add_str pe_str pe_str) (pa_cons pe_str (pa_cons pe_str (pa_cons pe_str (pa_cons (pe_op op_add_str pe_str pe_str) (pa_cons (pe_op op_add_str (pe_op op_add_str pe_str pe_str) pe_str) (pa_cons (pe_op op_add_str pe_str pe_str) (pa_cons pe_str (pa_cons (pe_op op_add_str pe_str pe_str) (pa_cons (pe_op op_add_str pe_str pe_str) (pa_cons (pe_op op_add_str (pe_op op_add_str (pe_op op_add_str pe_str pe_str) pe_str) pe_str) (pa_cons pe_str (pa_cons pe_str (pa_cons pe_str (pa_cons pe_str (pa_cons pe_str pa_nil)))))))))))))))))))))))))), ?_⟩
    walk_at "go"
    repeat (refine ⟨by decide +kernel, ?_⟩; walk_at "go")
    rename_i p hp
    exact q p _ ⟨hp, same_upd hp, by with_unfolding_all exact upd_same⟩
/-! ### what a row says -/
abbrev Spl := Str × List Str × Bool
abbrev TR := Str × List Spl × List Spl
def parts (s : Str) (c : Nat) : List Str := if s = Str.ofString "" then [] else spS c s
def cutAt (rest : Str) : List Str := match Builtin.Str.occurrences rest ⟨#[41]⟩ 0 rest.length 1 with
  | i :: _ => parts (cutS rest none (some (i : Nat))) 44
  | [] => []
def okC (rest : Str) : Bool := match Builtin.Str.occurrences rest ⟨#[41]⟩ 0 rest.length 1 with
  | i :: _ => decide ((cutS rest none (some (i : Nat))).length ≤ 2000)
  | [] => false
def parseS (t : Str) : Spl := match spS 40 t with
  | [n, rest] => (n, cutAt rest, Txt.endswith rest ⟨#[33]⟩)
  | _ => (Str.empty, [], false)
def okS (t : Str) : Bool := decide (t.length ≤ 2000) && match spS 40 t with
  | [_, rest] => decide (rest.length ≤ 2000) && okC rest
  | _ => false
def okL (s : Str) : Bool := decide (s.length ≤ 2000) && decide ((parts s 59).length ≤ 1000) && (parts s 59).all okS
def parseT (row : Str) : TR := match spS 61 row with
  | [n, a, b] => (n, (parts a 59).map parseS, (parts b 59).map parseS)
  | _ => (Str.empty, [], [])
def okT (row : Str) : Bool := decide (row.length ≤ 2000) && match spS 61 row with
  | [_, a, b] => okL a && okL b
  | _ => false
def tab : List TR := tblRows.map parseT
def splD (r : Spl) : PyData := .tuple [.str r.1, .list (r.2.1.map PyData.str), .bool r.2.2]
def trD (t : TR) : PyData := .tuple [.str t.1, .list (t.2.1.map splD), .list (t.2.2.map splD)]
theorem tbl_ok : tblRows.all okT = true := by decide +kernel
theorem iteStr {s t : Str} {A B : Prop} (h1 : s = t → A) (h2 : s ≠ t → B) : if decide (V.str s = V.str t) = true then A else B := by
  by_cases e : s = t
  · rw [if_pos (by rw [e]; exact decide_eq_true rfl)]; exact h1 e
  · rw [if_neg (by rw [decide_eq_true_iff]; intro z; injection z with z; exact e z)]; exact h2 e
theorem iteStrN {s t : Str} {A B : Prop} (h1 : s ≠ t → A) (h2 : s = t → B) : if (!decide (V.str s = V.str t)) = true then A else B := by
  by_cases e : s = t
  · rw [if_neg (by rw [e]; simp)]; exact h2 e
  · rw [if_pos (by simp [e])]; exact h1 e
theorem szl {n : Nat} (h : n ≤ 2000) : n + 2 ≤ sizeLine := Nat.le_trans (Nat.add_le_add_right h 2) (by show 2002 ≤ sizeLine; decide)
theorem szl' {n : Nat} (h : n ≤ 2000) : n ≤ sizeLine := Nat.le_trans h (by show 2000 ≤ sizeLine; decide)
theorem split59 (s : Str) : Txt.split s (Str.ofString ";") = spS 59 s := by rw [show Str.ofString ";" = ⟨#[59]⟩ from by decide +kernel, split_sp]
theorem split40 (s : Str) : Txt.split s (Str.ofString "(") = spS 40 s := by rw [show Str.ofString "(" = ⟨#[40]⟩ from by decide +kernel, split_sp]
theorem split44 (s : Str) : Txt.split s (Str.ofString ",") = spS 44 s := by rw [show Str.ofString "," = ⟨#[44]⟩ from by decide +kernel, split_sp]
theorem split61 (s : Str) : Txt.split s (Str.ofString "=") = spS 61 s := by rw [show Str.ofString "=" = ⟨#[61]⟩ from by decide +kernel, split_sp]
theorem dpallS {K : PySem.W.Frag} {H : Hp} : ∀ (ss : List Str), DpAll K H (ss.map V.str) (ss.map PyData.str)
  | [] => .nil
  | s :: r => .cons (.str s) (dpallS r)
def sp__law_list : Sp := fun vs H Q _ => ∃ s : Str, vs = [.str s] ∧ s.length ≤ 2000 ∧ ∀ p H', NewL H H' p ((parts s 59).map V.str) → Q (.ref p) H'
theorem sc__law_list : FnScope ["text"] ["text"] (defScope s__law_list) := ⟨rfl, rfl, rfl, by decide +kernel, rfl, by decide +kernel, by decide +kernel⟩
theorem ok__law_list (T : Txt K mg A) : FnOk P w K mg base CX0 1 A.f_law_list A.d_law_list ["text"] sp__law_list := by
  refine T.F_law_list.ok sc__law_list (fun vs H Q E h => ?_) (fun cdv Ar outer st H vs Q E hr h => ?_)
  · obtain ⟨_, rfl, _⟩ := h
    rfl
  · obtain ⟨s, rfl, hl, q⟩ := h
    refine ⟨_, (pss_cons (ps_if (pt_cmpR op_eq (pv 0) pe_str (nomark _))
      (pss_one (ps_ret (pe_lst pa_nil)))
      pss_nil)
      (pss_one (ps_ret (pe_split (pv 0) pe_str)))), ?_⟩
    walk_at "go"
    refine iteStr (fun e => ?_) (fun e => ?_)
    · refine ⟨len_line (by show 0 ≤ 100000; decide), fun p hp => q p _ ⟨hp, same_upd hp, ?_⟩⟩
      rw [show parts s 59 = [] from if_pos e]
      exact upd_same
    · refine ⟨_, rfl, ⟨s, rfl⟩, s, _, rfl, rfl, by decide +kernel, szl hl, fun p hp => q p _ ⟨hp, same_upd hp, ?_⟩⟩
      rw [show parts s 59 = spS 59 s from if_neg e, split59]
      exact upd_same
def sp__law_split (K : PySem.W.Frag) : Sp := fun vs H Q _ => ∃ (t : Str) (U : Hp), vs = [.str t] ∧ okS t = true ∧ Same U H ∧ ∀ v U' H', Ext U H U' H' → Dp K U' v (splD (parseS t)) → Q v H'
theorem okS_ex {t : Str} (h : okS t = true) : t.length ≤ 2000 ∧ ∃ n rest i tl, spS 40 t = [n, rest] ∧ rest.length ≤ 2000 ∧ Builtin.Str.occurrences rest ⟨#[41]⟩ 0 rest.length 1 = i :: tl ∧ (cutS rest none (some (i : Nat))).length ≤ 2000 ∧ parseS t = (n, parts (cutS rest none (some (i : Nat))) 44, Txt.endswith rest ⟨#[33]⟩) := by
  unfold okS at h
  rw [Bool.and_eq_true] at h
  refine ⟨of_decide_eq_true h.1, ?_⟩
  have h2 := h.2
  split at h2
  · rename_i n rest e
    rw [Bool.and_eq_true] at h2
    have h3 := h2.2
    unfold okC at h3
    split at h3
    · rename_i i tl e2
      refine ⟨n, rest, i, tl, e, of_decide_eq_true h2.1, e2, of_decide_eq_true h3, ?_⟩
      unfold parseS cutAt
      rw [e]
      dsimp only
      rw [e2]
    · cases h3
  · cases h2
theorem sc__law_split : FnScope ["text", "name", "rest", "ends", "inner", "words"] ["text"] (defScope s__law_split) := ⟨rfl, rfl, rfl, by decide +kernel, rfl, by decide +kernel, by decide +kernel⟩
theorem ok__law_split (T : Txt K mg A) : FnOk P w K mg base CX0 1 A.f_law_split A.d_law_split ["text"] (sp__law_split K) := by
  refine T.F_law_split.ok sc__law_split (fun vs H Q E h => ?_) (fun cdv Ar outer st H vs Q E hr h => ?_)
  · obtain ⟨_, _, rfl, _⟩ := h
    rfl
  · obtain ⟨t, U, rfl, ho, sU, q⟩ := h
    obtain ⟨hl, n, rest, i, tl, e1, h2, e2, h3, e3⟩ := okS_ex ho
    rw [e3] at q
    refine ⟨_, (pss_cons (ps_asg (pe_split (pv 0) pe_str) (pg_unl rfl (pgs_cons (pg_name (i := 1) sc__law_split.nd rfl (Or.inl rfl)) (pgs_cons (pg_name (i := 2) sc__law_split.nd rfl (Or.inl rfl)) pgs_nil))))
      (pss_cons (ps_set (i := 3) sc__law_split.nd rfl (Or.inl rfl) (pe_m1 PySem.F.slot_str_endswith PySem.F.type_str_endswith mt_endswith (pv 2) pe_str))
      (pss_cons (ps_set (i := 4) sc__law_split.nd rfl (Or.inl rfl) (pe_slice sl_str (pv 2) po_none (po_some (pe_m1 PySem.F.slot_str_index PySem.F.type_str_index mt_sindex (pv 2) pe_str))))
      (pss_cons (ps_set (i := 5) sc__law_split.nd rfl (Or.inl rfl) (pe_lst pa_nil))
      (pss_cons (ps_if (pt_cmpR op_ne (pv 4) pe_str (nomark _))
      (pss_one (ps_set (i := 5) sc__law_split.nd rfl (Or.inl rfl) (pe_split (pv 4) pe_str)))
      pss_nil)
      (pss_one (ps_ret (pe_tup (pa_cons (pv 1) (pa_cons (pv 5) (pa_cons (pv 3) pa_nil))))))))))), ?_⟩
    walk_at "go"
    refine ⟨⟨t, rfl⟩, t, _, rfl, rfl, by decide +kernel, szl hl, fun p hp => ?_⟩
    rw [split40, e1]
    refine ⟨p, _, rfl, SqL.of upd_same, rfl, ?_⟩
    have x1 := Ext.skip (o := .lst ([n, rest].map V.str)) sU hp
    walk_at "go"
    refine ⟨⟨rest, rfl⟩, rest, _, rfl, rfl, ?_⟩
    walk_at "go"
    refine ⟨⟨rest, rfl⟩, rest, _, i, tl, rfl, rfl, by rw [show Str.ofString ")" = ⟨#[41]⟩ from by decide +kernel]; exact e2, _, rfl, rest, rfl, szl' h2, ?_⟩
    rw [show (some ((i : Nat) : Int)) = some (i : Int) from rfl] at *
    generalize cutS rest none (some (i : Int)) = inner at h3 q ⊢
    rw [show Txt.endswith rest ⟨#[33]⟩ = Txt.endswith rest (Str.ofString "!") from by rw [show Str.ofString "!" = ⟨#[33]⟩ from by decide +kernel]] at q
    generalize Txt.endswith rest (Str.ofString "!") = bb at q ⊢
    walk_at "go"
    rename_i p2 hp2
    have x2 := x1.trans (Ext.skip (o := .lst []) x1.vh hp2)
    refine iteStrN (fun e => ?_) (fun e => ?_)
    · walk_at "go"
      refine ⟨⟨inner, rfl⟩, inner, _, rfl, rfl, by decide +kernel, szl h3, fun p3 hp3 => ?_⟩
      rw [show parts inner 44 = spS 44 inner from if_neg e] at q
      rw [split44]
      walk_at "go"
      rename_i pt hpt
      have x3 := Ext.new (o := .lst ((spS 44 inner).map V.str)) x2.vh hp3
      have x4 := Ext.new (o := .tup [.str n, .ref p3, .bl bb]) x3.vh hpt
      have d3 : Dp K (upd U p3 (.lst ((spS 44 inner).map V.str))) (.ref p3) (.list ((spS 44 inner).map PyData.str)) := .lst (SqL.of upd_same) (dpallS _)
      exact q _ _ _ (x2.trans (x3.trans x4)) (.tup (SqT.of upd_same) (.cons (.str _) (.cons (d3.to x4.vv) (.cons (.bl _) .nil))))
    · rw [show parts inner 44 = [] from if_pos e] at q
      walk_at "go"
      rename_i pt hpt
      have x3 := Ext.new (o := .lst []) x1.vh hp2
      have x4 := Ext.new (o := .tup [.str n, .ref p2, .bl bb]) x3.vh hpt
      have d3 : Dp K (upd U p2 (.lst [])) (.ref p2) (.list []) := .lst (SqL.of upd_same) .nil
      exact q _ _ _ (x1.trans (x3.trans x4)) (.tup (SqT.of upd_same) (.cons (.str _) (.cons (d3.to x4.vv) (.cons (.bl _) .nil))))
def sp__law_table (K : PySem.W.Frag) : Sp := fun vs H Q _ => ∃ U : Hp, vs = [] ∧ Same U H ∧ ∀ p U' H', Ext U H U' H' → Dp K U' (.ref p) (.list (tab.map trD)) → Q (.ref p) H'
theorem okT_ex {t : Str} (h : okT t = true) : t.length ≤ 2000 ∧ ∃ n a b, spS 61 t = [n, a, b] ∧ okL a = true ∧ okL b = true ∧ parseT t = (n, (parts a 59).map parseS, (parts b 59).map parseS) := by
  unfold okT at h
  rw [Bool.and_eq_true] at h
  refine ⟨of_decide_eq_true h.1, ?_⟩
  have h2 := h.2
  split at h2
  · rename_i n a b e
    rw [Bool.and_eq_true] at h2
    refine ⟨n, a, b, e, h2.1, h2.2, ?_⟩
    unfold parseT
    rw [e]
  · cases h2
theorem okL_ex {s : Str} (h : okL s = true) : s.length ≤ 2000 ∧ (parts s 59).length ≤ 1000 ∧ ∀ t ∈ parts s 59, okS t = true := by
  unfold okL at h
  rw [Bool.and_eq_true, Bool.and_eq_true, List.all_eq_true] at h
  exact ⟨of_decide_eq_true h.1.1, of_decide_eq_true h.1.2, h.2⟩
theorem sc__law_table : FnScope ["table", "row", "name", "requests", "events", "t"] [] (defScope s__law_table) := ⟨rfl, rfl, rfl, by decide +kernel, rfl, by decide +kernel, by decide +kernel⟩
theorem ok__law_table (T : Txt K mg A) : FnOk P w K mg base CX0 2 A.f_law_table A.d_law_table [] (sp__law_table K) := by
  refine T.F_law_table.ok sc__law_table (fun vs H Q E h => ?_) (fun cdv Ar outer st H vs Q E hr h => ?_)
  · obtain ⟨_, rfl, _⟩ := h
    rfl
  · obtain ⟨U, rfl, sU, q⟩ := h
    refine ⟨_, (pss_cons (ps_set (i := 0) sc__law_table.nd rfl (Or.inl rfl) (pe_lst pa_nil))
      (pss_cons (ps_for PassesOwn.never rfl (pi_list (pe_call0 (ok__law_rows T) (hr.mono (by decide)) rfl T.g_law_rows T.k_law_rows T.b_law_rows .nil pass0)) (pg_name (i := 1) sc__law_table.nd rfl (Or.inl rfl))
      (pss_cons (ps_asg (pe_split (pv 1) pe_str) (pg_unl rfl (pgs_cons (pg_name (i := 2) sc__law_table.nd rfl (Or.inl rfl)) (pgs_cons (pg_name (i := 3) sc__law_table.nd rfl (Or.inl rfl)) (pgs_cons (pg_name (i := 4) sc__law_table.nd rfl (Or.inl rfl)) pgs_nil)))))
      (pss_one (ps_expr (pe_bm PySem.F.plainAttrs_list PySem.F.slot_list_append PySem.F.type_list_append mt_append (pv 0) (pa_cons (pe_tup (pa_cons (pv 2) (pa_cons (pe_lc (own := [("t", 5)]) (g := (gName 5)) (tt := tYes) rfl sc__law_table.nd (pi_list (pe_call (ok__law_list T) (hr.mono (by decide)) rfl T.g_law_list T.k_law_list T.b_law_list .nil pass0 (pa_cons (pv 3) pa_nil))) (blkOk_by (own := [("t", 5)]) (N := ["table", "row", "name", "requests", "events", "t"]) (sc := defScope s__law_table) (by decide +kernel)) (fun _ _ _ _ _ => (pg_name (i := 5) sc__law_table.nd rfl (Or.inl rfl))) (fun _ _ _ _ _ => pts_nil) (fun _ _ _ _ _ => by exact (pe_call (ok__law_split T) (hr.mono (by decide)) rfl T.g_law_split T.k_law_split T.b_law_split .nil pass0 (pa_cons (pv 5) pa_nil)))) (pa_cons (pe_lc (own := [("t", 5)]) (g := (gName 5)) (tt := tYes) rfl sc__law_table.nd (pi_list (pe_call (ok__law_list T) (hr.mono (by decide)) rfl T.g_law_list T.k_law_list T.b_law_list .nil pass0 (pa_cons (pv 4) pa_nil))) (blkOk_by (own := [("t", 5)]) (N := ["table", "row", "name", "requests", "events", "t"]) (sc := defScope s__law_table) (by decide +kernel)) (fun _ _ _ _ _ => (pg_name (i := 5) sc__law_table.nd rfl (Or.inl rfl))) (fun _ _ _ _ _ => pts_nil) (fun _ _ _ _ _ => by exact (pe_call (ok__law_split T) (hr.mono (by decide)) rfl T.g_law_split T.k_law_split T.b_law_split .nil pass0 (pa_cons (pv 5) pa_nil)))) pa_nil)))) pa_nil))))))
      (pss_one (ps_ret (pv 0))))), ?_⟩
    walk_at "go"
    rename_i D hD
    walk_at "go"
    intro p H1 nl
    have eD1 : H1 D = some (.lst []) := nl.same _ _ upd_same
    have npD : p ≠ D := fun z => by have := nl.new; rw [z, upd_same] at this; cases this
    have uD : (upd U p (.lst (tblRows.map V.str))) D = none := (upd_ne npD.symm).trans (sU.free hD)
    refine ⟨p, rfl, ⟨_, SqL.of nl.at_⟩, for_list (K := K) (a := p) (xs := tblRows.map V.str) (fun i σ H' => ∃ v1 v2 v3 v4 v5, σ = [some (.ref D), v1, v2, v3, v4, v5] ∧ H' p = some (.lst (tblRows.map V.str)) ∧ LcInv K U H D ((tab.take i).map trD) H') ⟨_, _, _, _, _, rfl, nl.at_, ⟨_, [], (Ext.skip sU hD).trans (nl.ext (sU.trans (same_upd hD))), uD, eD1, .nil⟩⟩ (fun i σ H' _ ⟨_, _, _, _, _, _, s, _⟩ => SqL.of s) ?_ ?_⟩
    · rintro i x σ H2 hx ⟨v1, v2, v3, v4, v5, rfl, s12, L⟩
      rw [List.getElem?_map] at hx
      obtain ⟨row, hrow, rfl⟩ := Option.map_eq_some_iff.mp hx
      obtain ⟨hl, n, a, b, e1, oa, ob, e3⟩ := okT_ex (List.all_eq_true.mp tbl_ok row (List.mem_of_getElem? hrow))
      obtain ⟨la, na, oka⟩ := okL_ex oa
      obtain ⟨lb, nb, okb⟩ := okL_ex ob
      obtain ⟨V2, ys, xL, vD, eD, dL⟩ := L.ex
      have htk : (tab.take (i + 1)).map trD = (tab.take i).map trD ++ [trD (parseT row)] := by
        have hti : tab[i]? = some (parseT row) := by unfold tab; rw [List.getElem?_map, hrow]; rfl
        obtain ⟨g1, g2⟩ := List.getElem?_eq_some_iff.mp hti
        rw [List.take_succ_eq_append_getElem g1, g2, List.map_append]; rfl
      have hle : ((tab.take i).map trD).length < 100000 := by
        have : tblRows.length = 23 := by decide +kernel
        have := (List.getElem?_eq_some_iff.mp hrow).1
        rw [List.length_map, List.length_take]; omega
      walk_at "go"
      refine ⟨⟨row, rfl⟩, row, _, rfl, rfl, by decide +kernel, szl hl, fun p2 hp2 => ?_⟩
      rw [split61, e1]
      refine ⟨p2, _, rfl, SqL.of upd_same, rfl, ?_⟩
      have x1 := Ext.skip (o := .lst ([n, a, b].map V.str)) xL.vh hp2
      have x02 := xL.trans x1
      walk_at "go"
      refine ⟨.inl ⟨rfl, _, SqL.of (x1.hh _ _ eD)⟩, ?_⟩
      walk_at "go"
      refine ⟨la, fun pa H3 n3 => ?_⟩
      have x3 := n3.ext x02.vh
      have x03 := x02.trans x3
      walk_at "go"
      refine ⟨⟨_, SqL.of n3.at_⟩, fun D1 hD1 => ?_⟩
      refine lc_dp (walk_list (K := K) (a := pa) (xs := (parts a 59).map V.str)) (K := K) (V0 := upd V2 pa (.lst ((parts a 59).map V.str))) (H0 := H3) (fun i => ((parts a 59)[i]?).map fun t => splD (parseS t)) _ rfl x03.vh hD1 (by rw [List.length_map]; omega) (fun H' s => s.seq (SqL.of n3.at_)) (fun i x H H' y => y.1) ?_ ?_
      · rintro m z U4 H4 hm xx ⟨_, hz⟩ Qy Qn hy hno
        rw [List.getElem?_map] at hz
        obtain ⟨t, ht, rfl⟩ := Option.map_eq_some_iff.mp hz
        walk_at "go"
        exact ⟨t, U4, rfl, oka t (List.mem_of_getElem? ht), xx.vh, fun v U' H' x d => hy _ _ _ _ (by rw [ht]; rfl) x d⟩
      · rintro U4 H4 ws1 xx4 uD1 dA1 dl1
        rw [List.length_map, fm_map] at dl1
        have x04 := x03.trans xx4
        walk_at "go"
        refine ⟨lb, fun pb H5 n5 => ?_⟩
        have x5 := n5.ext x04.vh
        have x05 := x04.trans x5
        walk_at "go"
        refine ⟨⟨_, SqL.of n5.at_⟩, fun D2 hD2 => ?_⟩
        refine lc_dp (walk_list (K := K) (a := pb) (xs := (parts b 59).map V.str)) (K := K) (V0 := upd U4 pb (.lst ((parts b 59).map V.str))) (H0 := H5) (fun i => ((parts b 59)[i]?).map fun t => splD (parseS t)) _ rfl x05.vh hD2 (by rw [List.length_map]; omega) (fun H' s => s.seq (SqL.of n5.at_)) (fun i x H H' y => y.1) ?_ ?_
        · rintro m z U6 H6 hm xx ⟨_, hz⟩ Qy Qn hy hno
          rw [List.getElem?_map] at hz
          obtain ⟨t, ht, rfl⟩ := Option.map_eq_some_iff.mp hz
          walk_at "go"
          exact ⟨t, U6, rfl, okb t (List.mem_of_getElem? ht), xx.vh, fun v U' H' x d => hy _ _ _ _ (by rw [ht]; rfl) x d⟩
        · rintro U6 H6 ws2 xx6 uD2 dA2 dl2
          rw [List.length_map, fm_map] at dl2
          have x06 := x05.trans xx6
          walk_at "go"
          rename_i pt hpt
          have x7 := Ext.new (o := .tup [.str n, .ref D1, .ref D2]) x06.vh hpt
          have x26 := x1.trans (x3.trans (xx4.trans (x5.trans (xx6.trans x7))))
          have dt : Dp K (upd U6 pt (.tup [.str n, .ref D1, .ref D2])) (.ref pt) (trD (parseT row)) := by
            rw [e3]
            refine .tup (SqT.of upd_same) (.cons (.str _) (.cons ?_ (.cons ?_ .nil)))
            · show Dp K _ _ (.list (((parts a 59).map parseS).map splD))
              rw [List.map_map]
              exact dl1.to (x5.vv.trans (xx6.vv.trans x7.vv))
            · show Dp K _ _ (.list (((parts b 59).map parseS).map splD))
              rw [List.map_map]
              exact dl2.to x7.vv
          obtain ⟨acc', f1, f2, f3⟩ := LcInv.push hD xL vD eD dL x26 dt hle
          refine ⟨D, acc', .ref pt, rfl, rfl, f1, f2, ?_⟩
          exact ⟨_, _, _, _, _, rfl, (upd_ne npD).trans (x26.hh _ _ s12), by rw [htk]; exact f3⟩
    · rintro σ H2 ⟨v1, v2, v3, v4, v5, rfl, s12, L⟩
      obtain ⟨U2, xs, x, e1, e2, e3⟩ := L.done hD
      rw [show tab.take (tblRows.map V.str).length = tab from by rw [List.length_map, show tblRows.length = tab.length from by unfold tab; rw [List.length_map], List.take_length]] at e3
      walk_at "go"
      exact q _ _ _ x e3
/-! ### a row of the law's table against the program's -/
structure TabRow (A : Adr) (w : World) (K : PySem.W.Frag) (t : TR) : Prop where
  sr : (A.a_REQUESTS == sysModules) = false
  se : (A.a_EVENTS == sysModules) = false
  rq : ∃ ar, KDct K w A.a_REQUESTS t.1 (.ref ar) ∧ ∀ H, Dp K H (.ref ar) (rqD t.2.1)
  ev : (∃ ar, KDct K w A.a_EVENTS t.1 (.ref ar) ∧ ∀ H, Dp K H (.ref ar) (evD (t.2.2.map fun r => (r.1, r.2.1)))) ∨ ((∃ ks, KKeys K w A.a_EVENTS ks ∧ t.1 ∉ ks) ∧ t.2.2 = [])
  d1 : (t.2.1.map fun r => r.1).Nodup
  d2 : (t.2.2.map fun r => r.1).Nodup
  l1 : t.2.1.length ≤ 100
  l2 : t.2.2.length ≤ 100
  s1 : ∀ r ∈ t.2.1, ∀ s ∈ r.2.1, PyData.strOk s = true
  s2 : ∀ r ∈ t.2.2, ∀ s ∈ r.2.1, PyData.strOk s = true
  k2 : ∀ r ∈ t.2.2, ∀ s ∈ r.2.1, s ∈ kindsL
  n2 : ∀ r ∈ t.2.2, r.2.1.length ≤ 20
theorem TabRow.evz {A : Adr} {w : World} {K : PySem.W.Frag} {t : TR} (h : TabRow A w K t) (H : Hp) : ∃ ze, EvT A w K H t.1 ze ∧ DpAll K H ze ((t.2.2.map fun r : Spl => ((r.1, r.2.1) : Str × List Str)).map fun r => .tuple [.str r.1, .tuple (r.2.map PyData.str)]) := by
  rcases h.ev with ⟨ar, k, d⟩ | ⟨m, e⟩
  · obtain ⟨er', ze, e0, qe, dse⟩ := dp_tuple (d H)
    cases e0
    exact ⟨ze, .inl ⟨ar, k, qe⟩, dse⟩
  · refine ⟨[], .inr ⟨m, rfl⟩, ?_⟩
    rw [e]
    exact .nil
theorem neSelf {x : V} {A B : Prop} (h : B) : if (!decide (x = x)) = true then A else B := by rw [if_neg (by simp)]; exact h
theorem sh_strs {ss : List Str} (h : ∀ s ∈ ss, PyData.strOk s = true) : Sh 1 (.list (ss.map PyData.str)) := sh_list fun d hd => by
  obtain ⟨s, hs, rfl⟩ := List.mem_map.mp hd
  exact sh_str (h s hs)
theorem RowAt.past {K : PySem.W.Frag} {zs : List V} {op : Int} {H : Hp} {Q : VK} (h : (zs.length : Int) ≤ op) (q : Q .non H) : RowAt K zs op H Q :=
  ⟨fun i z hi hz => by have := (List.getElem?_eq_some_iff.mp hz).1; omega, fun _ => q⟩
def sp__law_row_fits (A : Adr) (w : World) (K : PySem.W.Frag) : Sp := fun vs H Q _ => ∃ (r : Addr) (t : TR), vs = [.ref r] ∧ TabRow A w K t ∧ Dp K H (.ref r) (trD t) ∧ ∀ H', Same H H' → Q (.bl true) H'
theorem sc__law_row_fits : FnScope ["row", "name", "requests", "events", "k", "told", "beyond"] ["row"] (defScope s__law_row_fits) := ⟨rfl, rfl, rfl, by decide +kernel, rfl, by decide +kernel, by decide +kernel⟩
theorem ok__law_row_fits (T : Txt K mg A) : FnOk P w K mg base CX0 3 A.f_law_row_fits A.d_law_row_fits ["row"] (sp__law_row_fits A w K) := by
  refine T.F_law_row_fits.ok sc__law_row_fits (fun vs H Q E h => ?_) (fun cdv Ar outer st H vs Q E hr h => ?_)
  · obtain ⟨_, _, rfl, _⟩ := h
    rfl
  · obtain ⟨r, t, rfl, TR, dr, q⟩ := h
    obtain ⟨r', zs, e0, qs, ds⟩ := dp_tuple dr
    cases e0
    cases ds with
    | cons d1 d2 => cases d2 with
      | cons d2 d3 => cases d3 with
        | cons d3 d4 =>
          cases d4
          obtain rfl := dp_str d1
          obtain ⟨p1, z1, rfl, q1, m1⟩ := dp_list d2
          obtain ⟨p2, z2, rfl, q2, m2⟩ := dp_list d3
          obtain ⟨ar, kr, dq⟩ := TR.rq
          have hz1 : z1.length = t.2.1.length := by rw [dpall_len m1, List.length_map]
          have hz2 : z2.length = t.2.2.length := by rw [dpall_len m2, List.length_map]
          have hl1 := TR.l1
          have hl2 := TR.l2
          refine ⟨_, (pss_cons (ps_asg (pv 0) (pg_tup rfl (pgs_cons (pg_name (i := 1) sc__law_row_fits.nd rfl (Or.inl rfl)) (pgs_cons (pg_name (i := 2) sc__law_row_fits.nd rfl (Or.inl rfl)) (pgs_cons (pg_name (i := 3) sc__law_row_fits.nd rfl (Or.inl rfl)) pgs_nil)))))
      (C8.pss_cut (ps_for PassesOwn.never rfl (pi_range1 (by rfl) T.range (pa_cons (pe_callB call_len_seq (by rfl) T.len PySem.boot_len (pa_cons (pv 2) pa_nil)) pa_nil)) (pg_name (i := 4) sc__law_row_fits.nd rfl (Or.inl rfl))
      (pss_cons (ps_set (i := 5) sc__law_row_fits.nd rfl (Or.inl rfl) (pe_call (ok_request_row T) (hr.mono (by decide)) rfl T.grequest_row T.krequest_row T.brequest_row .nil pass0 (pa_cons (pv 1) (pa_cons (pv 4) pa_nil))))
      (pss_cons (ps_if (PW.pt (pw_or (pt_cmpR op_isN (pv 5) pe_non (nomark _)) (pw_or (pt_cmpR op_ne (pe_ix (r := rIxT K) ix_tup (pv 5) pe_int (fun _ _ => rfl)) (pe_ix (r := rIxT K) ix_tup (pe_ix (r := rIxL K) ix_list (pv 2) (pv 4) (fun _ _ => rfl)) pe_int (fun _ _ => rfl)) (nomark _)) (pw_or (pt_cmpR (op_neD hr.units) (pe_callTy call_list_of (by rfl) T.list (by decide +kernel) (pa_cons (pe_ix (r := rIxT K) ix_tup (pv 5) pe_int (fun _ _ => rfl)) pa_nil)) (pe_ix (r := rIxT K) ix_tup (pe_ix (r := rIxL K) ix_list (pv 2) (pv 4) (fun _ _ => rfl)) pe_int (fun _ _ => rfl)) (nomark _)) (pw_or1 (pt_cmpR op_ne (pe_ix (r := rIxT K) ix_tup (pv 5) pe_int (fun _ _ => rfl)) (pe_ix (r := rIxT K) ix_tup (pe_ix (r := rIxL K) ix_list (pv 2) (pv 4) (fun _ _ => rfl)) pe_int (fun _ _ => rfl)) (nomark _)))))))
      (pss_one (ps_ret pe_bl))
      pss_nil)
      (pss_one (ps_if (pt_cmpR op_ne (pe_call (ok_request_opcode T) (hr.mono (by decide)) rfl T.grequest_opcode T.krequest_opcode T.brequest_opcode .nil pass0 (pa_cons (pv 1) (pa_cons (pe_ix (r := rIxT K) ix_tup (pe_ix (r := rIxL K) ix_list (pv 2) (pv 4) (fun _ _ => rfl)) pe_int (fun _ _ => rfl)) pa_nil))) (pv 4) (nomark _))
      (pss_one (ps_ret pe_bl))
      pss_nil)))))
      (C8.pss_cut (ps_for PassesOwn.never rfl (pi_range1 (by rfl) T.range (pa_cons (pe_callB call_len_seq (by rfl) T.len PySem.boot_len (pa_cons (pv 3) pa_nil)) pa_nil)) (pg_name (i := 4) sc__law_row_fits.nd rfl (Or.inl rfl))
      (pss_cons (ps_set (i := 5) sc__law_row_fits.nd rfl (Or.inl rfl) (pe_call (ok_event_row T) (hr.mono (by decide)) rfl T.gevent_row T.kevent_row T.bevent_row .nil pass0 (pa_cons (pv 1) (pa_cons (pv 4) pa_nil))))
      (pss_one (ps_if (PW.pt (pw_or (pt_cmpR op_isN (pv 5) pe_non (nomark _)) (pw_or (pt_cmpR op_ne (pe_ix (r := rIxT K) ix_tup (pv 5) pe_int (fun _ _ => rfl)) (pe_ix (r := rIxT K) ix_tup (pe_ix (r := rIxL K) ix_list (pv 3) (pv 4) (fun _ _ => rfl)) pe_int (fun _ _ => rfl)) (nomark _)) (pw_or1 (pt_cmpR (op_neD hr.units) (pe_callTy call_list_of (by rfl) T.list (by decide +kernel) (pa_cons (pe_ix (r := rIxT K) ix_tup (pv 5) pe_int (fun _ _ => rfl)) pa_nil)) (pe_ix (r := rIxT K) ix_tup (pe_ix (r := rIxL K) ix_list (pv 3) (pv 4) (fun _ _ => rfl)) pe_int (fun _ _ => rfl)) (nomark _))))))
      (pss_one (ps_ret pe_bl))
      pss_nil))))
      (pss_cons (ps_set (i := 6) sc__law_row_fits.nd rfl (Or.inl rfl) (pe_op op_add (pe_callB call_len_seq (by rfl) T.len PySem.boot_len (pa_cons (pv 2) pa_nil)) (pe_callB call_len_seq (by rfl) T.len PySem.boot_len (pa_cons (pv 3) pa_nil))))
      (pss_one (ps_ret (pe_and (pe_cmpR op_isN (pe_call (ok_request_row T) (hr.mono (by decide)) rfl T.grequest_row T.krequest_row T.brequest_row .nil pass0 (pa_cons (pv 1) (pa_cons (pe_callB call_len_seq (by rfl) T.len PySem.boot_len (pa_cons (pv 2) pa_nil)) pa_nil))) pe_non (nomark _)) (pe_and (pe_cmpR op_isN (pe_call (ok_event_row T) (hr.mono (by decide)) rfl T.gevent_row T.kevent_row T.bevent_row .nil pass0 (pa_cons (pv 1) (pa_cons (pe_callB call_len_seq (by rfl) T.len PySem.boot_len (pa_cons (pv 3) pa_nil)) pa_nil))) pe_non (nomark _)) (pe_and (pe_cmpR op_isN (pe_call (ok_request_row T) (hr.mono (by decide)) rfl T.grequest_row T.krequest_row T.brequest_row .nil pass0 (pa_cons (pv 1) (pa_cons (pe_op op_add (pv 6) pe_int) pa_nil))) pe_non (nomark _)) (pe_one (pe_cmpR op_isN (pe_call (ok_event_row T) (hr.mono (by decide)) rfl T.gevent_row T.kevent_row T.bevent_row .nil pass0 (pa_cons (pv 1) (pa_cons (pe_op op_add (pv 6) pe_int) pa_nil))) pe_non (nomark _)))))))))))), ?_⟩
          walk_at "go"
          refine ⟨fun σ H' => ∃ v4 v5, σ = [some (.ref r), some (.str t.1), some (.ref p1), some (.ref p2), v4, v5, none] ∧ Same H H', ?_, ?_⟩
          · walk_at "go"
            refine ⟨by omega, by omega, ?_⟩
            refine for_range (lo := 0) (fun i σ H' => ∃ v4 v5, σ = [some (.ref r), some (.str t.1), some (.ref p1), some (.ref p2), v4, v5, none] ∧ Same H H') ⟨_, _, rfl, Same.refl _⟩ ?_ ?_
            · rintro i σ H2 hi ⟨v4, v5, rfl, s2⟩
              have hil : i < t.2.1.length := by omega
              obtain ⟨sp, hsp⟩ : ∃ sp, t.2.1[i]? = some sp := ⟨_, List.getElem?_eq_getElem hil⟩
              obtain ⟨ar', zs, e0, qs, ds⟩ := dp_tuple (dq H2)
              cases e0
              obtain ⟨z, hz, dz⟩ := dpall_get' ds (i := i) (d := .tuple [.str sp.1, .tuple (sp.2.1.map PyData.str), .bool sp.2.2]) (by rw [List.getElem?_map, hsp]; rfl)
              obtain ⟨pt, ws, rfl, qw, dw⟩ := dp_tuple dz
              obtain ⟨y, hy, dy⟩ := dpall_get' m1 (i := i) (d := splD sp) (by rw [List.getElem?_map, hsp]; rfl)
              obtain ⟨py, us, rfl, qu, du⟩ := dp_tuple dy
              cases dw with
              | cons w1 w2 => cases w2 with
                | cons w2 w3 => cases w3 with
                  | cons w3 w4 =>
                    cases w4
                    obtain rfl := dp_str w1
                    obtain rfl := dp_bool w3
                    cases du with
                    | cons u1 u2 => cases u2 with
                      | cons u2 u3 => cases u3 with
                        | cons u3 u4 =>
                          cases u4
                          obtain rfl := dp_str u1
                          obtain rfl := dp_bool u3
                          obtain ⟨pk, ks, rfl, qk, dk⟩ := dp_tuple w2
                          obtain rfl := dpall_strs dk
                          obtain ⟨pu, ys, rfl, qpu, dpu⟩ := dp_list u2
                          obtain rfl := dp_strsV dpu
                          have qk2 := qk
                          have hok := TR.s1 sp (List.mem_of_getElem? hsp)
                          have qu2 := s2.sqt qu
                          have q12 := s2.seq q1
                          walk_at "go"
                          refine ⟨t.1, ar, zs, (i : Int), by rw [Int.zero_add]; rfl, TR.sr, kr, qs, fun H3 s3 => ⟨fun j z' hj hz' => ?_, fun hc => ?_⟩⟩
                          · obtain rfl : i = j := by omega
                            obtain rfl : V.ref pt = z' := Option.some.inj (hz.symm.trans hz')
                            have qw3 := s3.sqt qw
                            have qu3 := s3.sqt qu2
                            have qk3 := s3.sqt qk
                            have q13 := s3.seq q12
                            walk_at "go"
                            refine ⟨p1, _, _, .ref py, rfl, rfl, q13, L2.at_of (j := i) (by omega) hy, ?_⟩
                            walk_at "go"
                            refine neSelf ?_
                            walk_at "go"
                            intro l hl
                            have s23 := s2.trans s3
                            have s24 := s23.trans (same_upd (o := .lst (sp.2.1.map V.str)) hl)
                            have qw4 := (same_upd (o := .lst (sp.2.1.map V.str)) hl).sqt qw3
                            have qu4 := s24.sqt qu
                            have q14 := s24.seq q1
                            walk_at "go"
                            refine ⟨p1, _, _, .ref py, rfl, rfl, q14, L2.at_of (j := i) (by omega) hy, ?_⟩
                            walk_at "go"
                            refine t_ne (d := .list (sp.2.1.map PyData.str)) (e := .list (sp.2.1.map PyData.str)) (.lst (SqL.of upd_same) (dpallS _)) (.lst (s24.seq qpu) (dpallS _)) (sh_strs hok).shaped (sh_strs hok).shaped ?_
                            refine ⟨_, rfl, ne_self (sh_strs hok).shaped rfl ?_⟩
                            walk_at "go"
                            refine ⟨p1, _, _, .ref py, rfl, rfl, q14, L2.at_of (j := i) (by omega) hy, ?_⟩
                            walk_at "go"
                            refine neSelf ?_
                            walk_at "go"
                            refine ⟨p1, _, _, .ref py, rfl, rfl, q14, L2.at_of (j := i) (by omega) hy, ?_⟩
                            walk_at "go"
                            refine ⟨ar, t.2.1.map (fun r => (r.1, [.tuple (r.2.1.map PyData.str), .bool r.2.2])), t.1, sp.1, i, (sp.1, [.tuple (sp.2.1.map PyData.str), .bool sp.2.2]), rfl, kr, by rw [← rqD_rows]; exact dq _, by rw [List.length_map]; omega, by rw [List.getElem?_map, hsp]; rfl, rfl, fun m row' hlt h => ?_, fun H5 s5 => ?_⟩
                            · rw [List.getElem?_map] at h
                              obtain ⟨r0, hr0, rfl⟩ := Option.map_eq_some_iff.mp h
                              intro z
                              have e1 : (t.2.1.map fun r => r.1)[m]? = some sp.1 := by rw [List.getElem?_map, hr0]; exact congrArg some z
                              have e2 : (t.2.1.map fun r => r.1)[i]? = some sp.1 := by rw [List.getElem?_map, hsp]; rfl
                              have := (List.getElem?_inj (by rw [List.length_map]; omega) TR.d1).mp (e1.trans e2.symm)
                              omega
                            · walk_at "go"
                              refine iteNe (fun z => absurd (Int.zero_add _).symm z) (fun _ => ?_)
                              walk_at "go"
                              exact s24.trans s5
                          · have : zs.length = t.2.1.length := by rw [dpall_len ds, List.length_map]
                            omega
            · rintro σ H2 ⟨v4, v5, rfl, s2⟩
              exact ⟨_, _, rfl, s2⟩
          · rintro σ H1 ⟨v4, v5, rfl, s1⟩
            refine ⟨fun σ H' => ∃ v4 v5, σ = [some (.ref r), some (.str t.1), some (.ref p1), some (.ref p2), v4, v5, none] ∧ Same H H', ?_, ?_⟩
            · walk_at "go"
              refine ⟨by omega, by omega, ?_⟩
              refine for_range (lo := 0) (fun i σ H' => ∃ v4 v5, σ = [some (.ref r), some (.str t.1), some (.ref p1), some (.ref p2), v4, v5, none] ∧ Same H H') ⟨_, _, rfl, s1⟩ ?_ ?_
              · rintro i σ H2 hi ⟨v4, v5, rfl, s2⟩
                have hil : i < t.2.2.length := by omega
                obtain ⟨sp, hsp⟩ : ∃ sp, t.2.2[i]? = some sp := ⟨_, List.getElem?_eq_getElem hil⟩
                obtain ⟨zs, qs, ds⟩ := TR.evz H2
                obtain ⟨z, hz, dz⟩ := dpall_get' ds (i := i) (d := .tuple [.str sp.1, .tuple (sp.2.1.map PyData.str)]) (by rw [List.getElem?_map, List.getElem?_map, hsp]; rfl)
                obtain ⟨pt, ws, rfl, qw, dw⟩ := dp_tuple dz
                obtain ⟨y, hy, dy⟩ := dpall_get' m2 (i := i) (d := splD sp) (by rw [List.getElem?_map, hsp]; rfl)
                obtain ⟨py, us, rfl, qu, du⟩ := dp_tuple dy
                cases dw with
                | cons w1 w2 => cases w2 with
                  | cons w2 w3 =>
                    cases w3
                    obtain rfl := dp_str w1
                    cases du with
                    | cons u1 u2 => cases u2 with
                      | cons u2 u3 => cases u3 with
                        | cons u3 u4 =>
                          cases u4
                          obtain rfl := dp_str u1
                          obtain ⟨pk, ks, rfl, qk, dk⟩ := dp_tuple w2
                          obtain rfl := dpall_strs dk
                          obtain ⟨pu, ys, rfl, qpu, dpu⟩ := dp_list u2
                          obtain rfl := dp_strsV dpu
                          have hok := TR.s2 sp (List.mem_of_getElem? hsp)
                          walk_at "go"
                          refine ⟨t.1, zs, (i : Int), by rw [Int.zero_add]; rfl, TR.se, qs, fun H3 s3 => ⟨fun j z' hj hz' => ?_, fun hc => ?_⟩⟩
                          · obtain rfl : i = j := by omega
                            obtain rfl : V.ref pt = z' := Option.some.inj (hz.symm.trans hz')
                            have s23 := s2.trans s3
                            have qw3 := s3.sqt qw
                            have qu3 := s23.sqt qu
                            have q13 := s23.seq q2
                            have qk3 := s3.sqt qk
                            walk_at "go"
                            refine ⟨p2, _, _, .ref py, rfl, rfl, q13, L2.at_of (j := i) (by omega) hy, ?_⟩
                            walk_at "go"
                            refine neSelf ?_
                            walk_at "go"
                            intro l hl
                            have s24 := s23.trans (same_upd (o := .lst (sp.2.1.map V.str)) hl)
                            have qw4 := (same_upd (o := .lst (sp.2.1.map V.str)) hl).sqt qw3
                            have qu4 := s24.sqt qu
                            have q14 := s24.seq q2
                            walk_at "go"
                            refine ⟨p2, _, _, .ref py, rfl, rfl, q14, L2.at_of (j := i) (by omega) hy, ?_⟩
                            walk_at "go"
                            refine t_ne (d := .list (sp.2.1.map PyData.str)) (e := .list (sp.2.1.map PyData.str)) (.lst (SqL.of upd_same) (dpallS _)) (.lst (s24.seq qpu) (dpallS _)) (sh_strs hok).shaped (sh_strs hok).shaped ?_
                            refine ⟨_, rfl, ne_self (sh_strs hok).shaped rfl ?_⟩
                            walk_at "go"
                            exact s24
                          · have : zs.length = t.2.2.length := by rw [dpall_len ds, List.length_map, List.length_map]
                            omega
              · rintro σ H2 ⟨v4, v5, rfl, s2⟩
                exact ⟨_, _, rfl, s2⟩
            · rintro σ H2 ⟨v4, v5, rfl, s2⟩
              obtain ⟨ar', zs, e0, qs, ds⟩ := dp_tuple (dq H2)
              cases e0
              obtain ⟨ze, qe, dse⟩ := TR.evz H2
              have hzs : zs.length = t.2.1.length := by rw [dpall_len ds, List.length_map]
              have hze : ze.length = t.2.2.length := by rw [dpall_len dse, List.length_map, List.length_map]
              have q12 := s2.seq q1
              have q22 := s2.seq q2
              walk_at "go"
              refine ⟨t.1, ar, zs, (z1.length : Int), rfl, TR.sr, kr, qs, fun H3 s3 => RowAt.past (by omega) ?_⟩
              have q23 := s3.seq q22
              have q13 := s3.seq q12
              walk_at "go"
              refine ⟨t.1, ze, (z2.length : Int), rfl, TR.se, qe.to s3, fun H4 s4 => RowAt.past (by omega) ?_⟩
              have s24 := s3.trans s4
              walk_at "go"
              refine ⟨t.1, ar, zs, (z1.length : Int) + z2.length + 1, rfl, TR.sr, kr, s24.sqt qs, fun H5 s5 => RowAt.past (by omega) ?_⟩
              have s25 := s24.trans s5
              walk_at "go"
              refine ⟨t.1, ze, (z1.length : Int) + z2.length + 65000, rfl, TR.se, qe.to s25, fun H6 s6 => RowAt.past (by omega) ?_⟩
              have s26 := s2.trans (s25.trans s6)
              walk_at "go"
              exact q _ s26
/-! ### an event of a row, with drawn values -/
def ValR (K : PySem.W.Frag) (U : Hp) (v : V) (k : Str) : Prop := ∃ (x : AV) (os : List Int), ArgSpec k x true os ∧ ArgAt K U v x ∧ os.length ≤ 60
theorem vals_args {K : PySem.W.Frag} {U : Hp} : ∀ {xs : List V} {ks : List Str}, AllR (ValR K) U xs ks → ∃ args : List Arg, args.map Arg.kind = ks ∧ args.length = xs.length ∧ (∀ (i : Nat) (x : V), xs[i]? = some x → ∃ g : Arg, args[i]? = some g ∧ ArgAt K U x g.val) ∧ (∀ g ∈ args, ArgSpec g.kind g.val true g.os) ∧ (bodyOf args).length ≤ 60 * args.length
  | [], [], _ => ⟨[], rfl, rfl, fun i x h => (by cases h), fun g h => (by cases h), Nat.le_refl _⟩
  | v :: xs, k :: ks, ⟨⟨x, os, h1, h2, h3⟩, r⟩ => by
    obtain ⟨args, a1, a2, a3, a4, a5⟩ := vals_args r
    refine ⟨⟨k, x, os⟩ :: args, by rw [List.map_cons, a1], by rw [List.length_cons, List.length_cons, a2], fun i y hy => ?_, fun g hg => ?_, ?_⟩
    · cases i with
      | zero => cases hy; exact ⟨_, rfl, h2⟩
      | succ i => exact a3 i y hy
    · rcases List.mem_cons.mp hg with rfl | hg
      · exact h1
      · exact a4 g hg
    · show (os ++ bodyOf args).length ≤ 60 * (args.length + 1)
      rw [List.length_append]
      omega
  | [], _ :: _, h => h.elim
  | _ :: _, [], h => h.elim
def PairR (K : PySem.W.Frag) (U : Hp) (z : V) (p : Str × V) : Prop := ∃ a, z = .ref a ∧ SqT K U a [.str p.1, p.2]
def sp__law_event_fits (A : Adr) (w : World) (K : PySem.W.Frag) : Sp := fun vs H Q _ => ∃ (r : Addr) (n c : Int) (t : TR) (U : Hp), vs = [.ref r, .int n, .int c] ∧ 1 ≤ n ∧ n ≤ 4294967295 ∧ Same U H ∧ TabRow A w K t ∧ Dp K U (.ref r) (trD t) ∧ ∀ H', Same H H' → Q (.bl true) H'
theorem sc__law_event_fits : FnScope ["row", "number", "cell", "name", "requests", "events", "opcode", "kinds", "values", "j", "told"] ["row", "number", "cell"] (defScope s__law_event_fits) := ⟨rfl, rfl, rfl, by decide +kernel, rfl, by decide +kernel, by decide +kernel⟩
theorem ok__law_event_fits (T : Txt K mg A) : FnOk P w K mg base CX0 9 A.f_law_event_fits A.d_law_event_fits ["row", "number", "cell"] (sp__law_event_fits A w K) := by
  refine T.F_law_event_fits.ok sc__law_event_fits (fun vs H Q E h => ?_) (fun cdv Ar outer st H vs Q E hr h => ?_)
  · obtain ⟨_, _, _, _, _, rfl, _⟩ := h
    rfl
  · obtain ⟨r, n, c, t, U, rfl, hn1, hn2, sU, TR, dr, q⟩ := h
    have dr0 := dr.to sU
    obtain ⟨r', zs, e0, qs, ds⟩ := dp_tuple dr0
    cases e0
    cases ds with
    | cons d1 d2 => cases d2 with
      | cons d2 d3 => cases d3 with
        | cons d3 d4 =>
          cases d4
          obtain rfl := dp_str d1
          obtain ⟨p1, z1, rfl, q1, m1⟩ := dp_list d2
          obtain ⟨p2, z2, rfl, q2, m2⟩ := dp_list d3
          have hz2 : z2.length = t.2.2.length := by rw [dpall_len m2, List.length_map]
          have hl2 := TR.l2
          refine ⟨_, (pss_cons (ps_asg (pv 0) (pg_tup rfl (pgs_cons (pg_name (i := 3) sc__law_event_fits.nd rfl (Or.inl rfl)) (pgs_cons (pg_name (i := 4) sc__law_event_fits.nd rfl (Or.inl rfl)) (pgs_cons (pg_name (i := 5) sc__law_event_fits.nd rfl (Or.inl rfl)) pgs_nil)))))
      (pss_cons (ps_if (pt_cmpR (op_eqNil hr.units) (pv 5) (pe_lst pa_nil) (nomark _))
      (pss_one (ps_ret pe_bl))
      pss_nil)
      (pss_cons (ps_set (i := 6) sc__law_event_fits.nd rfl (Or.inl rfl) (pe_op op_mod (pe_callTy call_int1 (by rfl) T.int (by decide +kernel) (pa_cons (pv 2) pa_nil)) (pe_callB call_len_seq (by rfl) T.len PySem.boot_len (pa_cons (pv 5) pa_nil))))
      (pss_cons (ps_set (i := 7) sc__law_event_fits.nd rfl (Or.inr rfl) (pe_ix (r := rIxT K) ix_tup (pe_ix (r := rIxL K) ix_list (pv 5) (pv 6) (fun _ _ => rfl)) pe_int (fun _ _ => rfl)))
      (pss_cons (ps_set (i := 8) sc__law_event_fits.nd rfl (Or.inr rfl) (pe_lc (own := [("j", 9)]) (g := (gName 9)) (tt := tYes) rfl sc__law_event_fits.nd (pi_range1 (by rfl) T.range (pa_cons (pe_callB call_len_seq (by rfl) T.len PySem.boot_len (pa_cons (pv 7) pa_nil)) pa_nil)) (blkOk_by (own := [("j", 9)]) (N := ["row", "number", "cell", "name", "requests", "events", "opcode", "kinds", "values", "j", "told"]) (sc := defScope s__law_event_fits) (by decide +kernel)) (fun _ _ _ _ _ => (pg_name (i := 9) sc__law_event_fits.nd rfl (Or.inl rfl))) (fun _ _ _ _ _ => pts_nil) (fun _ _ _ _ _ => by exact (pe_call (ok__law_value T) (hr.mono (by decide)) rfl T.g_law_value T.k_law_value T.b_law_value .nil pass0 (pa_cons (pe_ix (r := rIxL K) ix_list (pv 7) (pv 9) (fun _ _ => rfl)) (pa_cons (pe_callTy call_int1 (by rfl) T.int (by decide +kernel) (pa_cons (pe_op op_fdiv (pv 2) (pe_op op_add (pv 9) pe_int)) pa_nil)) pa_nil))))))
      (pss_cons (ps_set (i := 10) sc__law_event_fits.nd rfl (Or.inl rfl) (pe_call (ok_event_octets T) (hr.mono (by decide)) rfl T.gevent_octets T.kevent_octets T.bevent_octets .nil passL (pa_cons (pv 1) (pa_cons (pv 3) (pa_cons (pe_ix (r := rIxT K) ix_tup (pe_ix (r := rIxL K) ix_list (pv 5) (pv 6) (fun _ _ => rfl)) pe_int (fun _ _ => rfl)) (pa_cons (pe_callTy call_list_of (by rfl) T.list (by decide +kernel) (pa_cons (pv 8) pa_nil)) pa_nil))))))
      (pss_one (ps_ret (pe_cmpR (op_eqD hr.units) (pv 10) (pe_call (ok_encode_message T) (hr.mono (by decide)) rfl T.gencode_message T.kencode_message T.bencode_message .nil passL (pa_cons (pv 1) (pa_cons (pv 6) (pa_cons (pe_lc (own := [("j", 9)]) (g := (gName 9)) (tt := tYes) rfl sc__law_event_fits.nd (pi_range1 (by rfl) T.range (pa_cons (pe_callB call_len_seq (by rfl) T.len PySem.boot_len (pa_cons (pv 7) pa_nil)) pa_nil)) (blkOk_by (own := [("j", 9)]) (N := ["row", "number", "cell", "name", "requests", "events", "opcode", "kinds", "values", "j", "told"]) (sc := defScope s__law_event_fits) (by decide +kernel)) (fun _ _ _ _ _ => (pg_name (i := 9) sc__law_event_fits.nd rfl (Or.inl rfl))) (fun _ _ _ _ _ => pts_nil) (fun _ _ _ _ _ => by exact (pe_tup (pa_cons (pe_ix (r := rIxL K) ix_list (pv 7) (pv 9) (fun _ _ => rfl)) (pa_cons (pe_ix (r := rIxL K) ix_list (pv 8) (pv 9) (fun _ _ => rfl)) pa_nil))))) pa_nil)))) (nomark _)))))))))), ?_⟩
          walk_at "go"
          rename_i pe hpe
          have s1 := same_upd (o := .lst []) hpe
          have q21 := s1.seq q2
          refine ⟨p2, pe, z2, rfl, rfl, q21, SqL.of upd_same, ?_⟩
          generalize upd H pe (.lst []) = H1 at s1 q21 ⊢
          refine ⟨_, rfl, ?_⟩
          rw [show (if false = true then !z2.isEmpty else z2.isEmpty) = z2.isEmpty from rfl]
          refine if_b (fun hb => ?_) (fun hb => ?_)
          · walk_at "go"
            exact q _ s1
          · have hpos : 0 < t.2.2.length := by
              cases z2 with
              | nil => cases hb
              | cons a b => rw [← hz2]; exact Nat.succ_pos _
            obtain ⟨er, ke, de⟩ := TR.ev.resolve_right fun z => by rw [z.2] at hpos; cases hpos
            obtain ⟨j, hj⟩ : ∃ j : Nat, c % (z2.length : Int) = j := ⟨_, (Int.toNat_of_nonneg (Int.emod_nonneg _ (by omega))).symm⟩
            have hjl : j < t.2.2.length := by have := Int.emod_lt_of_pos c (show (0 : Int) < z2.length by omega); omega
            obtain ⟨sp, hsp⟩ : ∃ sp, t.2.2[j]? = some sp := ⟨_, List.getElem?_eq_getElem hjl⟩
            have hspm := List.mem_of_getElem? hsp
            have hks := TR.k2 sp hspm
            have hkn := TR.n2 sp hspm
            obtain ⟨y, hy, dy⟩ := dpall_get' m2 (i := j) (d := splD sp) (by rw [List.getElem?_map, hsp]; rfl)
            obtain ⟨py, us, rfl, qu, du⟩ := dp_tuple dy
            cases du with
            | cons u1 u2 => cases u2 with
              | cons u2 u3 => cases u3 with
                | cons u3 u4 =>
                  cases u4
                  obtain rfl := dp_str u1
                  obtain rfl := dp_bool u3
                  obtain ⟨pu, ys, rfl, qpu, dpu⟩ := dp_list u2
                  obtain rfl := dp_strsV dpu
                  have qu1 := s1.sqt qu
                  have qp1 := s1.seq qpu
                  walk_at "go"
                  refine ⟨by show (0 : Int) < _; omega, ?_⟩
                  walk_at "go"
                  refine ⟨p2, _, _, .ref py, rfl, rfl, q21, L2.at_of (j := j) hj hy, ?_⟩
                  walk_at "go"
                  have hkl : (sp.2.1.map V.str).length = sp.2.1.length := List.length_map ..
                  refine ⟨by omega, by omega, fun D hD => ?_⟩
                  have sU1 := sU.trans s1
                  refine lc_rel (Rl := ValR K) (fun U U' v a s ⟨x, os, h1, h2, h3⟩ => ⟨x, os, h1, h2.to s, h3⟩) (walk_range (lo := 0) (n := (((sp.2.1.map V.str).length : Nat) : Int).toNat)) (V0 := U) (H0 := H1) (fun i => (sp.2.1[i]?).map fun k => k) _ rfl sU1 hD (by omega) (fun _ _ => trivial) (fun i x H H' y => y.1) ?_ ?_
                  · rintro i x U5 H5 hi xx ⟨_, rfl⟩ Qy Qn hyy _
                    obtain ⟨k, hk⟩ : ∃ k, sp.2.1[i]? = some k := ⟨_, List.getElem?_eq_getElem (by omega)⟩
                    walk_at "go"
                    refine ⟨pu, _, _, .str k, rfl, rfl, xx.hh.seq qp1, L2.at_of (j := i) (by omega) (by rw [List.getElem?_map, hk]; rfl), ?_⟩
                    walk_at "go"
                    refine ⟨⟨by omega, by omega⟩, ?_⟩
                    walk_at "go"
                    exact ⟨k, _, U5, rfl, hks k (List.mem_of_getElem? hk), xx.vh, fun v x os U' H' xe h1 h2 h3 => hyy _ _ _ _ (by rw [hk]; rfl) xe ⟨x, os, h1, h2, h3⟩⟩
                  · rintro U5 H5 xs xx uD dA
                    rw [show (((sp.2.1.map V.str).length : Nat) : Int).toNat = sp.2.1.length from by omega, fm_map, List.map_id'' (fun k => rfl)] at dA
                    obtain ⟨args, g1, g2, g3, g4, g5⟩ := vals_args dA
                    have hxl := allr_len dA
                    have s5 := xx.hh
                    have qu5 := s5.sqt qu1
                    have q25 := s5.seq q21
                    have eD := xx.vh _ _ uD
                    walk_at "go"
                    refine ⟨p2, _, _, .ref py, rfl, rfl, q25, L2.at_of (j := j) hj hy, ?_⟩
                    walk_at "go"
                    intro l hl
                    have s6 := same_upd (o := .lst xs) hl
                    have ksn : (t.2.2.map fun r => (r.1, r.2.1))[j]? = some (sp.1, sp.2.1) := by rw [List.getElem?_map, hsp]; rfl
                    have nb : ¬ encBad n (j : Nat) args := by
                      rintro (z | z | z)
                      · exact z ⟨hn1, hn2⟩
                      · exact z ⟨by omega, by omega⟩
                      · omega
                    have nl : ¬ encLong args := by unfold encLong; omega
                    refine ⟨n, t.1, sp.1, l, er, t.2.2.map (fun r : Spl => ((r.1, r.2.1) : Str × List Str)), j, ((sp.1, sp.2.1) : Str × List Str), xs, args, rfl, ke, de, by rw [List.length_map]; omega, ksn, rfl, fun m row' hlt h => ?_, SqL.of upd_same, hxl, by rw [g2]; exact hxl, hkn, fun i x hx => ?_, g4, by omega, fun z => absurd z nb, fun _ z => absurd z nl, fun _ _ p7 H7 n7 => ?_⟩
                    · rw [List.getElem?_map] at h
                      obtain ⟨r0, hr0, rfl⟩ := Option.map_eq_some_iff.mp h
                      intro z
                      have e1 : (t.2.2.map fun r => r.1)[m]? = some sp.1 := by rw [List.getElem?_map, hr0]; exact congrArg some z
                      have e2 : (t.2.2.map fun r => r.1)[j]? = some sp.1 := by rw [List.getElem?_map, hsp]; rfl
                      have := (List.getElem?_inj (by rw [List.length_map]; omega) TR.d2).mp (e1.trans e2.symm)
                      omega
                    · obtain ⟨g, hg, ha⟩ := g3 i x hx
                      have hk : sp.2.1[i]? = some g.kind := by rw [← g1, List.getElem?_map, hg]; rfl
                      exact ⟨g, g.kind, hg, hk, rfl, ha.to (xx.vh.trans s6)⟩
                    · have s57 := s6.trans n7.same
                      have s17 := s5.trans s57
                      have qp7 := s17.seq qp1
                      have qD7 := s57.seq (SqL.of (K := K) eD)
                      have sU7 := xx.vh.trans s57
                      walk_at "go"
                      refine ⟨by omega, by omega, fun D2 hD2 => ?_⟩
                      refine lc_rel (Rl := PairR K) (fun U U' v a s ⟨b, h1, h2⟩ => ⟨b, h1, s.sqt h2⟩) (walk_range (lo := 0) (n := (((sp.2.1.map V.str).length : Nat) : Int).toNat)) (V0 := U5) (H0 := H7) (fun i => ((sp.2.1.zip xs)[i]?).map fun k => k) _ rfl sU7 hD2 (by omega) (fun _ _ => trivial) (fun i x H H' y => y.1) ?_ ?_
                      · rintro i x U8 H8 hi x8 ⟨_, rfl⟩ Qy Qn hyy _
                        obtain ⟨k, hk⟩ : ∃ k, sp.2.1[i]? = some k := ⟨_, List.getElem?_eq_getElem (by omega)⟩
                        obtain ⟨y, hyx⟩ : ∃ y, xs[i]? = some y := ⟨_, List.getElem?_eq_getElem (by omega)⟩
                        walk_at "go"
                        refine ⟨pu, _, _, .str k, rfl, rfl, x8.hh.seq qp7, L2.at_of (j := i) (by omega) (by rw [List.getElem?_map, hk]; rfl), ?_⟩
                        walk_at "go"
                        refine ⟨D, _, _, y, rfl, rfl, x8.hh.seq qD7, L2.at_of (j := i) (by omega) hyx, ?_⟩
                        walk_at "go"
                        rename_i pt hpt
                        exact hyy (k, y) _ _ _ (by rw [(List.getElem?_zip_eq_some (z := (k, y))).mpr ⟨hk, hyx⟩]; rfl) (Ext.new x8.vh hpt) ⟨pt, rfl, SqT.of upd_same⟩
                      · rintro U8 H8 zz x8 uD8 dA8
                        have hzl := allr_len dA8
                        rw [show (((sp.2.1.map V.str).length : Nat) : Int).toNat = (sp.2.1.zip xs).length from by rw [List.length_zip]; omega, fm_map, List.map_id'' (fun k => rfl)] at dA8 hzl
                        rw [List.length_zip] at hzl
                        walk_at "go"
                        refine ⟨n, (j : Int), D2, args, by rw [← hj]; rfl, ⟨⟨zz, SqL.of (x8.vh _ _ uD8), by omega, fun i z hz => ?_⟩, g4⟩, by omega, by omega, fun z => absurd z nb, fun _ z => absurd z nl, fun _ _ p9 H9 n9 => ?_⟩
                        · obtain ⟨⟨k, y⟩, hp, b, e, qb⟩ := allr_get dA8 hz
                          obtain ⟨hk, hyx⟩ := List.getElem?_zip_eq_some.mp hp
                          obtain ⟨g, hg, ha⟩ := g3 i y hyx
                          have hkk : sp.2.1[i]? = some g.kind := by rw [← g1, List.getElem?_map, hg]; rfl
                          have ek : k = g.kind := Option.some.inj (hk.symm.trans hkk)
                          exact ⟨g, b, y, hg, e, by rw [← ek]; exact x8.vh.sqt qb, ha.to (xx.vh.trans (s57.trans x8.hh))⟩
                        · have e7 := n9.same _ _ (x8.hh _ _ n7.at_)
                          refine t_eq (dp_ints (SqL.of e7)) (dp_ints (SqL.of n9.at_)) (sh_ints _).shaped (sh_ints _).shaped ?_
                          rw [(sh_ints _).self]
                          exact q _ (s1.trans (s17.trans (x8.hh.trans n9.same)))
/-! ### the law -/
def tabNames : List Str := tab.map fun t => t.1
theorem tabNames_len : tabNames.length = tab.length := List.length_map ..
structure TabAll (A : Adr) (w : World) (K : PySem.W.Frag) : Prop where
  row : ∀ t ∈ tab, TabRow A w K t
  kk : KKeys K w A.a_REQUESTS tabNames
  nd : tabNames.Nodup
  so : ∀ s ∈ tabNames, PyData.strOk s = true
  ln : tab.length = 23
theorem sc_law : FnScope ["script", "table", "row", "k", "cell", "number"] ["script"] (defScope s_law) := ⟨rfl, rfl, rfl, by decide +kernel, rfl, by decide +kernel, by decide +kernel⟩
theorem ok_lawE (T : Txt K mg A) (TA : TabAll A w K) : FnOk P w K mg base CX0 10 A.flaw A.dlaw ["script"] (sp_law K) := by
  refine T.Flaw.ok sc_law (fun vs H Q E h => ?_) (fun cdv Ar outer s H vs Q E hr h => ?_)
  · obtain ⟨a, ns, rfl, _⟩ := h
    rfl
  · obtain ⟨a, ns, rfl, hS, hlen, q⟩ := h
    have hln := TA.ln
    refine ⟨_, (pss_cons (ps_set (i := 1) sc_law.nd rfl (Or.inl rfl) (pe_call0 (ok__law_table T) (hr.mono (by decide)) rfl T.g_law_table T.k_law_table T.b_law_table .nil pass0))
      (pss_cons (ps_if (pt_cmpR (op_neD hr.units) (pe_call0 (ok_interface_names T) (hr.mono (by decide)) rfl T.ginterface_names T.kinterface_names T.binterface_names .nil pass0) (pe_lc (own := [("row", 2)]) (g := (gName 2)) (tt := tYes) rfl sc_law.nd (pi_list (pv 1)) (blkOk_by (own := [("row", 2)]) (N := ["script", "table", "row", "k", "cell", "number"]) (sc := defScope s_law) (by decide +kernel)) (fun _ _ _ _ _ => (pg_name (i := 2) sc_law.nd rfl (Or.inl rfl))) (fun _ _ _ _ _ => pts_nil) (fun _ _ _ _ _ => by exact (pe_ix (r := rIxT K) ix_tup (pv 2) pe_int (fun _ _ => rfl)))) (nomark _))
      (pss_one (ps_ret pe_bl))
      pss_nil)
      (C8.pss_cut (ps_for PassesOwn.never rfl (pi_list (pv 1)) (pg_name (i := 2) sc_law.nd rfl (Or.inl rfl))
      (pss_one (ps_if (pt_not (pt_val (pe_call (ok__law_row_fits T) (hr.mono (by decide)) rfl T.g_law_row_fits T.k_law_row_fits T.b_law_row_fits .nil pass0 (pa_cons (pv 2) pa_nil))))
      (pss_one (ps_ret pe_bl))
      pss_nil)))
      (C8.pss_cut (ps_for PassesOwn.never rfl (pi_range1 (by rfl) T.range (pa_cons (pe_op op_add (pe_callB (call_min2 rfl) (by rfl) T.min (by decide +kernel) (pa_cons (pe_callB call_len_seq (by rfl) T.len PySem.boot_len (pa_cons (pv 0) pa_nil)) (pa_cons pe_int pa_nil))) pe_int) pa_nil)) (pg_name (i := 3) sc_law.nd rfl (Or.inl rfl))
      (pss_cons (ps_set (i := 4) sc_law.nd rfl (Or.inl rfl) (pe_call (ok__law_row T) (hr.mono (by decide)) rfl T.g_law_row T.k_law_row T.b_law_row .nil pass0 (pa_cons (pv 0) (pa_cons (pv 3) pa_nil))))
      (pss_cons (ps_set (i := 5) sc_law.nd rfl (Or.inl rfl) (pe_op op_add pe_int (pe_op op_mod (pe_callTy call_int1 (by rfl) T.int (by decide +kernel) (pa_cons (pv 4) pa_nil)) pe_int)))
      (pss_one (ps_if (pt_not (pt_val (pe_call (ok__law_event_fits T) (hr.mono (by decide)) rfl T.g_law_event_fits T.k_law_event_fits T.b_law_event_fits .nil pass0 (pa_cons (pe_ix (r := rIxL K) ix_list (pv 1) (pe_op op_mod (pe_callTy call_int1 (by rfl) T.int (by decide +kernel) (pa_cons (pe_op op_fdiv (pv 4) pe_int) pa_nil)) (pe_callB call_len_seq (by rfl) T.len PySem.boot_len (pa_cons (pv 1) pa_nil))) (fun _ _ => rfl)) (pa_cons (pv 5) (pa_cons (pe_callTy call_int1 (by rfl) T.int (by decide +kernel) (pa_cons (pe_op op_fdiv (pv 4) pe_int) pa_nil)) pa_nil))))))
      (pss_one (ps_ret pe_bl))
      pss_nil)))))
      (pss_one (ps_ret pe_bl)))))), ?_⟩
    walk_at "go"
    refine ⟨H, rfl, Same.refl H, fun pt U1 H1 x1 d1 => ?_⟩
    obtain ⟨pt', zs, e0, qz, dz⟩ := dp_list d1
    cases e0
    have hzl : zs.length = tab.length := by rw [dpall_len dz, List.length_map]
    have qz1 := x1.vh.seq qz
    have hS1 := x1.hh.seq hS
    walk_at "go"
    refine ⟨_, rfl, TA.kk, TA.nd, by rw [tabNames_len]; omega, fun p H2 n2 => ?_⟩
    have s2 := n2.same
    have qz2 := s2.seq qz1
    walk_at "go"
    refine ⟨⟨_, qz2⟩, fun D hD => ?_⟩
    refine lc_dp (walk_list (K := K) (a := pt) (xs := zs)) (K := K) (V0 := U1) (H0 := H2) (fun i => (tab[i]?).map fun t => PyData.str t.1) _ rfl (x1.vh.trans s2) hD (by omega) (fun H' s => s.seq qz2) (fun i x H H' y => y.1) ?_ ?_
    · rintro m z U4 H4 hm xx ⟨_, hz⟩ Qy Qn hy hno
      obtain ⟨t, ht⟩ : ∃ t, tab[m]? = some t := ⟨_, List.getElem?_eq_getElem (by omega)⟩
      obtain ⟨z', hz', dz'⟩ := dpall_get' dz (i := m) (d := trD t) (by rw [List.getElem?_map, ht]; rfl)
      obtain rfl : z = z' := Option.some.inj (hz.symm.trans hz')
      obtain ⟨pr, ws, rfl, qw, dw⟩ := dp_tuple dz'
      cases dw with
      | cons w1 w2 =>
        obtain rfl := dp_str w1
        have qw4 := (x1.vh.trans (s2.trans xx.hh)).sqt qw
        walk_at "go"
        exact hy (.str t.1) _ _ _ (by rw [ht]; rfl) (Ext.refl xx.vh) (.str _)
    · rintro U4 H4 ws xx uD dA dl
      rw [hzl, fm_map] at dl dA
      have en : tab.map (fun t => PyData.str t.1) = tabNames.map PyData.str := by unfold tabNames; rw [List.map_map]; rfl
      rw [en] at dl
      have sh := sh_strs TA.so
      refine t_ne (d := .list (tabNames.map PyData.str)) (e := .list (tabNames.map PyData.str)) (.lst (SqL.of (xx.hh _ _ n2.at_)) (dpallS _)) (dl.to xx.vh) sh.shaped sh.shaped ⟨_, rfl, ne_self sh.shaped rfl ?_⟩
      have s14 := s2.trans xx.hh
      have hS4 := s14.seq hS1
      have qz4 := s14.seq qz1
      have sU4 := x1.vh.trans s14
      walk_at "go"
      refine ⟨fun σ H' => ∃ v2 v3 v4 v5, σ = [some (.ref a), some (.ref pt), v2, v3, v4, v5] ∧ Same H4 H', ?_, ?_⟩
      · walk_at "go"
        refine ⟨⟨_, qz4⟩, for_list (K := K) (a := pt) (xs := zs) (fun i σ H' => ∃ v2 v3 v4 v5, σ = [some (.ref a), some (.ref pt), v2, v3, v4, v5] ∧ Same H4 H') ⟨_, _, _, _, rfl, Same.refl _⟩ (fun i σ H' _ ⟨_, _, _, _, _, s⟩ => s.seq qz4) ?_ ?_⟩
        · rintro i x σ H5 hx ⟨v2, v3, v4, v5, rfl, s5⟩
          have hi := (List.getElem?_eq_some_iff.mp hx).1
          obtain ⟨t, ht⟩ : ∃ t, tab[i]? = some t := ⟨_, List.getElem?_eq_getElem (by omega)⟩
          obtain ⟨z', hz', dz'⟩ := dpall_get' dz (i := i) (d := trD t) (by rw [List.getElem?_map, ht]; rfl)
          obtain rfl : x = z' := Option.some.inj (hx.symm.trans hz')
          obtain ⟨pr, ws, rfl, qw, dw⟩ := dp_tuple dz'
          walk_at "go"
          refine ⟨pr, t, rfl, TA.row t (List.mem_of_getElem? ht), dz'.to (x1.vh.trans (s14.trans s5)), fun H6 s6 => ⟨_, rfl, ?_⟩⟩
          walk_at "go"
          exact s5.trans s6
        · rintro σ H5 ⟨v2, v3, v4, v5, rfl, s5⟩
          exact ⟨_, _, _, _, rfl, s5⟩
      · rintro σ H5 ⟨v2, v3, v4, v5, rfl, s5⟩
        have hS5 := s5.seq hS4
        have qz5 := s5.seq qz4
        refine ⟨fun σ H' => ∃ v2 v3 v4 v5, σ = [some (.ref a), some (.ref pt), v2, v3, v4, v5] ∧ Same H5 H', ?_, ?_⟩
        · walk_at "go"
          rw [List.length_map]
          refine ⟨by split <;> omega, by split <;> omega, ?_⟩
          refine for_range (lo := 0) (fun i σ H' => ∃ v2 v3 v4 v5, σ = [some (.ref a), some (.ref pt), v2, v3, v4, v5] ∧ Same H5 H') ⟨_, _, _, _, rfl, Same.refl _⟩ ?_ ?_
          · rintro i σ H6 hi ⟨v2, v3, v4, v5, rfl, s6⟩
            walk_at "go"
            refine ⟨a, ns, i, by rw [Int.zero_add]; rfl, s6.seq hS5, ?_⟩
            have hr0 := lawRow_nn ns i
            generalize lawRow ns i = row at hr0 ⊢
            have qz6 := s6.seq qz5
            walk_at "go"
            obtain ⟨j, hj⟩ : ∃ j : Nat, row / 3 % (zs.length : Int) = j := ⟨_, (Int.toNat_of_nonneg (Int.emod_nonneg _ (by omega))).symm⟩
            have hjl : j < zs.length := by have := Int.emod_lt_of_pos (row / 3) (show (0 : Int) < zs.length by omega); omega
            obtain ⟨t, ht⟩ : ∃ t, tab[j]? = some t := ⟨_, List.getElem?_eq_getElem (by omega)⟩
            obtain ⟨z', hz', dz'⟩ := dpall_get' dz (i := j) (d := trD t) (by rw [List.getElem?_map, ht]; rfl)
            obtain ⟨pr, ws, rfl, qw, dw⟩ := dp_tuple dz'
            refine ⟨by show (0 : Int) < _; omega, ?_⟩
            refine ⟨pt, _, _, .ref pr, rfl, rfl, qz6, L2.at_of (j := j) hj hz', ?_⟩
            walk_at "go"
            refine ⟨pr, _, _, t, U1, rfl, by omega, by omega, x1.vh.trans (s14.trans (s5.trans s6)), TA.row t (List.mem_of_getElem? ht), dz', fun H7 s7 => ⟨_, rfl, ?_⟩⟩
            walk_at "go"
            exact s6.trans s7
          · rintro σ H6 ⟨v2, v3, v4, v5, rfl, s6⟩
            exact ⟨_, _, _, _, rfl, s6⟩
        · rintro σ H6 ⟨v2, v3, v4, v5, rfl, s6⟩
          walk_at "go"
          exact q H6
/-! ### the facts of both tables -/
theorem KKeys.sys {K : PySem.W.Frag} {w : World} {a : Addr} {ks : List Str} (h : KKeys K w a ks) : (a == sysModules) = false := by
  obtain ⟨_, _, _, _, _, _, _, z⟩ := h
  exact z
def tr0 : TR := ("display", [("sync", ["new callback"], false), ("registry", ["new registry"], false)], [("error", ["uint", "uint", "text"], false), ("removed", ["uint"], false)])
theorem tabRow0 (T : Txt K mg A) (D : Dic w K A) : TabRow A w K tr0 :=
  ⟨D.kk_REQUESTS.sys, D.kk_EVENTS.sys, ⟨_, D.d_REQUESTS_k0, fun H => .tup (T.w_REQUESTS_k0 H) (.cons (.tup (T.w_REQUESTS_k0_0 H) (.cons (.str _) (.cons (.tup (T.w_REQUESTS_k0_0_1 H) (.cons (.str _) .nil)) (.cons (.bl _) .nil)))) (.cons (.tup (T.w_REQUESTS_k0_1 H) (.cons (.str _) (.cons (.tup (T.w_REQUESTS_k0_1_1 H) (.cons (.str _) .nil)) (.cons (.bl _) .nil)))) .nil))⟩, .inl ⟨_, D.d_EVENTS_k0, fun H => .tup (T.w_EVENTS_k0 H) (.cons (.tup (T.w_EVENTS_k0_0 H) (.cons (.str _) (.cons (.tup (T.w_EVENTS_k0_0_1 H) (.cons (.str _) (.cons (.str _) (.cons (.str _) .nil)))) .nil))) (.cons (.tup (T.w_EVENTS_k0_1 H) (.cons (.str _) (.cons (.tup (T.w_EVENTS_k0_1_1 H) (.cons (.str _) .nil)) .nil))) .nil))⟩, by decide +kernel, by decide +kernel, by decide +kernel, by decide +kernel, by decide +kernel, by decide +kernel, by decide +kernel, by decide +kernel⟩
def tr1 : TR := ("callback", [], [("done", ["uint"], false)])
theorem tabRow1 (T : Txt K mg A) (D : Dic w K A) : TabRow A w K tr1 :=
  ⟨D.kk_REQUESTS.sys, D.kk_EVENTS.sys, ⟨_, D.d_REQUESTS_k1, fun H => .tup (T.w_REQUESTS_k1 H) .nil⟩, .inl ⟨_, D.d_EVENTS_k1, fun H => .tup (T.w_EVENTS_k1 H) (.cons (.tup (T.w_EVENTS_k1_0 H) (.cons (.str _) (.cons (.tup (T.w_EVENTS_k1_0_1 H) (.cons (.str _) .nil)) .nil))) .nil)⟩, by decide +kernel, by decide +kernel, by decide +kernel, by decide +kernel, by decide +kernel, by decide +kernel, by decide +kernel, by decide +kernel⟩
def tr2 : TR := ("registry", [("bind", ["uint", "bound"], false)], [("there", ["uint", "text"], false), ("gone", ["uint"], false)])
theorem tabRow2 (T : Txt K mg A) (D : Dic w K A) : TabRow A w K tr2 :=
  ⟨D.kk_REQUESTS.sys, D.kk_EVENTS.sys, ⟨_, D.d_REQUESTS_k2, fun H => .tup (T.w_REQUESTS_k2 H) (.cons (.tup (T.w_REQUESTS_k2_0 H) (.cons (.str _) (.cons (.tup (T.w_REQUESTS_k2_0_1 H) (.cons (.str _) (.cons (.str _) .nil))) (.cons (.bl _) .nil)))) .nil)⟩, .inl ⟨_, D.d_EVENTS_k2, fun H => .tup (T.w_EVENTS_k2 H) (.cons (.tup (T.w_EVENTS_k2_0 H) (.cons (.str _) (.cons (.tup (T.w_EVENTS_k2_0_1 H) (.cons (.str _) (.cons (.str _) .nil))) .nil))) (.cons (.tup (T.w_EVENTS_k2_1 H) (.cons (.str _) (.cons (.tup (T.w_EVENTS_k2_1_1 H) (.cons (.str _) .nil)) .nil))) .nil))⟩, by decide +kernel, by decide +kernel, by decide +kernel, by decide +kernel, by decide +kernel, by decide +kernel, by decide +kernel, by decide +kernel⟩
def tr3 : TR := ("memory", [("buffer", ["new buffer", "uint", "uint"], false), ("destroy", [], true)], [])
theorem tabRow3 (T : Txt K mg A) (D : Dic w K A) : TabRow A w K tr3 :=
  ⟨D.kk_REQUESTS.sys, D.kk_EVENTS.sys, ⟨_, D.d_REQUESTS_k3, fun H => .tup (T.w_REQUESTS_k3 H) (.cons (.tup (T.w_REQUESTS_k3_0 H) (.cons (.str _) (.cons (.tup (T.w_REQUESTS_k3_0_1 H) (.cons (.str _) (.cons (.str _) (.cons (.str _) .nil)))) (.cons (.bl _) .nil)))) (.cons (.tup (T.w_REQUESTS_k3_1 H) (.cons (.str _) (.cons (.tup (T.w_REQUESTS_k3_1_1 H) .nil) (.cons (.bl _) .nil)))) .nil))⟩, .inr ⟨⟨_, D.kk_EVENTS, by decide +kernel⟩, rfl⟩, by decide +kernel, by decide +kernel, by decide +kernel, by decide +kernel, by decide +kernel, by decide +kernel, by decide +kernel, by decide +kernel⟩
def tr4 : TR := ("buffer", [("write", ["uint", "octets"], false), ("fill", ["int", "int", "uint", "uint", "uint"], false), ("destroy", [], true)], [("release", [], false)])
theorem tabRow4 (T : Txt K mg A) (D : Dic w K A) : TabRow A w K tr4 :=
  ⟨D.kk_REQUESTS.sys, D.kk_EVENTS.sys, ⟨_, D.d_REQUESTS_k4, fun H => .tup (T.w_REQUESTS_k4 H) (.cons (.tup (T.w_REQUESTS_k4_0 H) (.cons (.str _) (.cons (.tup (T.w_REQUESTS_k4_0_1 H) (.cons (.str _) (.cons (.str _) .nil))) (.cons (.bl _) .nil)))) (.cons (.tup (T.w_REQUESTS_k4_1 H) (.cons (.str _) (.cons (.tup (T.w_REQUESTS_k4_1_1 H) (.cons (.str _) (.cons (.str _) (.cons (.str _) (.cons (.str _) (.cons (.str _) .nil)))))) (.cons (.bl _) .nil)))) (.cons (.tup (T.w_REQUESTS_k4_2 H) (.cons (.str _) (.cons (.tup (T.w_REQUESTS_k4_2_1 H) .nil) (.cons (.bl _) .nil)))) .nil)))⟩, .inl ⟨_, D.d_EVENTS_k3, fun H => .tup (T.w_EVENTS_k3 H) (.cons (.tup (T.w_EVENTS_k3_0 H) (.cons (.str _) (.cons (.tup (T.w_EVENTS_k3_0_1 H) .nil) .nil))) .nil)⟩, by decide +kernel, by decide +kernel, by decide +kernel, by decide +kernel, by decide +kernel, by decide +kernel, by decide +kernel, by decide +kernel⟩
def tr5 : TR := ("compositor", [("surface", ["new surface"], false), ("region", ["new region"], false), ("destroy", [], true)], [])
theorem tabRow5 (T : Txt K mg A) (D : Dic w K A) : TabRow A w K tr5 :=
  ⟨D.kk_REQUESTS.sys, D.kk_EVENTS.sys, ⟨_, D.d_REQUESTS_k5, fun H => .tup (T.w_REQUESTS_k5 H) (.cons (.tup (T.w_REQUESTS_k5_0 H) (.cons (.str _) (.cons (.tup (T.w_REQUESTS_k5_0_1 H) (.cons (.str _) .nil)) (.cons (.bl _) .nil)))) (.cons (.tup (T.w_REQUESTS_k5_1 H) (.cons (.str _) (.cons (.tup (T.w_REQUESTS_k5_1_1 H) (.cons (.str _) .nil)) (.cons (.bl _) .nil)))) (.cons (.tup (T.w_REQUESTS_k5_2 H) (.cons (.str _) (.cons (.tup (T.w_REQUESTS_k5_2_1 H) .nil) (.cons (.bl _) .nil)))) .nil)))⟩, .inr ⟨⟨_, D.kk_EVENTS, by decide +kernel⟩, rfl⟩, by decide +kernel, by decide +kernel, by decide +kernel, by decide +kernel, by decide +kernel, by decide +kernel, by decide +kernel, by decide +kernel⟩
def tr6 : TR := ("region", [("add", ["int", "int", "uint", "uint"], false), ("subtract", ["int", "int", "uint", "uint"], false), ("destroy", [], true)], [])
theorem tabRow6 (T : Txt K mg A) (D : Dic w K A) : TabRow A w K tr6 :=
  ⟨D.kk_REQUESTS.sys, D.kk_EVENTS.sys, ⟨_, D.d_REQUESTS_k6, fun H => .tup (T.w_REQUESTS_k6 H) (.cons (.tup (T.w_REQUESTS_k6_0 H) (.cons (.str _) (.cons (.tup (T.w_REQUESTS_k6_0_1 H) (.cons (.str _) (.cons (.str _) (.cons (.str _) (.cons (.str _) .nil))))) (.cons (.bl _) .nil)))) (.cons (.tup (T.w_REQUESTS_k6_1 H) (.cons (.str _) (.cons (.tup (T.w_REQUESTS_k6_1_1 H) (.cons (.str _) (.cons (.str _) (.cons (.str _) (.cons (.str _) .nil))))) (.cons (.bl _) .nil)))) (.cons (.tup (T.w_REQUESTS_k6_2 H) (.cons (.str _) (.cons (.tup (T.w_REQUESTS_k6_2_1 H) .nil) (.cons (.bl _) .nil)))) .nil)))⟩, .inr ⟨⟨_, D.kk_EVENTS, by decide +kernel⟩, rfl⟩, by decide +kernel, by decide +kernel, by decide +kernel, by decide +kernel, by decide +kernel, by decide +kernel, by decide +kernel, by decide +kernel⟩
def tr7 : TR := ("surface", [("attach", ["maybe buffer"], false), ("frame", ["new callback"], false), ("hears", ["maybe region"], false), ("commit", [], false), ("turn", ["uint"], false), ("scale", ["uint"], false), ("destroy", [], true)], [])
theorem tabRow7 (T : Txt K mg A) (D : Dic w K A) : TabRow A w K tr7 :=
  ⟨D.kk_REQUESTS.sys, D.kk_EVENTS.sys, ⟨_, D.d_REQUESTS_k7, fun H => .tup (T.w_REQUESTS_k7 H) (.cons (.tup (T.w_REQUESTS_k7_0 H) (.cons (.str _) (.cons (.tup (T.w_REQUESTS_k7_0_1 H) (.cons (.str _) .nil)) (.cons (.bl _) .nil)))) (.cons (.tup (T.w_REQUESTS_k7_1 H) (.cons (.str _) (.cons (.tup (T.w_REQUESTS_k7_1_1 H) (.cons (.str _) .nil)) (.cons (.bl _) .nil)))) (.cons (.tup (T.w_REQUESTS_k7_2 H) (.cons (.str _) (.cons (.tup (T.w_REQUESTS_k7_2_1 H) (.cons (.str _) .nil)) (.cons (.bl _) .nil)))) (.cons (.tup (T.w_REQUESTS_k7_3 H) (.cons (.str _) (.cons (.tup (T.w_REQUESTS_k7_3_1 H) .nil) (.cons (.bl _) .nil)))) (.cons (.tup (T.w_REQUESTS_k7_4 H) (.cons (.str _) (.cons (.tup (T.w_REQUESTS_k7_4_1 H) (.cons (.str _) .nil)) (.cons (.bl _) .nil)))) (.cons (.tup (T.w_REQUESTS_k7_5 H) (.cons (.str _) (.cons (.tup (T.w_REQUESTS_k7_5_1 H) (.cons (.str _) .nil)) (.cons (.bl _) .nil)))) (.cons (.tup (T.w_REQUESTS_k7_6 H) (.cons (.str _) (.cons (.tup (T.w_REQUESTS_k7_6_1 H) .nil) (.cons (.bl _) .nil)))) .nil)))))))⟩, .inr ⟨⟨_, D.kk_EVENTS, by decide +kernel⟩, rfl⟩, by decide +kernel, by decide +kernel, by decide +kernel, by decide +kernel, by decide +kernel, by decide +kernel, by decide +kernel, by decide +kernel⟩
def tr8 : TR := ("joiner", [("join", ["new sub", "object surface", "object surface"], false), ("destroy", [], true)], [])
theorem tabRow8 (T : Txt K mg A) (D : Dic w K A) : TabRow A w K tr8 :=
  ⟨D.kk_REQUESTS.sys, D.kk_EVENTS.sys, ⟨_, D.d_REQUESTS_k8, fun H => .tup (T.w_REQUESTS_k8 H) (.cons (.tup (T.w_REQUESTS_k8_0 H) (.cons (.str _) (.cons (.tup (T.w_REQUESTS_k8_0_1 H) (.cons (.str _) (.cons (.str _) (.cons (.str _) .nil)))) (.cons (.bl _) .nil)))) (.cons (.tup (T.w_REQUESTS_k8_1 H) (.cons (.str _) (.cons (.tup (T.w_REQUESTS_k8_1_1 H) .nil) (.cons (.bl _) .nil)))) .nil))⟩, .inr ⟨⟨_, D.kk_EVENTS, by decide +kernel⟩, rfl⟩, by decide +kernel, by decide +kernel, by decide +kernel, by decide +kernel, by decide +kernel, by decide +kernel, by decide +kernel, by decide +kernel⟩
def tr9 : TR := ("sub", [("place", ["int", "int"], false), ("above", ["object surface"], false), ("below", ["object surface"], false), ("sync", [], false), ("desync", [], false), ("destroy", [], true)], [])
theorem tabRow9 (T : Txt K mg A) (D : Dic w K A) : TabRow A w K tr9 :=
  ⟨D.kk_REQUESTS.sys, D.kk_EVENTS.sys, ⟨_, D.d_REQUESTS_k9, fun H => .tup (T.w_REQUESTS_k9 H) (.cons (.tup (T.w_REQUESTS_k9_0 H) (.cons (.str _) (.cons (.tup (T.w_REQUESTS_k9_0_1 H) (.cons (.str _) (.cons (.str _) .nil))) (.cons (.bl _) .nil)))) (.cons (.tup (T.w_REQUESTS_k9_1 H) (.cons (.str _) (.cons (.tup (T.w_REQUESTS_k9_1_1 H) (.cons (.str _) .nil)) (.cons (.bl _) .nil)))) (.cons (.tup (T.w_REQUESTS_k9_2 H) (.cons (.str _) (.cons (.tup (T.w_REQUESTS_k9_2_1 H) (.cons (.str _) .nil)) (.cons (.bl _) .nil)))) (.cons (.tup (T.w_REQUESTS_k9_3 H) (.cons (.str _) (.cons (.tup (T.w_REQUESTS_k9_3_1 H) .nil) (.cons (.bl _) .nil)))) (.cons (.tup (T.w_REQUESTS_k9_4 H) (.cons (.str _) (.cons (.tup (T.w_REQUESTS_k9_4_1 H) .nil) (.cons (.bl _) .nil)))) (.cons (.tup (T.w_REQUESTS_k9_5 H) (.cons (.str _) (.cons (.tup (T.w_REQUESTS_k9_5_1 H) .nil) (.cons (.bl _) .nil)))) .nil))))))⟩, .inr ⟨⟨_, D.kk_EVENTS, by decide +kernel⟩, rfl⟩, by decide +kernel, by decide +kernel, by decide +kernel, by decide +kernel, by decide +kernel, by decide +kernel, by decide +kernel, by decide +kernel⟩
def tr10 : TR := ("output", [("destroy", [], true)], [("size", ["uint", "uint", "uint", "uint"], false)])
theorem tabRow10 (T : Txt K mg A) (D : Dic w K A) : TabRow A w K tr10 :=
  ⟨D.kk_REQUESTS.sys, D.kk_EVENTS.sys, ⟨_, D.d_REQUESTS_k10, fun H => .tup (T.w_REQUESTS_k10 H) (.cons (.tup (T.w_REQUESTS_k10_0 H) (.cons (.str _) (.cons (.tup (T.w_REQUESTS_k10_0_1 H) .nil) (.cons (.bl _) .nil)))) .nil)⟩, .inl ⟨_, D.d_EVENTS_k4, fun H => .tup (T.w_EVENTS_k4 H) (.cons (.tup (T.w_EVENTS_k4_0 H) (.cons (.str _) (.cons (.tup (T.w_EVENTS_k4_0_1 H) (.cons (.str _) (.cons (.str _) (.cons (.str _) (.cons (.str _) .nil))))) .nil))) .nil)⟩, by decide +kernel, by decide +kernel, by decide +kernel, by decide +kernel, by decide +kernel, by decide +kernel, by decide +kernel, by decide +kernel⟩
def tr11 : TR := ("windows", [("window", ["new window", "object surface"], false), ("popup", ["new popup", "object surface", "object window|popup", "int", "int", "int", "int", "int", "int", "int", "int", "uint", "uint", "int", "int", "uint", "uint"], false)], [])
theorem tabRow11 (T : Txt K mg A) (D : Dic w K A) : TabRow A w K tr11 :=
  ⟨D.kk_REQUESTS.sys, D.kk_EVENTS.sys, ⟨_, D.d_REQUESTS_k11, fun H => .tup (T.w_REQUESTS_k11 H) (.cons (.tup (T.w_REQUESTS_k11_0 H) (.cons (.str _) (.cons (.tup (T.w_REQUESTS_k11_0_1 H) (.cons (.str _) (.cons (.str _) .nil))) (.cons (.bl _) .nil)))) (.cons (.tup (T.w_REQUESTS_k11_1 H) (.cons (.str _) (.cons (.tup (T.w_REQUESTS_k11_1_1 H) (.cons (.str _) (.cons (.str _) (.cons (.str _) (.cons (.str _) (.cons (.str _) (.cons (.str _) (.cons (.str _) (.cons (.str _) (.cons (.str _) (.cons (.str _) (.cons (.str _) (.cons (.str _) (.cons (.str _) (.cons (.str _) (.cons (.str _) (.cons (.str _) (.cons (.str _) .nil)))))))))))))))))) (.cons (.bl _) .nil)))) .nil))⟩, .inr ⟨⟨_, D.kk_EVENTS, by decide +kernel⟩, rfl⟩, by decide +kernel, by decide +kernel, by decide +kernel, by decide +kernel, by decide +kernel, by decide +kernel, by decide +kernel, by decide +kernel⟩
def tr12 : TR := ("window", [("destroy", [], true), ("title", ["text"], false), ("name", ["text"], false), ("least", ["uint", "uint"], false), ("largest", ["uint", "uint"], false), ("ack", ["uint"], false), ("map_with", ["uint"], false), ("smaller", ["uint", "uint"], false), ("grow", ["uint", "uint", "uint"], false), ("raise", ["uint"], false), ("maximize", ["uint"], false), ("restore", [], false)], [("configure", ["uint", "uint", "uint", "uint"], false), ("close", [], false), ("output", ["uint"], false), ("left", ["uint"], false)])
theorem tabRow12 (T : Txt K mg A) (D : Dic w K A) : TabRow A w K tr12 :=
  ⟨D.kk_REQUESTS.sys, D.kk_EVENTS.sys, ⟨_, D.d_REQUESTS_k12, fun H => .tup (T.w_REQUESTS_k12 H) (.cons (.tup (T.w_REQUESTS_k12_0 H) (.cons (.str _) (.cons (.tup (T.w_REQUESTS_k12_0_1 H) .nil) (.cons (.bl _) .nil)))) (.cons (.tup (T.w_REQUESTS_k12_1 H) (.cons (.str _) (.cons (.tup (T.w_REQUESTS_k12_1_1 H) (.cons (.str _) .nil)) (.cons (.bl _) .nil)))) (.cons (.tup (T.w_REQUESTS_k12_2 H) (.cons (.str _) (.cons (.tup (T.w_REQUESTS_k12_2_1 H) (.cons (.str _) .nil)) (.cons (.bl _) .nil)))) (.cons (.tup (T.w_REQUESTS_k12_3 H) (.cons (.str _) (.cons (.tup (T.w_REQUESTS_k12_3_1 H) (.cons (.str _) (.cons (.str _) .nil))) (.cons (.bl _) .nil)))) (.cons (.tup (T.w_REQUESTS_k12_4 H) (.cons (.str _) (.cons (.tup (T.w_REQUESTS_k12_4_1 H) (.cons (.str _) (.cons (.str _) .nil))) (.cons (.bl _) .nil)))) (.cons (.tup (T.w_REQUESTS_k12_5 H) (.cons (.str _) (.cons (.tup (T.w_REQUESTS_k12_5_1 H) (.cons (.str _) .nil)) (.cons (.bl _) .nil)))) (.cons (.tup (T.w_REQUESTS_k12_6 H) (.cons (.str _) (.cons (.tup (T.w_REQUESTS_k12_6_1 H) (.cons (.str _) .nil)) (.cons (.bl _) .nil)))) (.cons (.tup (T.w_REQUESTS_k12_7 H) (.cons (.str _) (.cons (.tup (T.w_REQUESTS_k12_7_1 H) (.cons (.str _) (.cons (.str _) .nil))) (.cons (.bl _) .nil)))) (.cons (.tup (T.w_REQUESTS_k12_8 H) (.cons (.str _) (.cons (.tup (T.w_REQUESTS_k12_8_1 H) (.cons (.str _) (.cons (.str _) (.cons (.str _) .nil)))) (.cons (.bl _) .nil)))) (.cons (.tup (T.w_REQUESTS_k12_9 H) (.cons (.str _) (.cons (.tup (T.w_REQUESTS_k12_9_1 H) (.cons (.str _) .nil)) (.cons (.bl _) .nil)))) (.cons (.tup (T.w_REQUESTS_k12_10 H) (.cons (.str _) (.cons (.tup (T.w_REQUESTS_k12_10_1 H) (.cons (.str _) .nil)) (.cons (.bl _) .nil)))) (.cons (.tup (T.w_REQUESTS_k12_11 H) (.cons (.str _) (.cons (.tup (T.w_REQUESTS_k12_11_1 H) .nil) (.cons (.bl _) .nil)))) .nil))))))))))))⟩, .inl ⟨_, D.d_EVENTS_k5, fun H => .tup (T.w_EVENTS_k5 H) (.cons (.tup (T.w_EVENTS_k5_0 H) (.cons (.str _) (.cons (.tup (T.w_EVENTS_k5_0_1 H) (.cons (.str _) (.cons (.str _) (.cons (.str _) (.cons (.str _) .nil))))) .nil))) (.cons (.tup (T.w_EVENTS_k5_1 H) (.cons (.str _) (.cons (.tup (T.w_EVENTS_k5_1_1 H) .nil) .nil))) (.cons (.tup (T.w_EVENTS_k5_2 H) (.cons (.str _) (.cons (.tup (T.w_EVENTS_k5_2_1 H) (.cons (.str _) .nil)) .nil))) (.cons (.tup (T.w_EVENTS_k5_3 H) (.cons (.str _) (.cons (.tup (T.w_EVENTS_k5_3_1 H) (.cons (.str _) .nil)) .nil))) .nil))))⟩, by decide +kernel, by decide +kernel, by decide +kernel, by decide +kernel, by decide +kernel, by decide +kernel, by decide +kernel, by decide +kernel⟩
def tr13 : TR := ("popup", [("destroy", [], true), ("place", ["int", "int", "int", "int", "int", "int", "int", "int", "uint", "uint", "int", "int", "uint"], false)], [("placed", ["int", "int", "uint", "uint"], false), ("done", [], false)])
theorem tabRow13 (T : Txt K mg A) (D : Dic w K A) : TabRow A w K tr13 :=
  ⟨D.kk_REQUESTS.sys, D.kk_EVENTS.sys, ⟨_, D.d_REQUESTS_k13, fun H => .tup (T.w_REQUESTS_k13 H) (.cons (.tup (T.w_REQUESTS_k13_0 H) (.cons (.str _) (.cons (.tup (T.w_REQUESTS_k13_0_1 H) .nil) (.cons (.bl _) .nil)))) (.cons (.tup (T.w_REQUESTS_k13_1 H) (.cons (.str _) (.cons (.tup (T.w_REQUESTS_k13_1_1 H) (.cons (.str _) (.cons (.str _) (.cons (.str _) (.cons (.str _) (.cons (.str _) (.cons (.str _) (.cons (.str _) (.cons (.str _) (.cons (.str _) (.cons (.str _) (.cons (.str _) (.cons (.str _) (.cons (.str _) .nil)))))))))))))) (.cons (.bl _) .nil)))) .nil))⟩, .inl ⟨_, D.d_EVENTS_k6, fun H => .tup (T.w_EVENTS_k6 H) (.cons (.tup (T.w_EVENTS_k6_0 H) (.cons (.str _) (.cons (.tup (T.w_EVENTS_k6_0_1 H) (.cons (.str _) (.cons (.str _) (.cons (.str _) (.cons (.str _) .nil))))) .nil))) (.cons (.tup (T.w_EVENTS_k6_1 H) (.cons (.str _) (.cons (.tup (T.w_EVENTS_k6_1_1 H) .nil) .nil))) .nil))⟩, by decide +kernel, by decide +kernel, by decide +kernel, by decide +kernel, by decide +kernel, by decide +kernel, by decide +kernel, by decide +kernel⟩
def tr14 : TR := ("seat", [("pointer", ["new pointer"], false), ("keyboard", ["new keyboard"], false)], [])
theorem tabRow14 (T : Txt K mg A) (D : Dic w K A) : TabRow A w K tr14 :=
  ⟨D.kk_REQUESTS.sys, D.kk_EVENTS.sys, ⟨_, D.d_REQUESTS_k14, fun H => .tup (T.w_REQUESTS_k14 H) (.cons (.tup (T.w_REQUESTS_k14_0 H) (.cons (.str _) (.cons (.tup (T.w_REQUESTS_k14_0_1 H) (.cons (.str _) .nil)) (.cons (.bl _) .nil)))) (.cons (.tup (T.w_REQUESTS_k14_1 H) (.cons (.str _) (.cons (.tup (T.w_REQUESTS_k14_1_1 H) (.cons (.str _) .nil)) (.cons (.bl _) .nil)))) .nil))⟩, .inr ⟨⟨_, D.kk_EVENTS, by decide +kernel⟩, rfl⟩, by decide +kernel, by decide +kernel, by decide +kernel, by decide +kernel, by decide +kernel, by decide +kernel, by decide +kernel, by decide +kernel⟩
def tr15 : TR := ("pointer", [("destroy", [], true), ("cursor", ["uint"], false)], [("enter", ["object", "int", "int"], false), ("leave", ["object"], false), ("motion", ["int", "int", "uint"], false), ("button", ["uint", "uint", "uint", "uint"], false), ("axis", ["int", "int", "uint"], false)])
theorem tabRow15 (T : Txt K mg A) (D : Dic w K A) : TabRow A w K tr15 :=
  ⟨D.kk_REQUESTS.sys, D.kk_EVENTS.sys, ⟨_, D.d_REQUESTS_k15, fun H => .tup (T.w_REQUESTS_k15 H) (.cons (.tup (T.w_REQUESTS_k15_0 H) (.cons (.str _) (.cons (.tup (T.w_REQUESTS_k15_0_1 H) .nil) (.cons (.bl _) .nil)))) (.cons (.tup (T.w_REQUESTS_k15_1 H) (.cons (.str _) (.cons (.tup (T.w_REQUESTS_k15_1_1 H) (.cons (.str _) .nil)) (.cons (.bl _) .nil)))) .nil))⟩, .inl ⟨_, D.d_EVENTS_k7, fun H => .tup (T.w_EVENTS_k7 H) (.cons (.tup (T.w_EVENTS_k7_0 H) (.cons (.str _) (.cons (.tup (T.w_EVENTS_k7_0_1 H) (.cons (.str _) (.cons (.str _) (.cons (.str _) .nil)))) .nil))) (.cons (.tup (T.w_EVENTS_k7_1 H) (.cons (.str _) (.cons (.tup (T.w_EVENTS_k7_1_1 H) (.cons (.str _) .nil)) .nil))) (.cons (.tup (T.w_EVENTS_k7_2 H) (.cons (.str _) (.cons (.tup (T.w_EVENTS_k7_2_1 H) (.cons (.str _) (.cons (.str _) (.cons (.str _) .nil)))) .nil))) (.cons (.tup (T.w_EVENTS_k7_3 H) (.cons (.str _) (.cons (.tup (T.w_EVENTS_k7_3_1 H) (.cons (.str _) (.cons (.str _) (.cons (.str _) (.cons (.str _) .nil))))) .nil))) (.cons (.tup (T.w_EVENTS_k7_4 H) (.cons (.str _) (.cons (.tup (T.w_EVENTS_k7_4_1 H) (.cons (.str _) (.cons (.str _) (.cons (.str _) .nil)))) .nil))) .nil)))))⟩, by decide +kernel, by decide +kernel, by decide +kernel, by decide +kernel, by decide +kernel, by decide +kernel, by decide +kernel, by decide +kernel⟩
def tr16 : TR := ("keyboard", [("destroy", [], true)], [("keymap", ["text"], false), ("enter", ["object"], false), ("leave", ["object"], false), ("key", ["uint", "uint", "uint", "uint"], false), ("symbol", ["text", "text", "uint"], false)])
theorem tabRow16 (T : Txt K mg A) (D : Dic w K A) : TabRow A w K tr16 :=
  ⟨D.kk_REQUESTS.sys, D.kk_EVENTS.sys, ⟨_, D.d_REQUESTS_k16, fun H => .tup (T.w_REQUESTS_k16 H) (.cons (.tup (T.w_REQUESTS_k16_0 H) (.cons (.str _) (.cons (.tup (T.w_REQUESTS_k16_0_1 H) .nil) (.cons (.bl _) .nil)))) .nil)⟩, .inl ⟨_, D.d_EVENTS_k8, fun H => .tup (T.w_EVENTS_k8 H) (.cons (.tup (T.w_EVENTS_k8_0 H) (.cons (.str _) (.cons (.tup (T.w_EVENTS_k8_0_1 H) (.cons (.str _) .nil)) .nil))) (.cons (.tup (T.w_EVENTS_k8_1 H) (.cons (.str _) (.cons (.tup (T.w_EVENTS_k8_1_1 H) (.cons (.str _) .nil)) .nil))) (.cons (.tup (T.w_EVENTS_k8_2 H) (.cons (.str _) (.cons (.tup (T.w_EVENTS_k8_2_1 H) (.cons (.str _) .nil)) .nil))) (.cons (.tup (T.w_EVENTS_k8_3 H) (.cons (.str _) (.cons (.tup (T.w_EVENTS_k8_3_1 H) (.cons (.str _) (.cons (.str _) (.cons (.str _) (.cons (.str _) .nil))))) .nil))) (.cons (.tup (T.w_EVENTS_k8_4 H) (.cons (.str _) (.cons (.tup (T.w_EVENTS_k8_4_1 H) (.cons (.str _) (.cons (.str _) (.cons (.str _) .nil)))) .nil))) .nil)))))⟩, by decide +kernel, by decide +kernel, by decide +kernel, by decide +kernel, by decide +kernel, by decide +kernel, by decide +kernel, by decide +kernel⟩
def tr17 : TR := ("transfer", [("source", ["new source"], false), ("give", ["object source", "uint", "uint"], false), ("drag", ["object source", "uint"], false), ("send", ["text", "octets"], false), ("unsend", ["text"], false), ("ask", ["new capture", "object output", "int", "int", "uint", "uint"], false), ("fetch", ["new fetch", "text"], false), ("watch", ["new watch", "text"], false), ("destroy", [], true)], [("offer", ["new", "uint"], false), ("hover", ["object", "int", "int"], false), ("hover_kind", ["text"], false), ("moved", ["uint", "int", "int"], false), ("away", [], false), ("ended", [], false)])
theorem tabRow17 (T : Txt K mg A) (D : Dic w K A) : TabRow A w K tr17 :=
  ⟨D.kk_REQUESTS.sys, D.kk_EVENTS.sys, ⟨_, D.d_REQUESTS_k17, fun H => .tup (T.w_REQUESTS_k17 H) (.cons (.tup (T.w_REQUESTS_k17_0 H) (.cons (.str _) (.cons (.tup (T.w_REQUESTS_k17_0_1 H) (.cons (.str _) .nil)) (.cons (.bl _) .nil)))) (.cons (.tup (T.w_REQUESTS_k17_1 H) (.cons (.str _) (.cons (.tup (T.w_REQUESTS_k17_1_1 H) (.cons (.str _) (.cons (.str _) (.cons (.str _) .nil)))) (.cons (.bl _) .nil)))) (.cons (.tup (T.w_REQUESTS_k17_2 H) (.cons (.str _) (.cons (.tup (T.w_REQUESTS_k17_2_1 H) (.cons (.str _) (.cons (.str _) .nil))) (.cons (.bl _) .nil)))) (.cons (.tup (T.w_REQUESTS_k17_3 H) (.cons (.str _) (.cons (.tup (T.w_REQUESTS_k17_3_1 H) (.cons (.str _) (.cons (.str _) .nil))) (.cons (.bl _) .nil)))) (.cons (.tup (T.w_REQUESTS_k17_4 H) (.cons (.str _) (.cons (.tup (T.w_REQUESTS_k17_4_1 H) (.cons (.str _) .nil)) (.cons (.bl _) .nil)))) (.cons (.tup (T.w_REQUESTS_k17_5 H) (.cons (.str _) (.cons (.tup (T.w_REQUESTS_k17_5_1 H) (.cons (.str _) (.cons (.str _) (.cons (.str _) (.cons (.str _) (.cons (.str _) (.cons (.str _) .nil))))))) (.cons (.bl _) .nil)))) (.cons (.tup (T.w_REQUESTS_k17_6 H) (.cons (.str _) (.cons (.tup (T.w_REQUESTS_k17_6_1 H) (.cons (.str _) (.cons (.str _) .nil))) (.cons (.bl _) .nil)))) (.cons (.tup (T.w_REQUESTS_k17_7 H) (.cons (.str _) (.cons (.tup (T.w_REQUESTS_k17_7_1 H) (.cons (.str _) (.cons (.str _) .nil))) (.cons (.bl _) .nil)))) (.cons (.tup (T.w_REQUESTS_k17_8 H) (.cons (.str _) (.cons (.tup (T.w_REQUESTS_k17_8_1 H) .nil) (.cons (.bl _) .nil)))) .nil)))))))))⟩, .inl ⟨_, D.d_EVENTS_k9, fun H => .tup (T.w_EVENTS_k9 H) (.cons (.tup (T.w_EVENTS_k9_0 H) (.cons (.str _) (.cons (.tup (T.w_EVENTS_k9_0_1 H) (.cons (.str _) (.cons (.str _) .nil))) .nil))) (.cons (.tup (T.w_EVENTS_k9_1 H) (.cons (.str _) (.cons (.tup (T.w_EVENTS_k9_1_1 H) (.cons (.str _) (.cons (.str _) (.cons (.str _) .nil)))) .nil))) (.cons (.tup (T.w_EVENTS_k9_2 H) (.cons (.str _) (.cons (.tup (T.w_EVENTS_k9_2_1 H) (.cons (.str _) .nil)) .nil))) (.cons (.tup (T.w_EVENTS_k9_3 H) (.cons (.str _) (.cons (.tup (T.w_EVENTS_k9_3_1 H) (.cons (.str _) (.cons (.str _) (.cons (.str _) .nil)))) .nil))) (.cons (.tup (T.w_EVENTS_k9_4 H) (.cons (.str _) (.cons (.tup (T.w_EVENTS_k9_4_1 H) .nil) .nil))) (.cons (.tup (T.w_EVENTS_k9_5 H) (.cons (.str _) (.cons (.tup (T.w_EVENTS_k9_5_1 H) .nil) .nil))) .nil))))))⟩, by decide +kernel, by decide +kernel, by decide +kernel, by decide +kernel, by decide +kernel, by decide +kernel, by decide +kernel, by decide +kernel⟩
def tr18 : TR := ("source", [("write", ["text", "octets"], false), ("destroy", [], true)], [])
theorem tabRow18 (T : Txt K mg A) (D : Dic w K A) : TabRow A w K tr18 :=
  ⟨D.kk_REQUESTS.sys, D.kk_EVENTS.sys, ⟨_, D.d_REQUESTS_k18, fun H => .tup (T.w_REQUESTS_k18 H) (.cons (.tup (T.w_REQUESTS_k18_0 H) (.cons (.str _) (.cons (.tup (T.w_REQUESTS_k18_0_1 H) (.cons (.str _) (.cons (.str _) .nil))) (.cons (.bl _) .nil)))) (.cons (.tup (T.w_REQUESTS_k18_1 H) (.cons (.str _) (.cons (.tup (T.w_REQUESTS_k18_1_1 H) .nil) (.cons (.bl _) .nil)))) .nil))⟩, .inr ⟨⟨_, D.kk_EVENTS, by decide +kernel⟩, rfl⟩, by decide +kernel, by decide +kernel, by decide +kernel, by decide +kernel, by decide +kernel, by decide +kernel, by decide +kernel, by decide +kernel⟩
def tr19 : TR := ("offer", [("read", ["text", "uint", "uint"], false), ("destroy", [], true)], [("kind", ["text", "uint"], false), ("part", ["text", "uint", "octets"], false)])
theorem tabRow19 (T : Txt K mg A) (D : Dic w K A) : TabRow A w K tr19 :=
  ⟨D.kk_REQUESTS.sys, D.kk_EVENTS.sys, ⟨_, D.d_REQUESTS_k19, fun H => .tup (T.w_REQUESTS_k19 H) (.cons (.tup (T.w_REQUESTS_k19_0 H) (.cons (.str _) (.cons (.tup (T.w_REQUESTS_k19_0_1 H) (.cons (.str _) (.cons (.str _) (.cons (.str _) .nil)))) (.cons (.bl _) .nil)))) (.cons (.tup (T.w_REQUESTS_k19_1 H) (.cons (.str _) (.cons (.tup (T.w_REQUESTS_k19_1_1 H) .nil) (.cons (.bl _) .nil)))) .nil))⟩, .inl ⟨_, D.d_EVENTS_k10, fun H => .tup (T.w_EVENTS_k10 H) (.cons (.tup (T.w_EVENTS_k10_0 H) (.cons (.str _) (.cons (.tup (T.w_EVENTS_k10_0_1 H) (.cons (.str _) (.cons (.str _) .nil))) .nil))) (.cons (.tup (T.w_EVENTS_k10_1 H) (.cons (.str _) (.cons (.tup (T.w_EVENTS_k10_1_1 H) (.cons (.str _) (.cons (.str _) (.cons (.str _) .nil)))) .nil))) .nil))⟩, by decide +kernel, by decide +kernel, by decide +kernel, by decide +kernel, by decide +kernel, by decide +kernel, by decide +kernel, by decide +kernel⟩
def tr20 : TR := ("capture", [("read", ["uint", "uint"], false), ("destroy", [], true)], [("allowed", ["uint", "uint"], false), ("refused", [], false), ("rows", ["uint", "octets"], false)])
theorem tabRow20 (T : Txt K mg A) (D : Dic w K A) : TabRow A w K tr20 :=
  ⟨D.kk_REQUESTS.sys, D.kk_EVENTS.sys, ⟨_, D.d_REQUESTS_k20, fun H => .tup (T.w_REQUESTS_k20 H) (.cons (.tup (T.w_REQUESTS_k20_0 H) (.cons (.str _) (.cons (.tup (T.w_REQUESTS_k20_0_1 H) (.cons (.str _) (.cons (.str _) .nil))) (.cons (.bl _) .nil)))) (.cons (.tup (T.w_REQUESTS_k20_1 H) (.cons (.str _) (.cons (.tup (T.w_REQUESTS_k20_1_1 H) .nil) (.cons (.bl _) .nil)))) .nil))⟩, .inl ⟨_, D.d_EVENTS_k11, fun H => .tup (T.w_EVENTS_k11 H) (.cons (.tup (T.w_EVENTS_k11_0 H) (.cons (.str _) (.cons (.tup (T.w_EVENTS_k11_0_1 H) (.cons (.str _) (.cons (.str _) .nil))) .nil))) (.cons (.tup (T.w_EVENTS_k11_1 H) (.cons (.str _) (.cons (.tup (T.w_EVENTS_k11_1_1 H) .nil) .nil))) (.cons (.tup (T.w_EVENTS_k11_2 H) (.cons (.str _) (.cons (.tup (T.w_EVENTS_k11_2_1 H) (.cons (.str _) (.cons (.str _) .nil))) .nil))) .nil)))⟩, by decide +kernel, by decide +kernel, by decide +kernel, by decide +kernel, by decide +kernel, by decide +kernel, by decide +kernel, by decide +kernel⟩
def tr21 : TR := ("fetch", [("read", ["uint", "uint"], false), ("destroy", [], true)], [("changed", ["uint"], false), ("gone", [], false), ("part", ["uint", "octets"], false)])
theorem tabRow21 (T : Txt K mg A) (D : Dic w K A) : TabRow A w K tr21 :=
  ⟨D.kk_REQUESTS.sys, D.kk_EVENTS.sys, ⟨_, D.d_REQUESTS_k21, fun H => .tup (T.w_REQUESTS_k21 H) (.cons (.tup (T.w_REQUESTS_k21_0 H) (.cons (.str _) (.cons (.tup (T.w_REQUESTS_k21_0_1 H) (.cons (.str _) (.cons (.str _) .nil))) (.cons (.bl _) .nil)))) (.cons (.tup (T.w_REQUESTS_k21_1 H) (.cons (.str _) (.cons (.tup (T.w_REQUESTS_k21_1_1 H) .nil) (.cons (.bl _) .nil)))) .nil))⟩, .inl ⟨_, D.d_EVENTS_k12, fun H => .tup (T.w_EVENTS_k12 H) (.cons (.tup (T.w_EVENTS_k12_0 H) (.cons (.str _) (.cons (.tup (T.w_EVENTS_k12_0_1 H) (.cons (.str _) .nil)) .nil))) (.cons (.tup (T.w_EVENTS_k12_1 H) (.cons (.str _) (.cons (.tup (T.w_EVENTS_k12_1_1 H) .nil) .nil))) (.cons (.tup (T.w_EVENTS_k12_2 H) (.cons (.str _) (.cons (.tup (T.w_EVENTS_k12_2_1 H) (.cons (.str _) (.cons (.str _) .nil))) .nil))) .nil)))⟩, by decide +kernel, by decide +kernel, by decide +kernel, by decide +kernel, by decide +kernel, by decide +kernel, by decide +kernel, by decide +kernel⟩
def tr22 : TR := ("watch", [("destroy", [], true)], [("there", [], false), ("gone", [], false)])
theorem tabRow22 (T : Txt K mg A) (D : Dic w K A) : TabRow A w K tr22 :=
  ⟨D.kk_REQUESTS.sys, D.kk_EVENTS.sys, ⟨_, D.d_REQUESTS_k22, fun H => .tup (T.w_REQUESTS_k22 H) (.cons (.tup (T.w_REQUESTS_k22_0 H) (.cons (.str _) (.cons (.tup (T.w_REQUESTS_k22_0_1 H) .nil) (.cons (.bl _) .nil)))) .nil)⟩, .inl ⟨_, D.d_EVENTS_k13, fun H => .tup (T.w_EVENTS_k13 H) (.cons (.tup (T.w_EVENTS_k13_0 H) (.cons (.str _) (.cons (.tup (T.w_EVENTS_k13_0_1 H) .nil) .nil))) (.cons (.tup (T.w_EVENTS_k13_1 H) (.cons (.str _) (.cons (.tup (T.w_EVENTS_k13_1_1 H) .nil) .nil))) .nil))⟩, by decide +kernel, by decide +kernel, by decide +kernel, by decide +kernel, by decide +kernel, by decide +kernel, by decide +kernel, by decide +kernel⟩
def trs : List TR := [tr0, tr1, tr2, tr3, tr4, tr5, tr6, tr7, tr8, tr9, tr10, tr11, tr12, tr13, tr14, tr15, tr16, tr17, tr18, tr19, tr20, tr21, tr22]
set_option synthInstance.maxSize 2000 in
theorem tab_eq : tab = trs := by decide +kernel
theorem tabAll (T : Txt K mg A) (D : Dic w K A) : TabAll A w K := by
  have en : tabNames = (["display", "callback", "registry", "memory", "buffer", "compositor", "region", "surface", "joiner", "sub", "output", "windows", "window", "popup", "seat", "pointer", "keyboard", "transfer", "source", "offer", "capture", "fetch", "watch"] : List Str) := by unfold tabNames; rw [tab_eq]; rfl
  refine ⟨?_, by rw [en]; exact D.kk_REQUESTS, by rw [en]; decide +kernel, by rw [en]; decide +kernel, by rw [tab_eq]; rfl⟩
  rw [tab_eq]
  exact (List.forall_mem_cons.mpr ⟨tabRow0 T D, (List.forall_mem_cons.mpr ⟨tabRow1 T D, (List.forall_mem_cons.mpr ⟨tabRow2 T D, (List.forall_mem_cons.mpr ⟨tabRow3 T D, (List.forall_mem_cons.mpr ⟨tabRow4 T D, (List.forall_mem_cons.mpr ⟨tabRow5 T D, (List.forall_mem_cons.mpr ⟨tabRow6 T D, (List.forall_mem_cons.mpr ⟨tabRow7 T D, (List.forall_mem_cons.mpr ⟨tabRow8 T D, (List.forall_mem_cons.mpr ⟨tabRow9 T D, (List.forall_mem_cons.mpr ⟨tabRow10 T D, (List.forall_mem_cons.mpr ⟨tabRow11 T D, (List.forall_mem_cons.mpr ⟨tabRow12 T D, (List.forall_mem_cons.mpr ⟨tabRow13 T D, (List.forall_mem_cons.mpr ⟨tabRow14 T D, (List.forall_mem_cons.mpr ⟨tabRow15 T D, (List.forall_mem_cons.mpr ⟨tabRow16 T D, (List.forall_mem_cons.mpr ⟨tabRow17 T D, (List.forall_mem_cons.mpr ⟨tabRow18 T D, (List.forall_mem_cons.mpr ⟨tabRow19 T D, (List.forall_mem_cons.mpr ⟨tabRow20 T D, (List.forall_mem_cons.mpr ⟨tabRow21 T D, (List.forall_mem_cons.mpr ⟨tabRow22 T D, (fun _ z => nomatch z)⟩)⟩)⟩)⟩)⟩)⟩)⟩)⟩)⟩)⟩)⟩)⟩)⟩)⟩)⟩)⟩)⟩)⟩)⟩)⟩)⟩)⟩)⟩)
theorem ok_law (T : Txt K mg A) (D : Dic w K A) : FnOk P w K mg base CX0 10 A.flaw A.dlaw ["script"] (sp_law K) := ok_lawE T (tabAll T D)
end
theorem all_mk {w : World} {K : PySem.W.Frag} {h : Heap} {mg : Str → Option Value} {fa : Addr} (X : K.In h) (G : h.Ns mainGlobals mg) (hfa : mg "law" = some (.ref fa))
    {fis_integer : Addr} {od1 an1 : Option Addr} {sl1 : Array (Option Value)} {oc1 kV1 dc1 pm1 cd1 ct1 : Value}
    {fis_text : Addr} {od2 an2 : Option Addr} {sl2 : Array (Option Value)} {oc2 kV2 dc2 pm2 cd2 ct2 : Value}
    {fnumber_octets : Addr} {od3 an3 : Option Addr} {sl3 : Array (Option Value)} {oc3 kV3 dc3 pm3 cd3 ct3 : Value}
    {ffield_octets : Addr} {od4 an4 : Option Addr} {sl4 : Array (Option Value)} {oc4 kV4 dc4 pm4 cd4 ct4 : Value}
    {f_is_code : Addr} {od5 an5 : Option Addr} {sl5 : Array (Option Value)} {oc5 kV5 dc5 pm5 cd5 ct5 : Value}
    {f_is_of : Addr} {od6 an6 : Option Addr} {sl6 : Array (Option Value)} {oc6 kV6 dc6 pm6 cd6 ct6 : Value}
    {f_are_octets : Addr} {od7 an7 : Option Addr} {sl7 : Array (Option Value)} {oc7 kV7 dc7 pm7 cd7 ct7 : Value}
    {f_is_bound : Addr} {od8 an8 : Option Addr} {sl8 : Array (Option Value)} {oc8 kV8 dc8 pm8 cd8 ct8 : Value}
    {f_text_octets : Addr} {od9 an9 : Option Addr} {sl9 : Array (Option Value)} {oc9 kV9 dc9 pm9 cd9 ct9 : Value}
    {f_padded : Addr} {od10 an10 : Option Addr} {sl10 : Array (Option Value)} {oc10 kV10 dc10 pm10 cd10 ct10 : Value}
    {fencode_message : Addr} {od11 an11 : Option Addr} {sl11 : Array (Option Value)} {oc11 kV11 dc11 pm11 cd11 ct11 : Value}
    {finterface_names : Addr} {od12 an12 : Option Addr} {sl12 : Array (Option Value)} {oc12 kV12 dc12 pm12 cd12 ct12 : Value}
    {frequest_row : Addr} {od13 an13 : Option Addr} {sl13 : Array (Option Value)} {oc13 kV13 dc13 pm13 cd13 ct13 : Value}
    {frequest_opcode : Addr} {od14 an14 : Option Addr} {sl14 : Array (Option Value)} {oc14 kV14 dc14 pm14 cd14 ct14 : Value}
    {fevent_row : Addr} {od15 an15 : Option Addr} {sl15 : Array (Option Value)} {oc15 kV15 dc15 pm15 cd15 ct15 : Value}
    {fevent_octets : Addr} {od16 an16 : Option Addr} {sl16 : Array (Option Value)} {oc16 kV16 dc16 pm16 cd16 ct16 : Value}
    {f_row_at : Addr} {od17 an17 : Option Addr} {sl17 : Array (Option Value)} {oc17 kV17 dc17 pm17 cd17 ct17 : Value}
    {f_opcode_of : Addr} {od18 an18 : Option Addr} {sl18 : Array (Option Value)} {oc18 kV18 dc18 pm18 cd18 ct18 : Value}
    {f_law_cell : Addr} {od19 an19 : Option Addr} {sl19 : Array (Option Value)} {oc19 kV19 dc19 pm19 cd19 ct19 : Value}
    {f_law_row : Addr} {od20 an20 : Option Addr} {sl20 : Array (Option Value)} {oc20 kV20 dc20 pm20 cd20 ct20 : Value}
    {f_law_rows : Addr} {od21 an21 : Option Addr} {sl21 : Array (Option Value)} {oc21 kV21 dc21 pm21 cd21 ct21 : Value}
    {f_law_list : Addr} {od22 an22 : Option Addr} {sl22 : Array (Option Value)} {oc22 kV22 dc22 pm22 cd22 ct22 : Value}
    {f_law_split : Addr} {od23 an23 : Option Addr} {sl23 : Array (Option Value)} {oc23 kV23 dc23 pm23 cd23 ct23 : Value}
    {f_law_table : Addr} {od24 an24 : Option Addr} {sl24 : Array (Option Value)} {oc24 kV24 dc24 pm24 cd24 ct24 : Value}
    {f_law_sign : Addr} {od25 an25 : Option Addr} {sl25 : Array (Option Value)} {oc25 kV25 dc25 pm25 cd25 ct25 : Value}
    {f_law_text : Addr} {od26 an26 : Option Addr} {sl26 : Array (Option Value)} {oc26 kV26 dc26 pm26 cd26 ct26 : Value}
    {f_law_octets : Addr} {od27 an27 : Option Addr} {sl27 : Array (Option Value)} {oc27 kV27 dc27 pm27 cd27 ct27 : Value}
    {f_law_value : Addr} {od28 an28 : Option Addr} {sl28 : Array (Option Value)} {oc28 kV28 dc28 pm28 cd28 ct28 : Value}
    {f_law_row_fits : Addr} {od29 an29 : Option Addr} {sl29 : Array (Option Value)} {oc29 kV29 dc29 pm29 cd29 ct29 : Value}
    {f_law_event_fits : Addr} {od30 an30 : Option Addr} {sl30 : Array (Option Value)} {oc30 kV30 dc30 pm30 cd30 ct30 : Value}
    {flaw : Addr} {od31 an31 : Option Addr} {sl31 : Array (Option Value)} {oc31 kV31 dc31 pm31 cd31 ct31 : Value}
    {tGREATEST_NUMBER : Tok}
    {tLEAST_INT : Tok}
    {tGREATEST_INT : Tok}
    {tLONGEST_TEXT : Tok}
    {tMOST_OCTETS : Tok}
    {t_FIRST_CODE : Tok}
    {t_LAST_CODE : Tok}
    {t_PERCENT_CODE : Tok}
    {tHEADER_SIZE : Tok}
    {tGREATEST_SIZE : Tok}
    {tGREATEST_OPCODE : Tok}
    {tMOST_ARGUMENTS : Tok}
    {a_REQUESTS : Addr}
    {es_REQUESTS : Array DictEntry} {nn_REQUESTS : Nat}
    {tk_REQUESTS0 tk_REQUESTS1 tk_REQUESTS2 tk_REQUESTS3 tk_REQUESTS4 tk_REQUESTS5 tk_REQUESTS6 tk_REQUESTS7 tk_REQUESTS8 tk_REQUESTS9 tk_REQUESTS10 tk_REQUESTS11 tk_REQUESTS12 tk_REQUESTS13 tk_REQUESTS14 tk_REQUESTS15 tk_REQUESTS16 tk_REQUESTS17 tk_REQUESTS18 tk_REQUESTS19 tk_REQUESTS20 tk_REQUESTS21 tk_REQUESTS22 : Tok}
    {a_REQUESTS_k0 : Addr}
    {ow_REQUESTS_k0 : Option Addr} {nw_REQUESTS_k0 : Nat} {sw_REQUESTS_k0 : Array (Option Value)}
    {a_REQUESTS_k0_0 : Addr}
    {tk_REQUESTS_k0_0_0 : Tok}
    {ow_REQUESTS_k0_0 : Option Addr} {nw_REQUESTS_k0_0 : Nat} {sw_REQUESTS_k0_0 : Array (Option Value)}
    {a_REQUESTS_k0_0_1 : Addr}
    {tk_REQUESTS_k0_0_1_0 : Tok}
    {ow_REQUESTS_k0_0_1 : Option Addr} {nw_REQUESTS_k0_0_1 : Nat} {sw_REQUESTS_k0_0_1 : Array (Option Value)}
    {a_REQUESTS_k0_1 : Addr}
    {tk_REQUESTS_k0_1_0 : Tok}
    {ow_REQUESTS_k0_1 : Option Addr} {nw_REQUESTS_k0_1 : Nat} {sw_REQUESTS_k0_1 : Array (Option Value)}
    {a_REQUESTS_k0_1_1 : Addr}
    {tk_REQUESTS_k0_1_1_0 : Tok}
    {ow_REQUESTS_k0_1_1 : Option Addr} {nw_REQUESTS_k0_1_1 : Nat} {sw_REQUESTS_k0_1_1 : Array (Option Value)}
    {a_REQUESTS_k1 : Addr}
    {ow_REQUESTS_k1 : Option Addr} {nw_REQUESTS_k1 : Nat} {sw_REQUESTS_k1 : Array (Option Value)}
    {a_REQUESTS_k2 : Addr}
    {ow_REQUESTS_k2 : Option Addr} {nw_REQUESTS_k2 : Nat} {sw_REQUESTS_k2 : Array (Option Value)}
    {a_REQUESTS_k2_0 : Addr}
    {tk_REQUESTS_k2_0_0 : Tok}
    {ow_REQUESTS_k2_0 : Option Addr} {nw_REQUESTS_k2_0 : Nat} {sw_REQUESTS_k2_0 : Array (Option Value)}
    {a_REQUESTS_k2_0_1 : Addr}
    {tk_REQUESTS_k2_0_1_0 tk_REQUESTS_k2_0_1_1 : Tok}
    {ow_REQUESTS_k2_0_1 : Option Addr} {nw_REQUESTS_k2_0_1 : Nat} {sw_REQUESTS_k2_0_1 : Array (Option Value)}
    {a_REQUESTS_k3 : Addr}
    {ow_REQUESTS_k3 : Option Addr} {nw_REQUESTS_k3 : Nat} {sw_REQUESTS_k3 : Array (Option Value)}
    {a_REQUESTS_k3_0 : Addr}
    {tk_REQUESTS_k3_0_0 : Tok}
    {ow_REQUESTS_k3_0 : Option Addr} {nw_REQUESTS_k3_0 : Nat} {sw_REQUESTS_k3_0 : Array (Option Value)}
    {a_REQUESTS_k3_0_1 : Addr}
    {tk_REQUESTS_k3_0_1_0 tk_REQUESTS_k3_0_1_1 tk_REQUESTS_k3_0_1_2 : Tok}
    {ow_REQUESTS_k3_0_1 : Option Addr} {nw_REQUESTS_k3_0_1 : Nat} {sw_REQUESTS_k3_0_1 : Array (Option Value)}
    {a_REQUESTS_k3_1 : Addr}
    {tk_REQUESTS_k3_1_0 : Tok}
    {ow_REQUESTS_k3_1 : Option Addr} {nw_REQUESTS_k3_1 : Nat} {sw_REQUESTS_k3_1 : Array (Option Value)}
    {a_REQUESTS_k3_1_1 : Addr}
    {ow_REQUESTS_k3_1_1 : Option Addr} {nw_REQUESTS_k3_1_1 : Nat} {sw_REQUESTS_k3_1_1 : Array (Option Value)}
    {a_REQUESTS_k4 : Addr}
    {ow_REQUESTS_k4 : Option Addr} {nw_REQUESTS_k4 : Nat} {sw_REQUESTS_k4 : Array (Option Value)}
    {a_REQUESTS_k4_0 : Addr}
    {tk_REQUESTS_k4_0_0 : Tok}
    {ow_REQUESTS_k4_0 : Option Addr} {nw_REQUESTS_k4_0 : Nat} {sw_REQUESTS_k4_0 : Array (Option Value)}
    {a_REQUESTS_k4_0_1 : Addr}
    {tk_REQUESTS_k4_0_1_0 tk_REQUESTS_k4_0_1_1 : Tok}
    {ow_REQUESTS_k4_0_1 : Option Addr} {nw_REQUESTS_k4_0_1 : Nat} {sw_REQUESTS_k4_0_1 : Array (Option Value)}
    {a_REQUESTS_k4_1 : Addr}
    {tk_REQUESTS_k4_1_0 : Tok}
    {ow_REQUESTS_k4_1 : Option Addr} {nw_REQUESTS_k4_1 : Nat} {sw_REQUESTS_k4_1 : Array (Option Value)}
    {a_REQUESTS_k4_1_1 : Addr}
    {tk_REQUESTS_k4_1_1_0 tk_REQUESTS_k4_1_1_1 tk_REQUESTS_k4_1_1_2 tk_REQUESTS_k4_1_1_3 tk_REQUESTS_k4_1_1_4 : Tok}
    {ow_REQUESTS_k4_1_1 : Option Addr} {nw_REQUESTS_k4_1_1 : Nat} {sw_REQUESTS_k4_1_1 : Array (Option Value)}
    {a_REQUESTS_k4_2 : Addr}
    {tk_REQUESTS_k4_2_0 : Tok}
    {ow_REQUESTS_k4_2 : Option Addr} {nw_REQUESTS_k4_2 : Nat} {sw_REQUESTS_k4_2 : Array (Option Value)}
    {a_REQUESTS_k4_2_1 : Addr}
    {ow_REQUESTS_k4_2_1 : Option Addr} {nw_REQUESTS_k4_2_1 : Nat} {sw_REQUESTS_k4_2_1 : Array (Option Value)}
    {a_REQUESTS_k5 : Addr}
    {ow_REQUESTS_k5 : Option Addr} {nw_REQUESTS_k5 : Nat} {sw_REQUESTS_k5 : Array (Option Value)}
    {a_REQUESTS_k5_0 : Addr}
    {tk_REQUESTS_k5_0_0 : Tok}
    {ow_REQUESTS_k5_0 : Option Addr} {nw_REQUESTS_k5_0 : Nat} {sw_REQUESTS_k5_0 : Array (Option Value)}
    {a_REQUESTS_k5_0_1 : Addr}
    {tk_REQUESTS_k5_0_1_0 : Tok}
    {ow_REQUESTS_k5_0_1 : Option Addr} {nw_REQUESTS_k5_0_1 : Nat} {sw_REQUESTS_k5_0_1 : Array (Option Value)}
    {a_REQUESTS_k5_1 : Addr}
    {tk_REQUESTS_k5_1_0 : Tok}
    {ow_REQUESTS_k5_1 : Option Addr} {nw_REQUESTS_k5_1 : Nat} {sw_REQUESTS_k5_1 : Array (Option Value)}
    {a_REQUESTS_k5_1_1 : Addr}
    {tk_REQUESTS_k5_1_1_0 : Tok}
    {ow_REQUESTS_k5_1_1 : Option Addr} {nw_REQUESTS_k5_1_1 : Nat} {sw_REQUESTS_k5_1_1 : Array (Option Value)}
    {a_REQUESTS_k5_2 : Addr}
    {tk_REQUESTS_k5_2_0 : Tok}
    {ow_REQUESTS_k5_2 : Option Addr} {nw_REQUESTS_k5_2 : Nat} {sw_REQUESTS_k5_2 : Array (Option Value)}
    {a_REQUESTS_k5_2_1 : Addr}
    {ow_REQUESTS_k5_2_1 : Option Addr} {nw_REQUESTS_k5_2_1 : Nat} {sw_REQUESTS_k5_2_1 : Array (Option Value)}
    {a_REQUESTS_k6 : Addr}
    {ow_REQUESTS_k6 : Option Addr} {nw_REQUESTS_k6 : Nat} {sw_REQUESTS_k6 : Array (Option Value)}
    {a_REQUESTS_k6_0 : Addr}
    {tk_REQUESTS_k6_0_0 : Tok}
    {ow_REQUESTS_k6_0 : Option Addr} {nw_REQUESTS_k6_0 : Nat} {sw_REQUESTS_k6_0 : Array (Option Value)}
    {a_REQUESTS_k6_0_1 : Addr}
    {tk_REQUESTS_k6_0_1_0 tk_REQUESTS_k6_0_1_1 tk_REQUESTS_k6_0_1_2 tk_REQUESTS_k6_0_1_3 : Tok}
    {ow_REQUESTS_k6_0_1 : Option Addr} {nw_REQUESTS_k6_0_1 : Nat} {sw_REQUESTS_k6_0_1 : Array (Option Value)}
    {a_REQUESTS_k6_1 : Addr}
    {tk_REQUESTS_k6_1_0 : Tok}
    {ow_REQUESTS_k6_1 : Option Addr} {nw_REQUESTS_k6_1 : Nat} {sw_REQUESTS_k6_1 : Array (Option Value)}
    {a_REQUESTS_k6_1_1 : Addr}
    {tk_REQUESTS_k6_1_1_0 tk_REQUESTS_k6_1_1_1 tk_REQUESTS_k6_1_1_2 tk_REQUESTS_k6_1_1_3 : Tok}
    {ow_REQUESTS_k6_1_1 : Option Addr} {nw_REQUESTS_k6_1_1 : Nat} {sw_REQUESTS_k6_1_1 : Array (Option Value)}
    {a_REQUESTS_k6_2 : Addr}
    {tk_REQUESTS_k6_2_0 : Tok}
    {ow_REQUESTS_k6_2 : Option Addr} {nw_REQUESTS_k6_2 : Nat} {sw_REQUESTS_k6_2 : Array (Option Value)}
    {a_REQUESTS_k6_2_1 : Addr}
    {ow_REQUESTS_k6_2_1 : Option Addr} {nw_REQUESTS_k6_2_1 : Nat} {sw_REQUESTS_k6_2_1 : Array (Option Value)}
    {a_REQUESTS_k7 : Addr}
    {ow_REQUESTS_k7 : Option Addr} {nw_REQUESTS_k7 : Nat} {sw_REQUESTS_k7 : Array (Option Value)}
    {a_REQUESTS_k7_0 : Addr}
    {tk_REQUESTS_k7_0_0 : Tok}
    {ow_REQUESTS_k7_0 : Option Addr} {nw_REQUESTS_k7_0 : Nat} {sw_REQUESTS_k7_0 : Array (Option Value)}
    {a_REQUESTS_k7_0_1 : Addr}
    {tk_REQUESTS_k7_0_1_0 : Tok}
    {ow_REQUESTS_k7_0_1 : Option Addr} {nw_REQUESTS_k7_0_1 : Nat} {sw_REQUESTS_k7_0_1 : Array (Option Value)}
    {a_REQUESTS_k7_1 : Addr}
    {tk_REQUESTS_k7_1_0 : Tok}
    {ow_REQUESTS_k7_1 : Option Addr} {nw_REQUESTS_k7_1 : Nat} {sw_REQUESTS_k7_1 : Array (Option Value)}
    {a_REQUESTS_k7_1_1 : Addr}
    {tk_REQUESTS_k7_1_1_0 : Tok}
    {ow_REQUESTS_k7_1_1 : Option Addr} {nw_REQUESTS_k7_1_1 : Nat} {sw_REQUESTS_k7_1_1 : Array (Option Value)}
    {a_REQUESTS_k7_2 : Addr}
    {tk_REQUESTS_k7_2_0 : Tok}
    {ow_REQUESTS_k7_2 : Option Addr} {nw_REQUESTS_k7_2 : Nat} {sw_REQUESTS_k7_2 : Array (Option Value)}
    {a_REQUESTS_k7_2_1 : Addr}
    {tk_REQUESTS_k7_2_1_0 : Tok}
    {ow_REQUESTS_k7_2_1 : Option Addr} {nw_REQUESTS_k7_2_1 : Nat} {sw_REQUESTS_k7_2_1 : Array (Option Value)}
    {a_REQUESTS_k7_3 : Addr}
    {tk_REQUESTS_k7_3_0 : Tok}
    {ow_REQUESTS_k7_3 : Option Addr} {nw_REQUESTS_k7_3 : Nat} {sw_REQUESTS_k7_3 : Array (Option Value)}
    {a_REQUESTS_k7_3_1 : Addr}
    {ow_REQUESTS_k7_3_1 : Option Addr} {nw_REQUESTS_k7_3_1 : Nat} {sw_REQUESTS_k7_3_1 : Array (Option Value)}
    {a_REQUESTS_k7_4 : Addr}
    {tk_REQUESTS_k7_4_0 : Tok}
    {ow_REQUESTS_k7_4 : Option Addr} {nw_REQUESTS_k7_4 : Nat} {sw_REQUESTS_k7_4 : Array (Option Value)}
    {a_REQUESTS_k7_4_1 : Addr}
    {tk_REQUESTS_k7_4_1_0 : Tok}
    {ow_REQUESTS_k7_4_1 : Option Addr} {nw_REQUESTS_k7_4_1 : Nat} {sw_REQUESTS_k7_4_1 : Array (Option Value)}
    {a_REQUESTS_k7_5 : Addr}
    {tk_REQUESTS_k7_5_0 : Tok}
    {ow_REQUESTS_k7_5 : Option Addr} {nw_REQUESTS_k7_5 : Nat} {sw_REQUESTS_k7_5 : Array (Option Value)}
    {a_REQUESTS_k7_5_1 : Addr}
    {tk_REQUESTS_k7_5_1_0 : Tok}
    {ow_REQUESTS_k7_5_1 : Option Addr} {nw_REQUESTS_k7_5_1 : Nat} {sw_REQUESTS_k7_5_1 : Array (Option Value)}
    {a_REQUESTS_k7_6 : Addr}
    {tk_REQUESTS_k7_6_0 : Tok}
    {ow_REQUESTS_k7_6 : Option Addr} {nw_REQUESTS_k7_6 : Nat} {sw_REQUESTS_k7_6 : Array (Option Value)}
    {a_REQUESTS_k7_6_1 : Addr}
    {ow_REQUESTS_k7_6_1 : Option Addr} {nw_REQUESTS_k7_6_1 : Nat} {sw_REQUESTS_k7_6_1 : Array (Option Value)}
    {a_REQUESTS_k8 : Addr}
    {ow_REQUESTS_k8 : Option Addr} {nw_REQUESTS_k8 : Nat} {sw_REQUESTS_k8 : Array (Option Value)}
    {a_REQUESTS_k8_0 : Addr}
    {tk_REQUESTS_k8_0_0 : Tok}
    {ow_REQUESTS_k8_0 : Option Addr} {nw_REQUESTS_k8_0 : Nat} {sw_REQUESTS_k8_0 : Array (Option Value)}
    {a_REQUESTS_k8_0_1 : Addr}
    {tk_REQUESTS_k8_0_1_0 tk_REQUESTS_k8_0_1_1 tk_REQUESTS_k8_0_1_2 : Tok}
    {ow_REQUESTS_k8_0_1 : Option Addr} {nw_REQUESTS_k8_0_1 : Nat} {sw_REQUESTS_k8_0_1 : Array (Option Value)}
    {a_REQUESTS_k8_1 : Addr}
    {tk_REQUESTS_k8_1_0 : Tok}
    {ow_REQUESTS_k8_1 : Option Addr} {nw_REQUESTS_k8_1 : Nat} {sw_REQUESTS_k8_1 : Array (Option Value)}
    {a_REQUESTS_k8_1_1 : Addr}
    {ow_REQUESTS_k8_1_1 : Option Addr} {nw_REQUESTS_k8_1_1 : Nat} {sw_REQUESTS_k8_1_1 : Array (Option Value)}
    {a_REQUESTS_k9 : Addr}
    {ow_REQUESTS_k9 : Option Addr} {nw_REQUESTS_k9 : Nat} {sw_REQUESTS_k9 : Array (Option Value)}
    {a_REQUESTS_k9_0 : Addr}
    {tk_REQUESTS_k9_0_0 : Tok}
    {ow_REQUESTS_k9_0 : Option Addr} {nw_REQUESTS_k9_0 : Nat} {sw_REQUESTS_k9_0 : Array (Option Value)}
    {a_REQUESTS_k9_0_1 : Addr}
    {tk_REQUESTS_k9_0_1_0 tk_REQUESTS_k9_0_1_1 : Tok}
    {ow_REQUESTS_k9_0_1 : Option Addr} {nw_REQUESTS_k9_0_1 : Nat} {sw_REQUESTS_k9_0_1 : Array (Option Value)}
    {a_REQUESTS_k9_1 : Addr}
    {tk_REQUESTS_k9_1_0 : Tok}
    {ow_REQUESTS_k9_1 : Option Addr} {nw_REQUESTS_k9_1 : Nat} {sw_REQUESTS_k9_1 : Array (Option Value)}
    {a_REQUESTS_k9_1_1 : Addr}
    {tk_REQUESTS_k9_1_1_0 : Tok}
    {ow_REQUESTS_k9_1_1 : Option Addr} {nw_REQUESTS_k9_1_1 : Nat} {sw_REQUESTS_k9_1_1 : Array (Option Value)}
    {a_REQUESTS_k9_2 : Addr}
    {tk_REQUESTS_k9_2_0 : Tok}
    {ow_REQUESTS_k9_2 : Option Addr} {nw_REQUESTS_k9_2 : Nat} {sw_REQUESTS_k9_2 : Array (Option Value)}
    {a_REQUESTS_k9_2_1 : Addr}
    {tk_REQUESTS_k9_2_1_0 : Tok}
    {ow_REQUESTS_k9_2_1 : Option Addr} {nw_REQUESTS_k9_2_1 : Nat} {sw_REQUESTS_k9_2_1 : Array (Option Value)}
    {a_REQUESTS_k9_3 : Addr}
    {tk_REQUESTS_k9_3_0 : Tok}
    {ow_REQUESTS_k9_3 : Option Addr} {nw_REQUESTS_k9_3 : Nat} {sw_REQUESTS_k9_3 : Array (Option Value)}
    {a_REQUESTS_k9_3_1 : Addr}
    {ow_REQUESTS_k9_3_1 : Option Addr} {nw_REQUESTS_k9_3_1 : Nat} {sw_REQUESTS_k9_3_1 : Array (Option Value)}
    {a_REQUESTS_k9_4 : Addr}
    {tk_REQUESTS_k9_4_0 : Tok}
    {ow_REQUESTS_k9_4 : Option Addr} {nw_REQUESTS_k9_4 : Nat} {sw_REQUESTS_k9_4 : Array (Option Value)}
    {a_REQUESTS_k9_4_1 : Addr}
    {ow_REQUESTS_k9_4_1 : Option Addr} {nw_REQUESTS_k9_4_1 : Nat} {sw_REQUESTS_k9_4_1 : Array (Option Value)}
    {a_REQUESTS_k9_5 : Addr}
    {tk_REQUESTS_k9_5_0 : Tok}
    {ow_REQUESTS_k9_5 : Option Addr} {nw_REQUESTS_k9_5 : Nat} {sw_REQUESTS_k9_5 : Array (Option Value)}
    {a_REQUESTS_k9_5_1 : Addr}
    {ow_REQUESTS_k9_5_1 : Option Addr} {nw_REQUESTS_k9_5_1 : Nat} {sw_REQUESTS_k9_5_1 : Array (Option Value)}
    {a_REQUESTS_k10 : Addr}
    {ow_REQUESTS_k10 : Option Addr} {nw_REQUESTS_k10 : Nat} {sw_REQUESTS_k10 : Array (Option Value)}
    {a_REQUESTS_k10_0 : Addr}
    {tk_REQUESTS_k10_0_0 : Tok}
    {ow_REQUESTS_k10_0 : Option Addr} {nw_REQUESTS_k10_0 : Nat} {sw_REQUESTS_k10_0 : Array (Option Value)}
    {a_REQUESTS_k10_0_1 : Addr}
    {ow_REQUESTS_k10_0_1 : Option Addr} {nw_REQUESTS_k10_0_1 : Nat} {sw_REQUESTS_k10_0_1 : Array (Option Value)}
    {a_REQUESTS_k11 : Addr}
    {ow_REQUESTS_k11 : Option Addr} {nw_REQUESTS_k11 : Nat} {sw_REQUESTS_k11 : Array (Option Value)}
    {a_REQUESTS_k11_0 : Addr}
    {tk_REQUESTS_k11_0_0 : Tok}
    {ow_REQUESTS_k11_0 : Option Addr} {nw_REQUESTS_k11_0 : Nat} {sw_REQUESTS_k11_0 : Array (Option Value)}
    {a_REQUESTS_k11_0_1 : Addr}
    {tk_REQUESTS_k11_0_1_0 tk_REQUESTS_k11_0_1_1 : Tok}
    {ow_REQUESTS_k11_0_1 : Option Addr} {nw_REQUESTS_k11_0_1 : Nat} {sw_REQUESTS_k11_0_1 : Array (Option Value)}
    {a_REQUESTS_k11_1 : Addr}
    {tk_REQUESTS_k11_1_0 : Tok}
    {ow_REQUESTS_k11_1 : Option Addr} {nw_REQUESTS_k11_1 : Nat} {sw_REQUESTS_k11_1 : Array (Option Value)}
    {a_REQUESTS_k11_1_1 : Addr}
    {tk_REQUESTS_k11_1_1_0 tk_REQUESTS_k11_1_1_1 tk_REQUESTS_k11_1_1_2 tk_REQUESTS_k11_1_1_3 tk_REQUESTS_k11_1_1_4 tk_REQUESTS_k11_1_1_5 tk_REQUESTS_k11_1_1_6 tk_REQUESTS_k11_1_1_7 tk_REQUESTS_k11_1_1_8 tk_REQUESTS_k11_1_1_9 tk_REQUESTS_k11_1_1_10 tk_REQUESTS_k11_1_1_11 tk_REQUESTS_k11_1_1_12 tk_REQUESTS_k11_1_1_13 tk_REQUESTS_k11_1_1_14 tk_REQUESTS_k11_1_1_15 tk_REQUESTS_k11_1_1_16 : Tok}
    {ow_REQUESTS_k11_1_1 : Option Addr} {nw_REQUESTS_k11_1_1 : Nat} {sw_REQUESTS_k11_1_1 : Array (Option Value)}
    {a_REQUESTS_k12 : Addr}
    {ow_REQUESTS_k12 : Option Addr} {nw_REQUESTS_k12 : Nat} {sw_REQUESTS_k12 : Array (Option Value)}
    {a_REQUESTS_k12_0 : Addr}
    {tk_REQUESTS_k12_0_0 : Tok}
    {ow_REQUESTS_k12_0 : Option Addr} {nw_REQUESTS_k12_0 : Nat} {sw_REQUESTS_k12_0 : Array (Option Value)}
    {a_REQUESTS_k12_0_1 : Addr}
    {ow_REQUESTS_k12_0_1 : Option Addr} {nw_REQUESTS_k12_0_1 : Nat} {sw_REQUESTS_k12_0_1 : Array (Option Value)}
    {a_REQUESTS_k12_1 : Addr}
    {tk_REQUESTS_k12_1_0 : Tok}
    {ow_REQUESTS_k12_1 : Option Addr} {nw_REQUESTS_k12_1 : Nat} {sw_REQUESTS_k12_1 : Array (Option Value)}
    {a_REQUESTS_k12_1_1 : Addr}
    {tk_REQUESTS_k12_1_1_0 : Tok}
    {ow_REQUESTS_k12_1_1 : Option Addr} {nw_REQUESTS_k12_1_1 : Nat} {sw_REQUESTS_k12_1_1 : Array (Option Value)}
    {a_REQUESTS_k12_2 : Addr}
    {tk_REQUESTS_k12_2_0 : Tok}
    {ow_REQUESTS_k12_2 : Option Addr} {nw_REQUESTS_k12_2 : Nat} {sw_REQUESTS_k12_2 : Array (Option Value)}
    {a_REQUESTS_k12_2_1 : Addr}
    {tk_REQUESTS_k12_2_1_0 : Tok}
    {ow_REQUESTS_k12_2_1 : Option Addr} {nw_REQUESTS_k12_2_1 : Nat} {sw_REQUESTS_k12_2_1 : Array (Option Value)}
    {a_REQUESTS_k12_3 : Addr}
    {tk_REQUESTS_k12_3_0 : Tok}
    {ow_REQUESTS_k12_3 : Option Addr} {nw_REQUESTS_k12_3 : Nat} {sw_REQUESTS_k12_3 : Array (Option Value)}
    {a_REQUESTS_k12_3_1 : Addr}
    {tk_REQUESTS_k12_3_1_0 tk_REQUESTS_k12_3_1_1 : Tok}
    {ow_REQUESTS_k12_3_1 : Option Addr} {nw_REQUESTS_k12_3_1 : Nat} {sw_REQUESTS_k12_3_1 : Array (Option Value)}
    {a_REQUESTS_k12_4 : Addr}
    {tk_REQUESTS_k12_4_0 : Tok}
    {ow_REQUESTS_k12_4 : Option Addr} {nw_REQUESTS_k12_4 : Nat} {sw_REQUESTS_k12_4 : Array (Option Value)}
    {a_REQUESTS_k12_4_1 : Addr}
    {tk_REQUESTS_k12_4_1_0 tk_REQUESTS_k12_4_1_1 : Tok}
    {ow_REQUESTS_k12_4_1 : Option Addr} {nw_REQUESTS_k12_4_1 : Nat} {sw_REQUESTS_k12_4_1 : Array (Option Value)}
    {a_REQUESTS_k12_5 : Addr}
    {tk_REQUESTS_k12_5_0 : Tok}
    {ow_REQUESTS_k12_5 : Option Addr} {nw_REQUESTS_k12_5 : Nat} {sw_REQUESTS_k12_5 : Array (Option Value)}
    {a_REQUESTS_k12_5_1 : Addr}
    {tk_REQUESTS_k12_5_1_0 : Tok}
    {ow_REQUESTS_k12_5_1 : Option Addr} {nw_REQUESTS_k12_5_1 : Nat} {sw_REQUESTS_k12_5_1 : Array (Option Value)}
    {a_REQUESTS_k12_6 : Addr}
    {tk_REQUESTS_k12_6_0 : Tok}
    {ow_REQUESTS_k12_6 : Option Addr} {nw_REQUESTS_k12_6 : Nat} {sw_REQUESTS_k12_6 : Array (Option Value)}
    {a_REQUESTS_k12_6_1 : Addr}
    {tk_REQUESTS_k12_6_1_0 : Tok}
    {ow_REQUESTS_k12_6_1 : Option Addr} {nw_REQUESTS_k12_6_1 : Nat} {sw_REQUESTS_k12_6_1 : Array (Option Value)}
    {a_REQUESTS_k12_7 : Addr}
    {tk_REQUESTS_k12_7_0 : Tok}
    {ow_REQUESTS_k12_7 : Option Addr} {nw_REQUESTS_k12_7 : Nat} {sw_REQUESTS_k12_7 : Array (Option Value)}
    {a_REQUESTS_k12_7_1 : Addr}
    {tk_REQUESTS_k12_7_1_0 tk_REQUESTS_k12_7_1_1 : Tok}
    {ow_REQUESTS_k12_7_1 : Option Addr} {nw_REQUESTS_k12_7_1 : Nat} {sw_REQUESTS_k12_7_1 : Array (Option Value)}
    {a_REQUESTS_k12_8 : Addr}
    {tk_REQUESTS_k12_8_0 : Tok}
    {ow_REQUESTS_k12_8 : Option Addr} {nw_REQUESTS_k12_8 : Nat} {sw_REQUESTS_k12_8 : Array (Option Value)}
    {a_REQUESTS_k12_8_1 : Addr}
    {tk_REQUESTS_k12_8_1_0 tk_REQUESTS_k12_8_1_1 tk_REQUESTS_k12_8_1_2 : Tok}
    {ow_REQUESTS_k12_8_1 : Option Addr} {nw_REQUESTS_k12_8_1 : Nat} {sw_REQUESTS_k12_8_1 : Array (Option Value)}
    {a_REQUESTS_k12_9 : Addr}
    {tk_REQUESTS_k12_9_0 : Tok}
    {ow_REQUESTS_k12_9 : Option Addr} {nw_REQUESTS_k12_9 : Nat} {sw_REQUESTS_k12_9 : Array (Option Value)}
    {a_REQUESTS_k12_9_1 : Addr}
    {tk_REQUESTS_k12_9_1_0 : Tok}
    {ow_REQUESTS_k12_9_1 : Option Addr} {nw_REQUESTS_k12_9_1 : Nat} {sw_REQUESTS_k12_9_1 : Array (Option Value)}
    {a_REQUESTS_k12_10 : Addr}
    {tk_REQUESTS_k12_10_0 : Tok}
    {ow_REQUESTS_k12_10 : Option Addr} {nw_REQUESTS_k12_10 : Nat} {sw_REQUESTS_k12_10 : Array (Option Value)}
    {a_REQUESTS_k12_10_1 : Addr}
    {tk_REQUESTS_k12_10_1_0 : Tok}
    {ow_REQUESTS_k12_10_1 : Option Addr} {nw_REQUESTS_k12_10_1 : Nat} {sw_REQUESTS_k12_10_1 : Array (Option Value)}
    {a_REQUESTS_k12_11 : Addr}
    {tk_REQUESTS_k12_11_0 : Tok}
    {ow_REQUESTS_k12_11 : Option Addr} {nw_REQUESTS_k12_11 : Nat} {sw_REQUESTS_k12_11 : Array (Option Value)}
    {a_REQUESTS_k12_11_1 : Addr}
    {ow_REQUESTS_k12_11_1 : Option Addr} {nw_REQUESTS_k12_11_1 : Nat} {sw_REQUESTS_k12_11_1 : Array (Option Value)}
    {a_REQUESTS_k13 : Addr}
    {ow_REQUESTS_k13 : Option Addr} {nw_REQUESTS_k13 : Nat} {sw_REQUESTS_k13 : Array (Option Value)}
    {a_REQUESTS_k13_0 : Addr}
    {tk_REQUESTS_k13_0_0 : Tok}
    {ow_REQUESTS_k13_0 : Option Addr} {nw_REQUESTS_k13_0 : Nat} {sw_REQUESTS_k13_0 : Array (Option Value)}
    {a_REQUESTS_k13_0_1 : Addr}
    {ow_REQUESTS_k13_0_1 : Option Addr} {nw_REQUESTS_k13_0_1 : Nat} {sw_REQUESTS_k13_0_1 : Array (Option Value)}
    {a_REQUESTS_k13_1 : Addr}
    {tk_REQUESTS_k13_1_0 : Tok}
    {ow_REQUESTS_k13_1 : Option Addr} {nw_REQUESTS_k13_1 : Nat} {sw_REQUESTS_k13_1 : Array (Option Value)}
    {a_REQUESTS_k13_1_1 : Addr}
    {tk_REQUESTS_k13_1_1_0 tk_REQUESTS_k13_1_1_1 tk_REQUESTS_k13_1_1_2 tk_REQUESTS_k13_1_1_3 tk_REQUESTS_k13_1_1_4 tk_REQUESTS_k13_1_1_5 tk_REQUESTS_k13_1_1_6 tk_REQUESTS_k13_1_1_7 tk_REQUESTS_k13_1_1_8 tk_REQUESTS_k13_1_1_9 tk_REQUESTS_k13_1_1_10 tk_REQUESTS_k13_1_1_11 tk_REQUESTS_k13_1_1_12 : Tok}
    {ow_REQUESTS_k13_1_1 : Option Addr} {nw_REQUESTS_k13_1_1 : Nat} {sw_REQUESTS_k13_1_1 : Array (Option Value)}
    {a_REQUESTS_k14 : Addr}
    {ow_REQUESTS_k14 : Option Addr} {nw_REQUESTS_k14 : Nat} {sw_REQUESTS_k14 : Array (Option Value)}
    {a_REQUESTS_k14_0 : Addr}
    {tk_REQUESTS_k14_0_0 : Tok}
    {ow_REQUESTS_k14_0 : Option Addr} {nw_REQUESTS_k14_0 : Nat} {sw_REQUESTS_k14_0 : Array (Option Value)}
    {a_REQUESTS_k14_0_1 : Addr}
    {tk_REQUESTS_k14_0_1_0 : Tok}
    {ow_REQUESTS_k14_0_1 : Option Addr} {nw_REQUESTS_k14_0_1 : Nat} {sw_REQUESTS_k14_0_1 : Array (Option Value)}
    {a_REQUESTS_k14_1 : Addr}
    {tk_REQUESTS_k14_1_0 : Tok}
    {ow_REQUESTS_k14_1 : Option Addr} {nw_REQUESTS_k14_1 : Nat} {sw_REQUESTS_k14_1 : Array (Option Value)}
    {a_REQUESTS_k14_1_1 : Addr}
    {tk_REQUESTS_k14_1_1_0 : Tok}
    {ow_REQUESTS_k14_1_1 : Option Addr} {nw_REQUESTS_k14_1_1 : Nat} {sw_REQUESTS_k14_1_1 : Array (Option Value)}
    {a_REQUESTS_k15 : Addr}
    {ow_REQUESTS_k15 : Option Addr} {nw_REQUESTS_k15 : Nat} {sw_REQUESTS_k15 : Array (Option Value)}
    {a_REQUESTS_k15_0 : Addr}
    {tk_REQUESTS_k15_0_0 : Tok}
    {ow_REQUESTS_k15_0 : Option Addr} {nw_REQUESTS_k15_0 : Nat} {sw_REQUESTS_k15_0 : Array (Option Value)}
    {a_REQUESTS_k15_0_1 : Addr}
    {ow_REQUESTS_k15_0_1 : Option Addr} {nw_REQUESTS_k15_0_1 : Nat} {sw_REQUESTS_k15_0_1 : Array (Option Value)}
    {a_REQUESTS_k15_1 : Addr}
    {tk_REQUESTS_k15_1_0 : Tok}
    {ow_REQUESTS_k15_1 : Option Addr} {nw_REQUESTS_k15_1 : Nat} {sw_REQUESTS_k15_1 : Array (Option Value)}
    {a_REQUESTS_k15_1_1 : Addr}
    {tk_REQUESTS_k15_1_1_0 : Tok}
    {ow_REQUESTS_k15_1_1 : Option Addr} {nw_REQUESTS_k15_1_1 : Nat} {sw_REQUESTS_k15_1_1 : Array (Option Value)}
    {a_REQUESTS_k16 : Addr}
    {ow_REQUESTS_k16 : Option Addr} {nw_REQUESTS_k16 : Nat} {sw_REQUESTS_k16 : Array (Option Value)}
    {a_REQUESTS_k16_0 : Addr}
    {tk_REQUESTS_k16_0_0 : Tok}
    {ow_REQUESTS_k16_0 : Option Addr} {nw_REQUESTS_k16_0 : Nat} {sw_REQUESTS_k16_0 : Array (Option Value)}
    {a_REQUESTS_k16_0_1 : Addr}
    {ow_REQUESTS_k16_0_1 : Option Addr} {nw_REQUESTS_k16_0_1 : Nat} {sw_REQUESTS_k16_0_1 : Array (Option Value)}
    {a_REQUESTS_k17 : Addr}
    {ow_REQUESTS_k17 : Option Addr} {nw_REQUESTS_k17 : Nat} {sw_REQUESTS_k17 : Array (Option Value)}
    {a_REQUESTS_k17_0 : Addr}
    {tk_REQUESTS_k17_0_0 : Tok}
    {ow_REQUESTS_k17_0 : Option Addr} {nw_REQUESTS_k17_0 : Nat} {sw_REQUESTS_k17_0 : Array (Option Value)}
    {a_REQUESTS_k17_0_1 : Addr}
    {tk_REQUESTS_k17_0_1_0 : Tok}
    {ow_REQUESTS_k17_0_1 : Option Addr} {nw_REQUESTS_k17_0_1 : Nat} {sw_REQUESTS_k17_0_1 : Array (Option Value)}
    {a_REQUESTS_k17_1 : Addr}
    {tk_REQUESTS_k17_1_0 : Tok}
    {ow_REQUESTS_k17_1 : Option Addr} {nw_REQUESTS_k17_1 : Nat} {sw_REQUESTS_k17_1 : Array (Option Value)}
    {a_REQUESTS_k17_1_1 : Addr}
    {tk_REQUESTS_k17_1_1_0 tk_REQUESTS_k17_1_1_1 tk_REQUESTS_k17_1_1_2 : Tok}
    {ow_REQUESTS_k17_1_1 : Option Addr} {nw_REQUESTS_k17_1_1 : Nat} {sw_REQUESTS_k17_1_1 : Array (Option Value)}
    {a_REQUESTS_k17_2 : Addr}
    {tk_REQUESTS_k17_2_0 : Tok}
    {ow_REQUESTS_k17_2 : Option Addr} {nw_REQUESTS_k17_2 : Nat} {sw_REQUESTS_k17_2 : Array (Option Value)}
    {a_REQUESTS_k17_2_1 : Addr}
    {tk_REQUESTS_k17_2_1_0 tk_REQUESTS_k17_2_1_1 : Tok}
    {ow_REQUESTS_k17_2_1 : Option Addr} {nw_REQUESTS_k17_2_1 : Nat} {sw_REQUESTS_k17_2_1 : Array (Option Value)}
    {a_REQUESTS_k17_3 : Addr}
    {tk_REQUESTS_k17_3_0 : Tok}
    {ow_REQUESTS_k17_3 : Option Addr} {nw_REQUESTS_k17_3 : Nat} {sw_REQUESTS_k17_3 : Array (Option Value)}
    {a_REQUESTS_k17_3_1 : Addr}
    {tk_REQUESTS_k17_3_1_0 tk_REQUESTS_k17_3_1_1 : Tok}
    {ow_REQUESTS_k17_3_1 : Option Addr} {nw_REQUESTS_k17_3_1 : Nat} {sw_REQUESTS_k17_3_1 : Array (Option Value)}
    {a_REQUESTS_k17_4 : Addr}
    {tk_REQUESTS_k17_4_0 : Tok}
    {ow_REQUESTS_k17_4 : Option Addr} {nw_REQUESTS_k17_4 : Nat} {sw_REQUESTS_k17_4 : Array (Option Value)}
    {a_REQUESTS_k17_4_1 : Addr}
    {tk_REQUESTS_k17_4_1_0 : Tok}
    {ow_REQUESTS_k17_4_1 : Option Addr} {nw_REQUESTS_k17_4_1 : Nat} {sw_REQUESTS_k17_4_1 : Array (Option Value)}
    {a_REQUESTS_k17_5 : Addr}
    {tk_REQUESTS_k17_5_0 : Tok}
    {ow_REQUESTS_k17_5 : Option Addr} {nw_REQUESTS_k17_5 : Nat} {sw_REQUESTS_k17_5 : Array (Option Value)}
    {a_REQUESTS_k17_5_1 : Addr}
    {tk_REQUESTS_k17_5_1_0 tk_REQUESTS_k17_5_1_1 tk_REQUESTS_k17_5_1_2 tk_REQUESTS_k17_5_1_3 tk_REQUESTS_k17_5_1_4 tk_REQUESTS_k17_5_1_5 : Tok}
    {ow_REQUESTS_k17_5_1 : Option Addr} {nw_REQUESTS_k17_5_1 : Nat} {sw_REQUESTS_k17_5_1 : Array (Option Value)}
    {a_REQUESTS_k17_6 : Addr}
    {tk_REQUESTS_k17_6_0 : Tok}
    {ow_REQUESTS_k17_6 : Option Addr} {nw_REQUESTS_k17_6 : Nat} {sw_REQUESTS_k17_6 : Array (Option Value)}
    {a_REQUESTS_k17_6_1 : Addr}
    {tk_REQUESTS_k17_6_1_0 tk_REQUESTS_k17_6_1_1 : Tok}
    {ow_REQUESTS_k17_6_1 : Option Addr} {nw_REQUESTS_k17_6_1 : Nat} {sw_REQUESTS_k17_6_1 : Array (Option Value)}
    {a_REQUESTS_k17_7 : Addr}
    {tk_REQUESTS_k17_7_0 : Tok}
    {ow_REQUESTS_k17_7 : Option Addr} {nw_REQUESTS_k17_7 : Nat} {sw_REQUESTS_k17_7 : Array (Option Value)}
    {a_REQUESTS_k17_7_1 : Addr}
    {tk_REQUESTS_k17_7_1_0 tk_REQUESTS_k17_7_1_1 : Tok}
    {ow_REQUESTS_k17_7_1 : Option Addr} {nw_REQUESTS_k17_7_1 : Nat} {sw_REQUESTS_k17_7_1 : Array (Option Value)}
    {a_REQUESTS_k17_8 : Addr}
    {tk_REQUESTS_k17_8_0 : Tok}
    {ow_REQUESTS_k17_8 : Option Addr} {nw_REQUESTS_k17_8 : Nat} {sw_REQUESTS_k17_8 : Array (Option Value)}
    {a_REQUESTS_k17_8_1 : Addr}
    {ow_REQUESTS_k17_8_1 : Option Addr} {nw_REQUESTS_k17_8_1 : Nat} {sw_REQUESTS_k17_8_1 : Array (Option Value)}
    {a_REQUESTS_k18 : Addr}
    {ow_REQUESTS_k18 : Option Addr} {nw_REQUESTS_k18 : Nat} {sw_REQUESTS_k18 : Array (Option Value)}
    {a_REQUESTS_k18_0 : Addr}
    {tk_REQUESTS_k18_0_0 : Tok}
    {ow_REQUESTS_k18_0 : Option Addr} {nw_REQUESTS_k18_0 : Nat} {sw_REQUESTS_k18_0 : Array (Option Value)}
    {a_REQUESTS_k18_0_1 : Addr}
    {tk_REQUESTS_k18_0_1_0 tk_REQUESTS_k18_0_1_1 : Tok}
    {ow_REQUESTS_k18_0_1 : Option Addr} {nw_REQUESTS_k18_0_1 : Nat} {sw_REQUESTS_k18_0_1 : Array (Option Value)}
    {a_REQUESTS_k18_1 : Addr}
    {tk_REQUESTS_k18_1_0 : Tok}
    {ow_REQUESTS_k18_1 : Option Addr} {nw_REQUESTS_k18_1 : Nat} {sw_REQUESTS_k18_1 : Array (Option Value)}
    {a_REQUESTS_k18_1_1 : Addr}
    {ow_REQUESTS_k18_1_1 : Option Addr} {nw_REQUESTS_k18_1_1 : Nat} {sw_REQUESTS_k18_1_1 : Array (Option Value)}
    {a_REQUESTS_k19 : Addr}
    {ow_REQUESTS_k19 : Option Addr} {nw_REQUESTS_k19 : Nat} {sw_REQUESTS_k19 : Array (Option Value)}
    {a_REQUESTS_k19_0 : Addr}
    {tk_REQUESTS_k19_0_0 : Tok}
    {ow_REQUESTS_k19_0 : Option Addr} {nw_REQUESTS_k19_0 : Nat} {sw_REQUESTS_k19_0 : Array (Option Value)}
    {a_REQUESTS_k19_0_1 : Addr}
    {tk_REQUESTS_k19_0_1_0 tk_REQUESTS_k19_0_1_1 tk_REQUESTS_k19_0_1_2 : Tok}
    {ow_REQUESTS_k19_0_1 : Option Addr} {nw_REQUESTS_k19_0_1 : Nat} {sw_REQUESTS_k19_0_1 : Array (Option Value)}
    {a_REQUESTS_k19_1 : Addr}
    {tk_REQUESTS_k19_1_0 : Tok}
    {ow_REQUESTS_k19_1 : Option Addr} {nw_REQUESTS_k19_1 : Nat} {sw_REQUESTS_k19_1 : Array (Option Value)}
    {a_REQUESTS_k19_1_1 : Addr}
    {ow_REQUESTS_k19_1_1 : Option Addr} {nw_REQUESTS_k19_1_1 : Nat} {sw_REQUESTS_k19_1_1 : Array (Option Value)}
    {a_REQUESTS_k20 : Addr}
    {ow_REQUESTS_k20 : Option Addr} {nw_REQUESTS_k20 : Nat} {sw_REQUESTS_k20 : Array (Option Value)}
    {a_REQUESTS_k20_0 : Addr}
    {tk_REQUESTS_k20_0_0 : Tok}
    {ow_REQUESTS_k20_0 : Option Addr} {nw_REQUESTS_k20_0 : Nat} {sw_REQUESTS_k20_0 : Array (Option Value)}
    {a_REQUESTS_k20_0_1 : Addr}
    {tk_REQUESTS_k20_0_1_0 tk_REQUESTS_k20_0_1_1 : Tok}
    {ow_REQUESTS_k20_0_1 : Option Addr} {nw_REQUESTS_k20_0_1 : Nat} {sw_REQUESTS_k20_0_1 : Array (Option Value)}
    {a_REQUESTS_k20_1 : Addr}
    {tk_REQUESTS_k20_1_0 : Tok}
    {ow_REQUESTS_k20_1 : Option Addr} {nw_REQUESTS_k20_1 : Nat} {sw_REQUESTS_k20_1 : Array (Option Value)}
    {a_REQUESTS_k20_1_1 : Addr}
    {ow_REQUESTS_k20_1_1 : Option Addr} {nw_REQUESTS_k20_1_1 : Nat} {sw_REQUESTS_k20_1_1 : Array (Option Value)}
    {a_REQUESTS_k21 : Addr}
    {ow_REQUESTS_k21 : Option Addr} {nw_REQUESTS_k21 : Nat} {sw_REQUESTS_k21 : Array (Option Value)}
    {a_REQUESTS_k21_0 : Addr}
    {tk_REQUESTS_k21_0_0 : Tok}
    {ow_REQUESTS_k21_0 : Option Addr} {nw_REQUESTS_k21_0 : Nat} {sw_REQUESTS_k21_0 : Array (Option Value)}
    {a_REQUESTS_k21_0_1 : Addr}
    {tk_REQUESTS_k21_0_1_0 tk_REQUESTS_k21_0_1_1 : Tok}
    {ow_REQUESTS_k21_0_1 : Option Addr} {nw_REQUESTS_k21_0_1 : Nat} {sw_REQUESTS_k21_0_1 : Array (Option Value)}
    {a_REQUESTS_k21_1 : Addr}
    {tk_REQUESTS_k21_1_0 : Tok}
    {ow_REQUESTS_k21_1 : Option Addr} {nw_REQUESTS_k21_1 : Nat} {sw_REQUESTS_k21_1 : Array (Option Value)}
    {a_REQUESTS_k21_1_1 : Addr}
    {ow_REQUESTS_k21_1_1 : Option Addr} {nw_REQUESTS_k21_1_1 : Nat} {sw_REQUESTS_k21_1_1 : Array (Option Value)}
    {a_REQUESTS_k22 : Addr}
    {ow_REQUESTS_k22 : Option Addr} {nw_REQUESTS_k22 : Nat} {sw_REQUESTS_k22 : Array (Option Value)}
    {a_REQUESTS_k22_0 : Addr}
    {tk_REQUESTS_k22_0_0 : Tok}
    {ow_REQUESTS_k22_0 : Option Addr} {nw_REQUESTS_k22_0 : Nat} {sw_REQUESTS_k22_0 : Array (Option Value)}
    {a_REQUESTS_k22_0_1 : Addr}
    {ow_REQUESTS_k22_0_1 : Option Addr} {nw_REQUESTS_k22_0_1 : Nat} {sw_REQUESTS_k22_0_1 : Array (Option Value)}
    {a_EVENTS : Addr}
    {es_EVENTS : Array DictEntry} {nn_EVENTS : Nat}
    {tk_EVENTS0 tk_EVENTS1 tk_EVENTS2 tk_EVENTS3 tk_EVENTS4 tk_EVENTS5 tk_EVENTS6 tk_EVENTS7 tk_EVENTS8 tk_EVENTS9 tk_EVENTS10 tk_EVENTS11 tk_EVENTS12 tk_EVENTS13 : Tok}
    {a_EVENTS_k0 : Addr}
    {ow_EVENTS_k0 : Option Addr} {nw_EVENTS_k0 : Nat} {sw_EVENTS_k0 : Array (Option Value)}
    {a_EVENTS_k0_0 : Addr}
    {tk_EVENTS_k0_0_0 : Tok}
    {ow_EVENTS_k0_0 : Option Addr} {nw_EVENTS_k0_0 : Nat} {sw_EVENTS_k0_0 : Array (Option Value)}
    {a_EVENTS_k0_0_1 : Addr}
    {tk_EVENTS_k0_0_1_0 tk_EVENTS_k0_0_1_1 tk_EVENTS_k0_0_1_2 : Tok}
    {ow_EVENTS_k0_0_1 : Option Addr} {nw_EVENTS_k0_0_1 : Nat} {sw_EVENTS_k0_0_1 : Array (Option Value)}
    {a_EVENTS_k0_1 : Addr}
    {tk_EVENTS_k0_1_0 : Tok}
    {ow_EVENTS_k0_1 : Option Addr} {nw_EVENTS_k0_1 : Nat} {sw_EVENTS_k0_1 : Array (Option Value)}
    {a_EVENTS_k0_1_1 : Addr}
    {tk_EVENTS_k0_1_1_0 : Tok}
    {ow_EVENTS_k0_1_1 : Option Addr} {nw_EVENTS_k0_1_1 : Nat} {sw_EVENTS_k0_1_1 : Array (Option Value)}
    {a_EVENTS_k1 : Addr}
    {ow_EVENTS_k1 : Option Addr} {nw_EVENTS_k1 : Nat} {sw_EVENTS_k1 : Array (Option Value)}
    {a_EVENTS_k1_0 : Addr}
    {tk_EVENTS_k1_0_0 : Tok}
    {ow_EVENTS_k1_0 : Option Addr} {nw_EVENTS_k1_0 : Nat} {sw_EVENTS_k1_0 : Array (Option Value)}
    {a_EVENTS_k1_0_1 : Addr}
    {tk_EVENTS_k1_0_1_0 : Tok}
    {ow_EVENTS_k1_0_1 : Option Addr} {nw_EVENTS_k1_0_1 : Nat} {sw_EVENTS_k1_0_1 : Array (Option Value)}
    {a_EVENTS_k2 : Addr}
    {ow_EVENTS_k2 : Option Addr} {nw_EVENTS_k2 : Nat} {sw_EVENTS_k2 : Array (Option Value)}
    {a_EVENTS_k2_0 : Addr}
    {tk_EVENTS_k2_0_0 : Tok}
    {ow_EVENTS_k2_0 : Option Addr} {nw_EVENTS_k2_0 : Nat} {sw_EVENTS_k2_0 : Array (Option Value)}
    {a_EVENTS_k2_0_1 : Addr}
    {tk_EVENTS_k2_0_1_0 tk_EVENTS_k2_0_1_1 : Tok}
    {ow_EVENTS_k2_0_1 : Option Addr} {nw_EVENTS_k2_0_1 : Nat} {sw_EVENTS_k2_0_1 : Array (Option Value)}
    {a_EVENTS_k2_1 : Addr}
    {tk_EVENTS_k2_1_0 : Tok}
    {ow_EVENTS_k2_1 : Option Addr} {nw_EVENTS_k2_1 : Nat} {sw_EVENTS_k2_1 : Array (Option Value)}
    {a_EVENTS_k2_1_1 : Addr}
    {tk_EVENTS_k2_1_1_0 : Tok}
    {ow_EVENTS_k2_1_1 : Option Addr} {nw_EVENTS_k2_1_1 : Nat} {sw_EVENTS_k2_1_1 : Array (Option Value)}
    {a_EVENTS_k3 : Addr}
    {ow_EVENTS_k3 : Option Addr} {nw_EVENTS_k3 : Nat} {sw_EVENTS_k3 : Array (Option Value)}
    {a_EVENTS_k3_0 : Addr}
    {tk_EVENTS_k3_0_0 : Tok}
    {ow_EVENTS_k3_0 : Option Addr} {nw_EVENTS_k3_0 : Nat} {sw_EVENTS_k3_0 : Array (Option Value)}
    {a_EVENTS_k3_0_1 : Addr}
    {ow_EVENTS_k3_0_1 : Option Addr} {nw_EVENTS_k3_0_1 : Nat} {sw_EVENTS_k3_0_1 : Array (Option Value)}
    {a_EVENTS_k4 : Addr}
    {ow_EVENTS_k4 : Option Addr} {nw_EVENTS_k4 : Nat} {sw_EVENTS_k4 : Array (Option Value)}
    {a_EVENTS_k4_0 : Addr}
    {tk_EVENTS_k4_0_0 : Tok}
    {ow_EVENTS_k4_0 : Option Addr} {nw_EVENTS_k4_0 : Nat} {sw_EVENTS_k4_0 : Array (Option Value)}
    {a_EVENTS_k4_0_1 : Addr}
    {tk_EVENTS_k4_0_1_0 tk_EVENTS_k4_0_1_1 tk_EVENTS_k4_0_1_2 tk_EVENTS_k4_0_1_3 : Tok}
    {ow_EVENTS_k4_0_1 : Option Addr} {nw_EVENTS_k4_0_1 : Nat} {sw_EVENTS_k4_0_1 : Array (Option Value)}
    {a_EVENTS_k5 : Addr}
    {ow_EVENTS_k5 : Option Addr} {nw_EVENTS_k5 : Nat} {sw_EVENTS_k5 : Array (Option Value)}
    {a_EVENTS_k5_0 : Addr}
    {tk_EVENTS_k5_0_0 : Tok}
    {ow_EVENTS_k5_0 : Option Addr} {nw_EVENTS_k5_0 : Nat} {sw_EVENTS_k5_0 : Array (Option Value)}
    {a_EVENTS_k5_0_1 : Addr}
    {tk_EVENTS_k5_0_1_0 tk_EVENTS_k5_0_1_1 tk_EVENTS_k5_0_1_2 tk_EVENTS_k5_0_1_3 : Tok}
    {ow_EVENTS_k5_0_1 : Option Addr} {nw_EVENTS_k5_0_1 : Nat} {sw_EVENTS_k5_0_1 : Array (Option Value)}
    {a_EVENTS_k5_1 : Addr}
    {tk_EVENTS_k5_1_0 : Tok}
    {ow_EVENTS_k5_1 : Option Addr} {nw_EVENTS_k5_1 : Nat} {sw_EVENTS_k5_1 : Array (Option Value)}
    {a_EVENTS_k5_1_1 : Addr}
    {ow_EVENTS_k5_1_1 : Option Addr} {nw_EVENTS_k5_1_1 : Nat} {sw_EVENTS_k5_1_1 : Array (Option Value)}
    {a_EVENTS_k5_2 : Addr}
    {tk_EVENTS_k5_2_0 : Tok}
    {ow_EVENTS_k5_2 : Option Addr} {nw_EVENTS_k5_2 : Nat} {sw_EVENTS_k5_2 : Array (Option Value)}
    {a_EVENTS_k5_2_1 : Addr}
    {tk_EVENTS_k5_2_1_0 : Tok}
    {ow_EVENTS_k5_2_1 : Option Addr} {nw_EVENTS_k5_2_1 : Nat} {sw_EVENTS_k5_2_1 : Array (Option Value)}
    {a_EVENTS_k5_3 : Addr}
    {tk_EVENTS_k5_3_0 : Tok}
    {ow_EVENTS_k5_3 : Option Addr} {nw_EVENTS_k5_3 : Nat} {sw_EVENTS_k5_3 : Array (Option Value)}
    {a_EVENTS_k5_3_1 : Addr}
    {tk_EVENTS_k5_3_1_0 : Tok}
    {ow_EVENTS_k5_3_1 : Option Addr} {nw_EVENTS_k5_3_1 : Nat} {sw_EVENTS_k5_3_1 : Array (Option Value)}
    {a_EVENTS_k6 : Addr}
    {ow_EVENTS_k6 : Option Addr} {nw_EVENTS_k6 : Nat} {sw_EVENTS_k6 : Array (Option Value)}
    {a_EVENTS_k6_0 : Addr}
    {tk_EVENTS_k6_0_0 : Tok}
    {ow_EVENTS_k6_0 : Option Addr} {nw_EVENTS_k6_0 : Nat} {sw_EVENTS_k6_0 : Array (Option Value)}
    {a_EVENTS_k6_0_1 : Addr}
    {tk_EVENTS_k6_0_1_0 tk_EVENTS_k6_0_1_1 tk_EVENTS_k6_0_1_2 tk_EVENTS_k6_0_1_3 : Tok}
    {ow_EVENTS_k6_0_1 : Option Addr} {nw_EVENTS_k6_0_1 : Nat} {sw_EVENTS_k6_0_1 : Array (Option Value)}
    {a_EVENTS_k6_1 : Addr}
    {tk_EVENTS_k6_1_0 : Tok}
    {ow_EVENTS_k6_1 : Option Addr} {nw_EVENTS_k6_1 : Nat} {sw_EVENTS_k6_1 : Array (Option Value)}
    {a_EVENTS_k6_1_1 : Addr}
    {ow_EVENTS_k6_1_1 : Option Addr} {nw_EVENTS_k6_1_1 : Nat} {sw_EVENTS_k6_1_1 : Array (Option Value)}
    {a_EVENTS_k7 : Addr}
    {ow_EVENTS_k7 : Option Addr} {nw_EVENTS_k7 : Nat} {sw_EVENTS_k7 : Array (Option Value)}
    {a_EVENTS_k7_0 : Addr}
    {tk_EVENTS_k7_0_0 : Tok}
    {ow_EVENTS_k7_0 : Option Addr} {nw_EVENTS_k7_0 : Nat} {sw_EVENTS_k7_0 : Array (Option Value)}
    {a_EVENTS_k7_0_1 : Addr}
    {tk_EVENTS_k7_0_1_0 tk_EVENTS_k7_0_1_1 tk_EVENTS_k7_0_1_2 : Tok}
    {ow_EVENTS_k7_0_1 : Option Addr} {nw_EVENTS_k7_0_1 : Nat} {sw_EVENTS_k7_0_1 : Array (Option Value)}
    {a_EVENTS_k7_1 : Addr}
    {tk_EVENTS_k7_1_0 : Tok}
    {ow_EVENTS_k7_1 : Option Addr} {nw_EVENTS_k7_1 : Nat} {sw_EVENTS_k7_1 : Array (Option Value)}
    {a_EVENTS_k7_1_1 : Addr}
    {tk_EVENTS_k7_1_1_0 : Tok}
    {ow_EVENTS_k7_1_1 : Option Addr} {nw_EVENTS_k7_1_1 : Nat} {sw_EVENTS_k7_1_1 : Array (Option Value)}
    {a_EVENTS_k7_2 : Addr}
    {tk_EVENTS_k7_2_0 : Tok}
    {ow_EVENTS_k7_2 : Option Addr} {nw_EVENTS_k7_2 : Nat} {sw_EVENTS_k7_2 : Array (Option Value)}
    {a_EVENTS_k7_2_1 : Addr}
    {tk_EVENTS_k7_2_1_0 tk_EVENTS_k7_2_1_1 tk_EVENTS_k7_2_1_2 : Tok}
    {ow_EVENTS_k7_2_1 : Option Addr} {nw_EVENTS_k7_2_1 : Nat} {sw_EVENTS_k7_2_1 : Array (Option Value)}
    {a_EVENTS_k7_3 : Addr}
    {tk_EVENTS_k7_3_0 : Tok}
    {ow_EVENTS_k7_3 : Option Addr} {nw_EVENTS_k7_3 : Nat} {sw_EVENTS_k7_3 : Array (Option Value)}
    {a_EVENTS_k7_3_1 : Addr}
    {tk_EVENTS_k7_3_1_0 tk_EVENTS_k7_3_1_1 tk_EVENTS_k7_3_1_2 tk_EVENTS_k7_3_1_3 : Tok}
    {ow_EVENTS_k7_3_1 : Option Addr} {nw_EVENTS_k7_3_1 : Nat} {sw_EVENTS_k7_3_1 : Array (Option Value)}
    {a_EVENTS_k7_4 : Addr}
    {tk_EVENTS_k7_4_0 : Tok}
    {ow_EVENTS_k7_4 : Option Addr} {nw_EVENTS_k7_4 : Nat} {sw_EVENTS_k7_4 : Array (Option Value)}
    {a_EVENTS_k7_4_1 : Addr}
    {tk_EVENTS_k7_4_1_0 tk_EVENTS_k7_4_1_1 tk_EVENTS_k7_4_1_2 : Tok}
    {ow_EVENTS_k7_4_1 : Option Addr} {nw_EVENTS_k7_4_1 : Nat} {sw_EVENTS_k7_4_1 : Array (Option Value)}
    {a_EVENTS_k8 : Addr}
    {ow_EVENTS_k8 : Option Addr} {nw_EVENTS_k8 : Nat} {sw_EVENTS_k8 : Array (Option Value)}
    {a_EVENTS_k8_0 : Addr}
    {tk_EVENTS_k8_0_0 : Tok}
    {ow_EVENTS_k8_0 : Option Addr} {nw_EVENTS_k8_0 : Nat} {sw_EVENTS_k8_0 : Array (Option Value)}
    {a_EVENTS_k8_0_1 : Addr}
    {tk_EVENTS_k8_0_1_0 : Tok}
    {ow_EVENTS_k8_0_1 : Option Addr} {nw_EVENTS_k8_0_1 : Nat} {sw_EVENTS_k8_0_1 : Array (Option Value)}
    {a_EVENTS_k8_1 : Addr}
    {tk_EVENTS_k8_1_0 : Tok}
    {ow_EVENTS_k8_1 : Option Addr} {nw_EVENTS_k8_1 : Nat} {sw_EVENTS_k8_1 : Array (Option Value)}
    {a_EVENTS_k8_1_1 : Addr}
    {tk_EVENTS_k8_1_1_0 : Tok}
    {ow_EVENTS_k8_1_1 : Option Addr} {nw_EVENTS_k8_1_1 : Nat} {sw_EVENTS_k8_1_1 : Array (Option Value)}
    {a_EVENTS_k8_2 : Addr}
    {tk_EVENTS_k8_2_0 : Tok}
    {ow_EVENTS_k8_2 : Option Addr} {nw_EVENTS_k8_2 : Nat} {sw_EVENTS_k8_2 : Array (Option Value)}
    {a_EVENTS_k8_2_1 : Addr}
    {tk_EVENTS_k8_2_1_0 : Tok}
    {ow_EVENTS_k8_2_1 : Option Addr} {nw_EVENTS_k8_2_1 : Nat} {sw_EVENTS_k8_2_1 : Array (Option Value)}
    {a_EVENTS_k8_3 : Addr}
    {tk_EVENTS_k8_3_0 : Tok}
    {ow_EVENTS_k8_3 : Option Addr} {nw_EVENTS_k8_3 : Nat} {sw_EVENTS_k8_3 : Array (Option Value)}
    {a_EVENTS_k8_3_1 : Addr}
    {tk_EVENTS_k8_3_1_0 tk_EVENTS_k8_3_1_1 tk_EVENTS_k8_3_1_2 tk_EVENTS_k8_3_1_3 : Tok}
    {ow_EVENTS_k8_3_1 : Option Addr} {nw_EVENTS_k8_3_1 : Nat} {sw_EVENTS_k8_3_1 : Array (Option Value)}
    {a_EVENTS_k8_4 : Addr}
    {tk_EVENTS_k8_4_0 : Tok}
    {ow_EVENTS_k8_4 : Option Addr} {nw_EVENTS_k8_4 : Nat} {sw_EVENTS_k8_4 : Array (Option Value)}
    {a_EVENTS_k8_4_1 : Addr}
    {tk_EVENTS_k8_4_1_0 tk_EVENTS_k8_4_1_1 tk_EVENTS_k8_4_1_2 : Tok}
    {ow_EVENTS_k8_4_1 : Option Addr} {nw_EVENTS_k8_4_1 : Nat} {sw_EVENTS_k8_4_1 : Array (Option Value)}
    {a_EVENTS_k9 : Addr}
    {ow_EVENTS_k9 : Option Addr} {nw_EVENTS_k9 : Nat} {sw_EVENTS_k9 : Array (Option Value)}
    {a_EVENTS_k9_0 : Addr}
    {tk_EVENTS_k9_0_0 : Tok}
    {ow_EVENTS_k9_0 : Option Addr} {nw_EVENTS_k9_0 : Nat} {sw_EVENTS_k9_0 : Array (Option Value)}
    {a_EVENTS_k9_0_1 : Addr}
    {tk_EVENTS_k9_0_1_0 tk_EVENTS_k9_0_1_1 : Tok}
    {ow_EVENTS_k9_0_1 : Option Addr} {nw_EVENTS_k9_0_1 : Nat} {sw_EVENTS_k9_0_1 : Array (Option Value)}
    {a_EVENTS_k9_1 : Addr}
    {tk_EVENTS_k9_1_0 : Tok}
    {ow_EVENTS_k9_1 : Option Addr} {nw_EVENTS_k9_1 : Nat} {sw_EVENTS_k9_1 : Array (Option Value)}
    {a_EVENTS_k9_1_1 : Addr}
    {tk_EVENTS_k9_1_1_0 tk_EVENTS_k9_1_1_1 tk_EVENTS_k9_1_1_2 : Tok}
    {ow_EVENTS_k9_1_1 : Option Addr} {nw_EVENTS_k9_1_1 : Nat} {sw_EVENTS_k9_1_1 : Array (Option Value)}
    {a_EVENTS_k9_2 : Addr}
    {tk_EVENTS_k9_2_0 : Tok}
    {ow_EVENTS_k9_2 : Option Addr} {nw_EVENTS_k9_2 : Nat} {sw_EVENTS_k9_2 : Array (Option Value)}
    {a_EVENTS_k9_2_1 : Addr}
    {tk_EVENTS_k9_2_1_0 : Tok}
    {ow_EVENTS_k9_2_1 : Option Addr} {nw_EVENTS_k9_2_1 : Nat} {sw_EVENTS_k9_2_1 : Array (Option Value)}
    {a_EVENTS_k9_3 : Addr}
    {tk_EVENTS_k9_3_0 : Tok}
    {ow_EVENTS_k9_3 : Option Addr} {nw_EVENTS_k9_3 : Nat} {sw_EVENTS_k9_3 : Array (Option Value)}
    {a_EVENTS_k9_3_1 : Addr}
    {tk_EVENTS_k9_3_1_0 tk_EVENTS_k9_3_1_1 tk_EVENTS_k9_3_1_2 : Tok}
    {ow_EVENTS_k9_3_1 : Option Addr} {nw_EVENTS_k9_3_1 : Nat} {sw_EVENTS_k9_3_1 : Array (Option Value)}
    {a_EVENTS_k9_4 : Addr}
    {tk_EVENTS_k9_4_0 : Tok}
    {ow_EVENTS_k9_4 : Option Addr} {nw_EVENTS_k9_4 : Nat} {sw_EVENTS_k9_4 : Array (Option Value)}
    {a_EVENTS_k9_4_1 : Addr}
    {ow_EVENTS_k9_4_1 : Option Addr} {nw_EVENTS_k9_4_1 : Nat} {sw_EVENTS_k9_4_1 : Array (Option Value)}
    {a_EVENTS_k9_5 : Addr}
    {tk_EVENTS_k9_5_0 : Tok}
    {ow_EVENTS_k9_5 : Option Addr} {nw_EVENTS_k9_5 : Nat} {sw_EVENTS_k9_5 : Array (Option Value)}
    {a_EVENTS_k9_5_1 : Addr}
    {ow_EVENTS_k9_5_1 : Option Addr} {nw_EVENTS_k9_5_1 : Nat} {sw_EVENTS_k9_5_1 : Array (Option Value)}
    {a_EVENTS_k10 : Addr}
    {ow_EVENTS_k10 : Option Addr} {nw_EVENTS_k10 : Nat} {sw_EVENTS_k10 : Array (Option Value)}
    {a_EVENTS_k10_0 : Addr}
    {tk_EVENTS_k10_0_0 : Tok}
    {ow_EVENTS_k10_0 : Option Addr} {nw_EVENTS_k10_0 : Nat} {sw_EVENTS_k10_0 : Array (Option Value)}
    {a_EVENTS_k10_0_1 : Addr}
    {tk_EVENTS_k10_0_1_0 tk_EVENTS_k10_0_1_1 : Tok}
    {ow_EVENTS_k10_0_1 : Option Addr} {nw_EVENTS_k10_0_1 : Nat} {sw_EVENTS_k10_0_1 : Array (Option Value)}
    {a_EVENTS_k10_1 : Addr}
    {tk_EVENTS_k10_1_0 : Tok}
    {ow_EVENTS_k10_1 : Option Addr} {nw_EVENTS_k10_1 : Nat} {sw_EVENTS_k10_1 : Array (Option Value)}
    {a_EVENTS_k10_1_1 : Addr}
    {tk_EVENTS_k10_1_1_0 tk_EVENTS_k10_1_1_1 tk_EVENTS_k10_1_1_2 : Tok}
    {ow_EVENTS_k10_1_1 : Option Addr} {nw_EVENTS_k10_1_1 : Nat} {sw_EVENTS_k10_1_1 : Array (Option Value)}
    {a_EVENTS_k11 : Addr}
    {ow_EVENTS_k11 : Option Addr} {nw_EVENTS_k11 : Nat} {sw_EVENTS_k11 : Array (Option Value)}
    {a_EVENTS_k11_0 : Addr}
    {tk_EVENTS_k11_0_0 : Tok}
    {ow_EVENTS_k11_0 : Option Addr} {nw_EVENTS_k11_0 : Nat} {sw_EVENTS_k11_0 : Array (Option Value)}
    {a_EVENTS_k11_0_1 : Addr}
    {tk_EVENTS_k11_0_1_0 tk_EVENTS_k11_0_1_1 : Tok}
    {ow_EVENTS_k11_0_1 : Option Addr} {nw_EVENTS_k11_0_1 : Nat} {sw_EVENTS_k11_0_1 : Array (Option Value)}
    {a_EVENTS_k11_1 : Addr}
    {tk_EVENTS_k11_1_0 : Tok}
    {ow_EVENTS_k11_1 : Option Addr} {nw_EVENTS_k11_1 : Nat} {sw_EVENTS_k11_1 : Array (Option Value)}
    {a_EVENTS_k11_1_1 : Addr}
    {ow_EVENTS_k11_1_1 : Option Addr} {nw_EVENTS_k11_1_1 : Nat} {sw_EVENTS_k11_1_1 : Array (Option Value)}
    {a_EVENTS_k11_2 : Addr}
    {tk_EVENTS_k11_2_0 : Tok}
    {ow_EVENTS_k11_2 : Option Addr} {nw_EVENTS_k11_2 : Nat} {sw_EVENTS_k11_2 : Array (Option Value)}
    {a_EVENTS_k11_2_1 : Addr}
    {tk_EVENTS_k11_2_1_0 tk_EVENTS_k11_2_1_1 : Tok}
    {ow_EVENTS_k11_2_1 : Option Addr} {nw_EVENTS_k11_2_1 : Nat} {sw_EVENTS_k11_2_1 : Array (Option Value)}
    {a_EVENTS_k12 : Addr}
    {ow_EVENTS_k12 : Option Addr} {nw_EVENTS_k12 : Nat} {sw_EVENTS_k12 : Array (Option Value)}
    {a_EVENTS_k12_0 : Addr}
    {tk_EVENTS_k12_0_0 : Tok}
    {ow_EVENTS_k12_0 : Option Addr} {nw_EVENTS_k12_0 : Nat} {sw_EVENTS_k12_0 : Array (Option Value)}
    {a_EVENTS_k12_0_1 : Addr}
    {tk_EVENTS_k12_0_1_0 : Tok}
    {ow_EVENTS_k12_0_1 : Option Addr} {nw_EVENTS_k12_0_1 : Nat} {sw_EVENTS_k12_0_1 : Array (Option Value)}
    {a_EVENTS_k12_1 : Addr}
    {tk_EVENTS_k12_1_0 : Tok}
    {ow_EVENTS_k12_1 : Option Addr} {nw_EVENTS_k12_1 : Nat} {sw_EVENTS_k12_1 : Array (Option Value)}
    {a_EVENTS_k12_1_1 : Addr}
    {ow_EVENTS_k12_1_1 : Option Addr} {nw_EVENTS_k12_1_1 : Nat} {sw_EVENTS_k12_1_1 : Array (Option Value)}
    {a_EVENTS_k12_2 : Addr}
    {tk_EVENTS_k12_2_0 : Tok}
    {ow_EVENTS_k12_2 : Option Addr} {nw_EVENTS_k12_2 : Nat} {sw_EVENTS_k12_2 : Array (Option Value)}
    {a_EVENTS_k12_2_1 : Addr}
    {tk_EVENTS_k12_2_1_0 tk_EVENTS_k12_2_1_1 : Tok}
    {ow_EVENTS_k12_2_1 : Option Addr} {nw_EVENTS_k12_2_1 : Nat} {sw_EVENTS_k12_2_1 : Array (Option Value)}
    {a_EVENTS_k13 : Addr}
    {ow_EVENTS_k13 : Option Addr} {nw_EVENTS_k13 : Nat} {sw_EVENTS_k13 : Array (Option Value)}
    {a_EVENTS_k13_0 : Addr}
    {tk_EVENTS_k13_0_0 : Tok}
    {ow_EVENTS_k13_0 : Option Addr} {nw_EVENTS_k13_0 : Nat} {sw_EVENTS_k13_0 : Array (Option Value)}
    {a_EVENTS_k13_0_1 : Addr}
    {ow_EVENTS_k13_0_1 : Option Addr} {nw_EVENTS_k13_0_1 : Nat} {sw_EVENTS_k13_0_1 : Array (Option Value)}
    {a_EVENTS_k13_1 : Addr}
    {tk_EVENTS_k13_1_0 : Tok}
    {ow_EVENTS_k13_1 : Option Addr} {nw_EVENTS_k13_1 : Nat} {sw_EVENTS_k13_1 : Array (Option Value)}
    {a_EVENTS_k13_1_1 : Addr}
    {ow_EVENTS_k13_1_1 : Option Addr} {nw_EVENTS_k13_1_1 : Nat} {sw_EVENTS_k13_1_1 : Array (Option Value)}
    {CBadMessage : Addr}
    {CMessageTooLong : Addr}
    (a1 : PySem.W.nsIn K mainGlobals "is_integer" = some (some (.ref fis_integer)))
    (l1 : K.lookup fis_integer = some ⟨oc1, od1, .func (PySem.W.fnOf "is_integer" "is_integer" (defArgs s_is_integer) (defBody s_is_integer) (defScope s_is_integer) .none kV1 dc1 pm1 an1 cd1 ct1), sl1⟩) (c1 : PySem.W.codeIn K cd1 "is_integer" = true) (k1 : PySem.W.keepIn K (.ref fis_integer) = true)
    (a2 : PySem.W.nsIn K mainGlobals "is_text" = some (some (.ref fis_text)))
    (l2 : K.lookup fis_text = some ⟨oc2, od2, .func (PySem.W.fnOf "is_text" "is_text" (defArgs s_is_text) (defBody s_is_text) (defScope s_is_text) .none kV2 dc2 pm2 an2 cd2 ct2), sl2⟩) (c2 : PySem.W.codeIn K cd2 "is_text" = true) (k2 : PySem.W.keepIn K (.ref fis_text) = true)
    (a3 : PySem.W.nsIn K mainGlobals "number_octets" = some (some (.ref fnumber_octets)))
    (l3 : K.lookup fnumber_octets = some ⟨oc3, od3, .func (PySem.W.fnOf "number_octets" "number_octets" (defArgs s_number_octets) (defBody s_number_octets) (defScope s_number_octets) .none kV3 dc3 pm3 an3 cd3 ct3), sl3⟩) (c3 : PySem.W.codeIn K cd3 "number_octets" = true) (k3 : PySem.W.keepIn K (.ref fnumber_octets) = true)
    (a4 : PySem.W.nsIn K mainGlobals "field_octets" = some (some (.ref ffield_octets)))
    (l4 : K.lookup ffield_octets = some ⟨oc4, od4, .func (PySem.W.fnOf "field_octets" "field_octets" (defArgs s_field_octets) (defBody s_field_octets) (defScope s_field_octets) .none kV4 dc4 pm4 an4 cd4 ct4), sl4⟩) (c4 : PySem.W.codeIn K cd4 "field_octets" = true) (k4 : PySem.W.keepIn K (.ref ffield_octets) = true)
    (a5 : PySem.W.nsIn K mainGlobals "_is_code" = some (some (.ref f_is_code)))
    (l5 : K.lookup f_is_code = some ⟨oc5, od5, .func (PySem.W.fnOf "_is_code" "_is_code" (defArgs s__is_code) (defBody s__is_code) (defScope s__is_code) .none kV5 dc5 pm5 an5 cd5 ct5), sl5⟩) (c5 : PySem.W.codeIn K cd5 "_is_code" = true) (k5 : PySem.W.keepIn K (.ref f_is_code) = true)
    (a6 : PySem.W.nsIn K mainGlobals "_is_of" = some (some (.ref f_is_of)))
    (l6 : K.lookup f_is_of = some ⟨oc6, od6, .func (PySem.W.fnOf "_is_of" "_is_of" (defArgs s__is_of) (defBody s__is_of) (defScope s__is_of) .none kV6 dc6 pm6 an6 cd6 ct6), sl6⟩) (c6 : PySem.W.codeIn K cd6 "_is_of" = true) (k6 : PySem.W.keepIn K (.ref f_is_of) = true)
    (a7 : PySem.W.nsIn K mainGlobals "_are_octets" = some (some (.ref f_are_octets)))
    (l7 : K.lookup f_are_octets = some ⟨oc7, od7, .func (PySem.W.fnOf "_are_octets" "_are_octets" (defArgs s__are_octets) (defBody s__are_octets) (defScope s__are_octets) .none kV7 dc7 pm7 an7 cd7 ct7), sl7⟩) (c7 : PySem.W.codeIn K cd7 "_are_octets" = true) (k7 : PySem.W.keepIn K (.ref f_are_octets) = true)
    (a8 : PySem.W.nsIn K mainGlobals "_is_bound" = some (some (.ref f_is_bound)))
    (l8 : K.lookup f_is_bound = some ⟨oc8, od8, .func (PySem.W.fnOf "_is_bound" "_is_bound" (defArgs s__is_bound) (defBody s__is_bound) (defScope s__is_bound) .none kV8 dc8 pm8 an8 cd8 ct8), sl8⟩) (c8 : PySem.W.codeIn K cd8 "_is_bound" = true) (k8 : PySem.W.keepIn K (.ref f_is_bound) = true)
    (a9 : PySem.W.nsIn K mainGlobals "_text_octets" = some (some (.ref f_text_octets)))
    (l9 : K.lookup f_text_octets = some ⟨oc9, od9, .func (PySem.W.fnOf "_text_octets" "_text_octets" (defArgs s__text_octets) (defBody s__text_octets) (defScope s__text_octets) .none kV9 dc9 pm9 an9 cd9 ct9), sl9⟩) (c9 : PySem.W.codeIn K cd9 "_text_octets" = true) (k9 : PySem.W.keepIn K (.ref f_text_octets) = true)
    (a10 : PySem.W.nsIn K mainGlobals "_padded" = some (some (.ref f_padded)))
    (l10 : K.lookup f_padded = some ⟨oc10, od10, .func (PySem.W.fnOf "_padded" "_padded" (defArgs s__padded) (defBody s__padded) (defScope s__padded) .none kV10 dc10 pm10 an10 cd10 ct10), sl10⟩) (c10 : PySem.W.codeIn K cd10 "_padded" = true) (k10 : PySem.W.keepIn K (.ref f_padded) = true)
    (a11 : PySem.W.nsIn K mainGlobals "encode_message" = some (some (.ref fencode_message)))
    (l11 : K.lookup fencode_message = some ⟨oc11, od11, .func (PySem.W.fnOf "encode_message" "encode_message" (defArgs s_encode_message) (defBody s_encode_message) (defScope s_encode_message) .none kV11 dc11 pm11 an11 cd11 ct11), sl11⟩) (c11 : PySem.W.codeIn K cd11 "encode_message" = true) (k11 : PySem.W.keepIn K (.ref fencode_message) = true)
    (a12 : PySem.W.nsIn K mainGlobals "interface_names" = some (some (.ref finterface_names)))
    (l12 : K.lookup finterface_names = some ⟨oc12, od12, .func (PySem.W.fnOf "interface_names" "interface_names" (defArgs s_interface_names) (defBody s_interface_names) (defScope s_interface_names) .none kV12 dc12 pm12 an12 cd12 ct12), sl12⟩) (c12 : PySem.W.codeIn K cd12 "interface_names" = true) (k12 : PySem.W.keepIn K (.ref finterface_names) = true)
    (a13 : PySem.W.nsIn K mainGlobals "request_row" = some (some (.ref frequest_row)))
    (l13 : K.lookup frequest_row = some ⟨oc13, od13, .func (PySem.W.fnOf "request_row" "request_row" (defArgs s_request_row) (defBody s_request_row) (defScope s_request_row) .none kV13 dc13 pm13 an13 cd13 ct13), sl13⟩) (c13 : PySem.W.codeIn K cd13 "request_row" = true) (k13 : PySem.W.keepIn K (.ref frequest_row) = true)
    (a14 : PySem.W.nsIn K mainGlobals "request_opcode" = some (some (.ref frequest_opcode)))
    (l14 : K.lookup frequest_opcode = some ⟨oc14, od14, .func (PySem.W.fnOf "request_opcode" "request_opcode" (defArgs s_request_opcode) (defBody s_request_opcode) (defScope s_request_opcode) .none kV14 dc14 pm14 an14 cd14 ct14), sl14⟩) (c14 : PySem.W.codeIn K cd14 "request_opcode" = true) (k14 : PySem.W.keepIn K (.ref frequest_opcode) = true)
    (a15 : PySem.W.nsIn K mainGlobals "event_row" = some (some (.ref fevent_row)))
    (l15 : K.lookup fevent_row = some ⟨oc15, od15, .func (PySem.W.fnOf "event_row" "event_row" (defArgs s_event_row) (defBody s_event_row) (defScope s_event_row) .none kV15 dc15 pm15 an15 cd15 ct15), sl15⟩) (c15 : PySem.W.codeIn K cd15 "event_row" = true) (k15 : PySem.W.keepIn K (.ref fevent_row) = true)
    (a16 : PySem.W.nsIn K mainGlobals "event_octets" = some (some (.ref fevent_octets)))
    (l16 : K.lookup fevent_octets = some ⟨oc16, od16, .func (PySem.W.fnOf "event_octets" "event_octets" (defArgs s_event_octets) (defBody s_event_octets) (defScope s_event_octets) .none kV16 dc16 pm16 an16 cd16 ct16), sl16⟩) (c16 : PySem.W.codeIn K cd16 "event_octets" = true) (k16 : PySem.W.keepIn K (.ref fevent_octets) = true)
    (a17 : PySem.W.nsIn K mainGlobals "_row_at" = some (some (.ref f_row_at)))
    (l17 : K.lookup f_row_at = some ⟨oc17, od17, .func (PySem.W.fnOf "_row_at" "_row_at" (defArgs s__row_at) (defBody s__row_at) (defScope s__row_at) .none kV17 dc17 pm17 an17 cd17 ct17), sl17⟩) (c17 : PySem.W.codeIn K cd17 "_row_at" = true) (k17 : PySem.W.keepIn K (.ref f_row_at) = true)
    (a18 : PySem.W.nsIn K mainGlobals "_opcode_of" = some (some (.ref f_opcode_of)))
    (l18 : K.lookup f_opcode_of = some ⟨oc18, od18, .func (PySem.W.fnOf "_opcode_of" "_opcode_of" (defArgs s__opcode_of) (defBody s__opcode_of) (defScope s__opcode_of) .none kV18 dc18 pm18 an18 cd18 ct18), sl18⟩) (c18 : PySem.W.codeIn K cd18 "_opcode_of" = true) (k18 : PySem.W.keepIn K (.ref f_opcode_of) = true)
    (a19 : PySem.W.nsIn K mainGlobals "_law_cell" = some (some (.ref f_law_cell)))
    (l19 : K.lookup f_law_cell = some ⟨oc19, od19, .func (PySem.W.fnOf "_law_cell" "_law_cell" (defArgs s__law_cell) (defBody s__law_cell) (defScope s__law_cell) .none kV19 dc19 pm19 an19 cd19 ct19), sl19⟩) (c19 : PySem.W.codeIn K cd19 "_law_cell" = true) (k19 : PySem.W.keepIn K (.ref f_law_cell) = true)
    (a20 : PySem.W.nsIn K mainGlobals "_law_row" = some (some (.ref f_law_row)))
    (l20 : K.lookup f_law_row = some ⟨oc20, od20, .func (PySem.W.fnOf "_law_row" "_law_row" (defArgs s__law_row) (defBody s__law_row) (defScope s__law_row) .none kV20 dc20 pm20 an20 cd20 ct20), sl20⟩) (c20 : PySem.W.codeIn K cd20 "_law_row" = true) (k20 : PySem.W.keepIn K (.ref f_law_row) = true)
    (a21 : PySem.W.nsIn K mainGlobals "_law_rows" = some (some (.ref f_law_rows)))
    (l21 : K.lookup f_law_rows = some ⟨oc21, od21, .func (PySem.W.fnOf "_law_rows" "_law_rows" (defArgs s__law_rows) (defBody s__law_rows) (defScope s__law_rows) .none kV21 dc21 pm21 an21 cd21 ct21), sl21⟩) (c21 : PySem.W.codeIn K cd21 "_law_rows" = true) (k21 : PySem.W.keepIn K (.ref f_law_rows) = true)
    (a22 : PySem.W.nsIn K mainGlobals "_law_list" = some (some (.ref f_law_list)))
    (l22 : K.lookup f_law_list = some ⟨oc22, od22, .func (PySem.W.fnOf "_law_list" "_law_list" (defArgs s__law_list) (defBody s__law_list) (defScope s__law_list) .none kV22 dc22 pm22 an22 cd22 ct22), sl22⟩) (c22 : PySem.W.codeIn K cd22 "_law_list" = true) (k22 : PySem.W.keepIn K (.ref f_law_list) = true)
    (a23 : PySem.W.nsIn K mainGlobals "_law_split" = some (some (.ref f_law_split)))
    (l23 : K.lookup f_law_split = some ⟨oc23, od23, .func (PySem.W.fnOf "_law_split" "_law_split" (defArgs s__law_split) (defBody s__law_split) (defScope s__law_split) .none kV23 dc23 pm23 an23 cd23 ct23), sl23⟩) (c23 : PySem.W.codeIn K cd23 "_law_split" = true) (k23 : PySem.W.keepIn K (.ref f_law_split) = true)
    (a24 : PySem.W.nsIn K mainGlobals "_law_table" = some (some (.ref f_law_table)))
    (l24 : K.lookup f_law_table = some ⟨oc24, od24, .func (PySem.W.fnOf "_law_table" "_law_table" (defArgs s__law_table) (defBody s__law_table) (defScope s__law_table) .none kV24 dc24 pm24 an24 cd24 ct24), sl24⟩) (c24 : PySem.W.codeIn K cd24 "_law_table" = true) (k24 : PySem.W.keepIn K (.ref f_law_table) = true)
    (a25 : PySem.W.nsIn K mainGlobals "_law_sign" = some (some (.ref f_law_sign)))
    (l25 : K.lookup f_law_sign = some ⟨oc25, od25, .func (PySem.W.fnOf "_law_sign" "_law_sign" (defArgs s__law_sign) (defBody s__law_sign) (defScope s__law_sign) .none kV25 dc25 pm25 an25 cd25 ct25), sl25⟩) (c25 : PySem.W.codeIn K cd25 "_law_sign" = true) (k25 : PySem.W.keepIn K (.ref f_law_sign) = true)
    (a26 : PySem.W.nsIn K mainGlobals "_law_text" = some (some (.ref f_law_text)))
    (l26 : K.lookup f_law_text = some ⟨oc26, od26, .func (PySem.W.fnOf "_law_text" "_law_text" (defArgs s__law_text) (defBody s__law_text) (defScope s__law_text) .none kV26 dc26 pm26 an26 cd26 ct26), sl26⟩) (c26 : PySem.W.codeIn K cd26 "_law_text" = true) (k26 : PySem.W.keepIn K (.ref f_law_text) = true)
    (a27 : PySem.W.nsIn K mainGlobals "_law_octets" = some (some (.ref f_law_octets)))
    (l27 : K.lookup f_law_octets = some ⟨oc27, od27, .func (PySem.W.fnOf "_law_octets" "_law_octets" (defArgs s__law_octets) (defBody s__law_octets) (defScope s__law_octets) .none kV27 dc27 pm27 an27 cd27 ct27), sl27⟩) (c27 : PySem.W.codeIn K cd27 "_law_octets" = true) (k27 : PySem.W.keepIn K (.ref f_law_octets) = true)
    (a28 : PySem.W.nsIn K mainGlobals "_law_value" = some (some (.ref f_law_value)))
    (l28 : K.lookup f_law_value = some ⟨oc28, od28, .func (PySem.W.fnOf "_law_value" "_law_value" (defArgs s__law_value) (defBody s__law_value) (defScope s__law_value) .none kV28 dc28 pm28 an28 cd28 ct28), sl28⟩) (c28 : PySem.W.codeIn K cd28 "_law_value" = true) (k28 : PySem.W.keepIn K (.ref f_law_value) = true)
    (a29 : PySem.W.nsIn K mainGlobals "_law_row_fits" = some (some (.ref f_law_row_fits)))
    (l29 : K.lookup f_law_row_fits = some ⟨oc29, od29, .func (PySem.W.fnOf "_law_row_fits" "_law_row_fits" (defArgs s__law_row_fits) (defBody s__law_row_fits) (defScope s__law_row_fits) .none kV29 dc29 pm29 an29 cd29 ct29), sl29⟩) (c29 : PySem.W.codeIn K cd29 "_law_row_fits" = true) (k29 : PySem.W.keepIn K (.ref f_law_row_fits) = true)
    (a30 : PySem.W.nsIn K mainGlobals "_law_event_fits" = some (some (.ref f_law_event_fits)))
    (l30 : K.lookup f_law_event_fits = some ⟨oc30, od30, .func (PySem.W.fnOf "_law_event_fits" "_law_event_fits" (defArgs s__law_event_fits) (defBody s__law_event_fits) (defScope s__law_event_fits) .none kV30 dc30 pm30 an30 cd30 ct30), sl30⟩) (c30 : PySem.W.codeIn K cd30 "_law_event_fits" = true) (k30 : PySem.W.keepIn K (.ref f_law_event_fits) = true)
    (a31 : PySem.W.nsIn K mainGlobals "law" = some (some (.ref flaw)))
    (l31 : K.lookup flaw = some ⟨oc31, od31, .func (PySem.W.fnOf "law" "law" (defArgs s_law) (defBody s_law) (defScope s_law) .none kV31 dc31 pm31 an31 cd31 ct31), sl31⟩) (c31 : PySem.W.codeIn K cd31 "law" = true) (k31 : PySem.W.keepIn K (.ref flaw) = true)
    (z_all : PySem.W.nsIn K mainGlobals "all" = some none)
    (z_bool : PySem.W.nsIn K mainGlobals "bool" = some none)
    (z_int : PySem.W.nsIn K mainGlobals "int" = some none)
    (z_isinstance : PySem.W.nsIn K mainGlobals "isinstance" = some none)
    (z_len : PySem.W.nsIn K mainGlobals "len" = some none)
    (z_list : PySem.W.nsIn K mainGlobals "list" = some none)
    (z_max : PySem.W.nsIn K mainGlobals "max" = some none)
    (z_min : PySem.W.nsIn K mainGlobals "min" = some none)
    (z_ord : PySem.W.nsIn K mainGlobals "ord" = some none)
    (z_range : PySem.W.nsIn K mainGlobals "range" = some none)
    (z_str : PySem.W.nsIn K mainGlobals "str" = some none)
    (z_tuple : PySem.W.nsIn K mainGlobals "tuple" = some none)
    (z_zip : PySem.W.nsIn K mainGlobals "zip" = some none)
    (q_GREATEST_NUMBER : PySem.W.nsIn K mainGlobals "GREATEST_NUMBER" = some (some (.int (4294967295) tGREATEST_NUMBER)))
    (q_LEAST_INT : PySem.W.nsIn K mainGlobals "LEAST_INT" = some (some (.int (-2147483648) tLEAST_INT)))
    (q_GREATEST_INT : PySem.W.nsIn K mainGlobals "GREATEST_INT" = some (some (.int (2147483647) tGREATEST_INT)))
    (q_LONGEST_TEXT : PySem.W.nsIn K mainGlobals "LONGEST_TEXT" = some (some (.int (1000) tLONGEST_TEXT)))
    (q_MOST_OCTETS : PySem.W.nsIn K mainGlobals "MOST_OCTETS" = some (some (.int (16384) tMOST_OCTETS)))
    (q__FIRST_CODE : PySem.W.nsIn K mainGlobals "_FIRST_CODE" = some (some (.int (32) t_FIRST_CODE)))
    (q__LAST_CODE : PySem.W.nsIn K mainGlobals "_LAST_CODE" = some (some (.int (126) t_LAST_CODE)))
    (q__PERCENT_CODE : PySem.W.nsIn K mainGlobals "_PERCENT_CODE" = some (some (.int (37) t_PERCENT_CODE)))
    (q_HEADER_SIZE : PySem.W.nsIn K mainGlobals "HEADER_SIZE" = some (some (.int (8) tHEADER_SIZE)))
    (q_GREATEST_SIZE : PySem.W.nsIn K mainGlobals "GREATEST_SIZE" = some (some (.int (20480) tGREATEST_SIZE)))
    (q_GREATEST_OPCODE : PySem.W.nsIn K mainGlobals "GREATEST_OPCODE" = some (some (.int (65535) tGREATEST_OPCODE)))
    (q_MOST_ARGUMENTS : PySem.W.nsIn K mainGlobals "MOST_ARGUMENTS" = some (some (.int (20) tMOST_ARGUMENTS)))
    (q__REQUESTS : PySem.W.nsIn K mainGlobals "_REQUESTS" = some (some (.ref a_REQUESTS)))
    (dl_REQUESTS : K.lookup a_REQUESTS = some ⟨.type "dict", none, .dict es_REQUESTS nn_REQUESTS, #[]⟩) (dk_REQUESTS : PySem.W.KeysLit w.params es_REQUESTS.toList)
    (dv_REQUESTS : es_REQUESTS.toList.map (fun e : DictEntry => e.key) = [.str "display" tk_REQUESTS0, .str "callback" tk_REQUESTS1, .str "registry" tk_REQUESTS2, .str "memory" tk_REQUESTS3, .str "buffer" tk_REQUESTS4, .str "compositor" tk_REQUESTS5, .str "region" tk_REQUESTS6, .str "surface" tk_REQUESTS7, .str "joiner" tk_REQUESTS8, .str "sub" tk_REQUESTS9, .str "output" tk_REQUESTS10, .str "windows" tk_REQUESTS11, .str "window" tk_REQUESTS12, .str "popup" tk_REQUESTS13, .str "seat" tk_REQUESTS14, .str "pointer" tk_REQUESTS15, .str "keyboard" tk_REQUESTS16, .str "transfer" tk_REQUESTS17, .str "source" tk_REQUESTS18, .str "offer" tk_REQUESTS19, .str "capture" tk_REQUESTS20, .str "fetch" tk_REQUESTS21, .str "watch" tk_REQUESTS22]) (dy_REQUESTS : (a_REQUESTS == sysModules) = false)
    (de_REQUESTS_k0 : PySem.W.nsIn K a_REQUESTS "display" = some (some (.ref a_REQUESTS_k0)))
    (de_REQUESTS_k1 : PySem.W.nsIn K a_REQUESTS "callback" = some (some (.ref a_REQUESTS_k1)))
    (de_REQUESTS_k2 : PySem.W.nsIn K a_REQUESTS "registry" = some (some (.ref a_REQUESTS_k2)))
    (de_REQUESTS_k3 : PySem.W.nsIn K a_REQUESTS "memory" = some (some (.ref a_REQUESTS_k3)))
    (de_REQUESTS_k4 : PySem.W.nsIn K a_REQUESTS "buffer" = some (some (.ref a_REQUESTS_k4)))
    (de_REQUESTS_k5 : PySem.W.nsIn K a_REQUESTS "compositor" = some (some (.ref a_REQUESTS_k5)))
    (de_REQUESTS_k6 : PySem.W.nsIn K a_REQUESTS "region" = some (some (.ref a_REQUESTS_k6)))
    (de_REQUESTS_k7 : PySem.W.nsIn K a_REQUESTS "surface" = some (some (.ref a_REQUESTS_k7)))
    (de_REQUESTS_k8 : PySem.W.nsIn K a_REQUESTS "joiner" = some (some (.ref a_REQUESTS_k8)))
    (de_REQUESTS_k9 : PySem.W.nsIn K a_REQUESTS "sub" = some (some (.ref a_REQUESTS_k9)))
    (de_REQUESTS_k10 : PySem.W.nsIn K a_REQUESTS "output" = some (some (.ref a_REQUESTS_k10)))
    (de_REQUESTS_k11 : PySem.W.nsIn K a_REQUESTS "windows" = some (some (.ref a_REQUESTS_k11)))
    (de_REQUESTS_k12 : PySem.W.nsIn K a_REQUESTS "window" = some (some (.ref a_REQUESTS_k12)))
    (de_REQUESTS_k13 : PySem.W.nsIn K a_REQUESTS "popup" = some (some (.ref a_REQUESTS_k13)))
    (de_REQUESTS_k14 : PySem.W.nsIn K a_REQUESTS "seat" = some (some (.ref a_REQUESTS_k14)))
    (de_REQUESTS_k15 : PySem.W.nsIn K a_REQUESTS "pointer" = some (some (.ref a_REQUESTS_k15)))
    (de_REQUESTS_k16 : PySem.W.nsIn K a_REQUESTS "keyboard" = some (some (.ref a_REQUESTS_k16)))
    (de_REQUESTS_k17 : PySem.W.nsIn K a_REQUESTS "transfer" = some (some (.ref a_REQUESTS_k17)))
    (de_REQUESTS_k18 : PySem.W.nsIn K a_REQUESTS "source" = some (some (.ref a_REQUESTS_k18)))
    (de_REQUESTS_k19 : PySem.W.nsIn K a_REQUESTS "offer" = some (some (.ref a_REQUESTS_k19)))
    (de_REQUESTS_k20 : PySem.W.nsIn K a_REQUESTS "capture" = some (some (.ref a_REQUESTS_k20)))
    (de_REQUESTS_k21 : PySem.W.nsIn K a_REQUESTS "fetch" = some (some (.ref a_REQUESTS_k21)))
    (de_REQUESTS_k22 : PySem.W.nsIn K a_REQUESTS "watch" = some (some (.ref a_REQUESTS_k22)))
    (w_REQUESTS_k0 : K.lookup a_REQUESTS_k0 = some ⟨.type "tuple", ow_REQUESTS_k0, .seq #[.ref a_REQUESTS_k0_0, .ref a_REQUESTS_k0_1] nw_REQUESTS_k0, sw_REQUESTS_k0⟩)
    (w_REQUESTS_k0_0 : K.lookup a_REQUESTS_k0_0 = some ⟨.type "tuple", ow_REQUESTS_k0_0, .seq #[.str "sync" tk_REQUESTS_k0_0_0, .ref a_REQUESTS_k0_0_1, .bool false] nw_REQUESTS_k0_0, sw_REQUESTS_k0_0⟩)
    (w_REQUESTS_k0_0_1 : K.lookup a_REQUESTS_k0_0_1 = some ⟨.type "tuple", ow_REQUESTS_k0_0_1, .seq #[.str "new callback" tk_REQUESTS_k0_0_1_0] nw_REQUESTS_k0_0_1, sw_REQUESTS_k0_0_1⟩)
    (w_REQUESTS_k0_1 : K.lookup a_REQUESTS_k0_1 = some ⟨.type "tuple", ow_REQUESTS_k0_1, .seq #[.str "registry" tk_REQUESTS_k0_1_0, .ref a_REQUESTS_k0_1_1, .bool false] nw_REQUESTS_k0_1, sw_REQUESTS_k0_1⟩)
    (w_REQUESTS_k0_1_1 : K.lookup a_REQUESTS_k0_1_1 = some ⟨.type "tuple", ow_REQUESTS_k0_1_1, .seq #[.str "new registry" tk_REQUESTS_k0_1_1_0] nw_REQUESTS_k0_1_1, sw_REQUESTS_k0_1_1⟩)
    (w_REQUESTS_k1 : K.lookup a_REQUESTS_k1 = some ⟨.type "tuple", ow_REQUESTS_k1, .seq #[] nw_REQUESTS_k1, sw_REQUESTS_k1⟩)
    (w_REQUESTS_k2 : K.lookup a_REQUESTS_k2 = some ⟨.type "tuple", ow_REQUESTS_k2, .seq #[.ref a_REQUESTS_k2_0] nw_REQUESTS_k2, sw_REQUESTS_k2⟩)
    (w_REQUESTS_k2_0 : K.lookup a_REQUESTS_k2_0 = some ⟨.type "tuple", ow_REQUESTS_k2_0, .seq #[.str "bind" tk_REQUESTS_k2_0_0, .ref a_REQUESTS_k2_0_1, .bool false] nw_REQUESTS_k2_0, sw_REQUESTS_k2_0⟩)
    (w_REQUESTS_k2_0_1 : K.lookup a_REQUESTS_k2_0_1 = some ⟨.type "tuple", ow_REQUESTS_k2_0_1, .seq #[.str "uint" tk_REQUESTS_k2_0_1_0, .str "bound" tk_REQUESTS_k2_0_1_1] nw_REQUESTS_k2_0_1, sw_REQUESTS_k2_0_1⟩)
    (w_REQUESTS_k3 : K.lookup a_REQUESTS_k3 = some ⟨.type "tuple", ow_REQUESTS_k3, .seq #[.ref a_REQUESTS_k3_0, .ref a_REQUESTS_k3_1] nw_REQUESTS_k3, sw_REQUESTS_k3⟩)
    (w_REQUESTS_k3_0 : K.lookup a_REQUESTS_k3_0 = some ⟨.type "tuple", ow_REQUESTS_k3_0, .seq #[.str "buffer" tk_REQUESTS_k3_0_0, .ref a_REQUESTS_k3_0_1, .bool false] nw_REQUESTS_k3_0, sw_REQUESTS_k3_0⟩)
    (w_REQUESTS_k3_0_1 : K.lookup a_REQUESTS_k3_0_1 = some ⟨.type "tuple", ow_REQUESTS_k3_0_1, .seq #[.str "new buffer" tk_REQUESTS_k3_0_1_0, .str "uint" tk_REQUESTS_k3_0_1_1, .str "uint" tk_REQUESTS_k3_0_1_2] nw_REQUESTS_k3_0_1, sw_REQUESTS_k3_0_1⟩)
    (w_REQUESTS_k3_1 : K.lookup a_REQUESTS_k3_1 = some ⟨.type "tuple", ow_REQUESTS_k3_1, .seq #[.str "destroy" tk_REQUESTS_k3_1_0, .ref a_REQUESTS_k3_1_1, .bool true] nw_REQUESTS_k3_1, sw_REQUESTS_k3_1⟩)
    (w_REQUESTS_k3_1_1 : K.lookup a_REQUESTS_k3_1_1 = some ⟨.type "tuple", ow_REQUESTS_k3_1_1, .seq #[] nw_REQUESTS_k3_1_1, sw_REQUESTS_k3_1_1⟩)
    (w_REQUESTS_k4 : K.lookup a_REQUESTS_k4 = some ⟨.type "tuple", ow_REQUESTS_k4, .seq #[.ref a_REQUESTS_k4_0, .ref a_REQUESTS_k4_1, .ref a_REQUESTS_k4_2] nw_REQUESTS_k4, sw_REQUESTS_k4⟩)
    (w_REQUESTS_k4_0 : K.lookup a_REQUESTS_k4_0 = some ⟨.type "tuple", ow_REQUESTS_k4_0, .seq #[.str "write" tk_REQUESTS_k4_0_0, .ref a_REQUESTS_k4_0_1, .bool false] nw_REQUESTS_k4_0, sw_REQUESTS_k4_0⟩)
    (w_REQUESTS_k4_0_1 : K.lookup a_REQUESTS_k4_0_1 = some ⟨.type "tuple", ow_REQUESTS_k4_0_1, .seq #[.str "uint" tk_REQUESTS_k4_0_1_0, .str "octets" tk_REQUESTS_k4_0_1_1] nw_REQUESTS_k4_0_1, sw_REQUESTS_k4_0_1⟩)
    (w_REQUESTS_k4_1 : K.lookup a_REQUESTS_k4_1 = some ⟨.type "tuple", ow_REQUESTS_k4_1, .seq #[.str "fill" tk_REQUESTS_k4_1_0, .ref a_REQUESTS_k4_1_1, .bool false] nw_REQUESTS_k4_1, sw_REQUESTS_k4_1⟩)
    (w_REQUESTS_k4_1_1 : K.lookup a_REQUESTS_k4_1_1 = some ⟨.type "tuple", ow_REQUESTS_k4_1_1, .seq #[.str "int" tk_REQUESTS_k4_1_1_0, .str "int" tk_REQUESTS_k4_1_1_1, .str "uint" tk_REQUESTS_k4_1_1_2, .str "uint" tk_REQUESTS_k4_1_1_3, .str "uint" tk_REQUESTS_k4_1_1_4] nw_REQUESTS_k4_1_1, sw_REQUESTS_k4_1_1⟩)
    (w_REQUESTS_k4_2 : K.lookup a_REQUESTS_k4_2 = some ⟨.type "tuple", ow_REQUESTS_k4_2, .seq #[.str "destroy" tk_REQUESTS_k4_2_0, .ref a_REQUESTS_k4_2_1, .bool true] nw_REQUESTS_k4_2, sw_REQUESTS_k4_2⟩)
    (w_REQUESTS_k4_2_1 : K.lookup a_REQUESTS_k4_2_1 = some ⟨.type "tuple", ow_REQUESTS_k4_2_1, .seq #[] nw_REQUESTS_k4_2_1, sw_REQUESTS_k4_2_1⟩)
    (w_REQUESTS_k5 : K.lookup a_REQUESTS_k5 = some ⟨.type "tuple", ow_REQUESTS_k5, .seq #[.ref a_REQUESTS_k5_0, .ref a_REQUESTS_k5_1, .ref a_REQUESTS_k5_2] nw_REQUESTS_k5, sw_REQUESTS_k5⟩)
    (w_REQUESTS_k5_0 : K.lookup a_REQUESTS_k5_0 = some ⟨.type "tuple", ow_REQUESTS_k5_0, .seq #[.str "surface" tk_REQUESTS_k5_0_0, .ref a_REQUESTS_k5_0_1, .bool false] nw_REQUESTS_k5_0, sw_REQUESTS_k5_0⟩)
    (w_REQUESTS_k5_0_1 : K.lookup a_REQUESTS_k5_0_1 = some ⟨.type "tuple", ow_REQUESTS_k5_0_1, .seq #[.str "new surface" tk_REQUESTS_k5_0_1_0] nw_REQUESTS_k5_0_1, sw_REQUESTS_k5_0_1⟩)
    (w_REQUESTS_k5_1 : K.lookup a_REQUESTS_k5_1 = some ⟨.type "tuple", ow_REQUESTS_k5_1, .seq #[.str "region" tk_REQUESTS_k5_1_0, .ref a_REQUESTS_k5_1_1, .bool false] nw_REQUESTS_k5_1, sw_REQUESTS_k5_1⟩)
    (w_REQUESTS_k5_1_1 : K.lookup a_REQUESTS_k5_1_1 = some ⟨.type "tuple", ow_REQUESTS_k5_1_1, .seq #[.str "new region" tk_REQUESTS_k5_1_1_0] nw_REQUESTS_k5_1_1, sw_REQUESTS_k5_1_1⟩)
    (w_REQUESTS_k5_2 : K.lookup a_REQUESTS_k5_2 = some ⟨.type "tuple", ow_REQUESTS_k5_2, .seq #[.str "destroy" tk_REQUESTS_k5_2_0, .ref a_REQUESTS_k5_2_1, .bool true] nw_REQUESTS_k5_2, sw_REQUESTS_k5_2⟩)
    (w_REQUESTS_k5_2_1 : K.lookup a_REQUESTS_k5_2_1 = some ⟨.type "tuple", ow_REQUESTS_k5_2_1, .seq #[] nw_REQUESTS_k5_2_1, sw_REQUESTS_k5_2_1⟩)
    (w_REQUESTS_k6 : K.lookup a_REQUESTS_k6 = some ⟨.type "tuple", ow_REQUESTS_k6, .seq #[.ref a_REQUESTS_k6_0, .ref a_REQUESTS_k6_1, .ref a_REQUESTS_k6_2] nw_REQUESTS_k6, sw_REQUESTS_k6⟩)
    (w_REQUESTS_k6_0 : K.lookup a_REQUESTS_k6_0 = some ⟨.type "tuple", ow_REQUESTS_k6_0, .seq #[.str "add" tk_REQUESTS_k6_0_0, .ref a_REQUESTS_k6_0_1, .bool false] nw_REQUESTS_k6_0, sw_REQUESTS_k6_0⟩)
    (w_REQUESTS_k6_0_1 : K.lookup a_REQUESTS_k6_0_1 = some ⟨.type "tuple", ow_REQUESTS_k6_0_1, .seq #[.str "int" tk_REQUESTS_k6_0_1_0, .str "int" tk_REQUESTS_k6_0_1_1, .str "uint" tk_REQUESTS_k6_0_1_2, .str "uint" tk_REQUESTS_k6_0_1_3] nw_REQUESTS_k6_0_1, sw_REQUESTS_k6_0_1⟩)
    (w_REQUESTS_k6_1 : K.lookup a_REQUESTS_k6_1 = some ⟨.type "tuple", ow_REQUESTS_k6_1, .seq #[.str "subtract" tk_REQUESTS_k6_1_0, .ref a_REQUESTS_k6_1_1, .bool false] nw_REQUESTS_k6_1, sw_REQUESTS_k6_1⟩)
    (w_REQUESTS_k6_1_1 : K.lookup a_REQUESTS_k6_1_1 = some ⟨.type "tuple", ow_REQUESTS_k6_1_1, .seq #[.str "int" tk_REQUESTS_k6_1_1_0, .str "int" tk_REQUESTS_k6_1_1_1, .str "uint" tk_REQUESTS_k6_1_1_2, .str "uint" tk_REQUESTS_k6_1_1_3] nw_REQUESTS_k6_1_1, sw_REQUESTS_k6_1_1⟩)
    (w_REQUESTS_k6_2 : K.lookup a_REQUESTS_k6_2 = some ⟨.type "tuple", ow_REQUESTS_k6_2, .seq #[.str "destroy" tk_REQUESTS_k6_2_0, .ref a_REQUESTS_k6_2_1, .bool true] nw_REQUESTS_k6_2, sw_REQUESTS_k6_2⟩)
    (w_REQUESTS_k6_2_1 : K.lookup a_REQUESTS_k6_2_1 = some ⟨.type "tuple", ow_REQUESTS_k6_2_1, .seq #[] nw_REQUESTS_k6_2_1, sw_REQUESTS_k6_2_1⟩)
    (w_REQUESTS_k7 : K.lookup a_REQUESTS_k7 = some ⟨.type "tuple", ow_REQUESTS_k7, .seq #[.ref a_REQUESTS_k7_0, .ref a_REQUESTS_k7_1, .ref a_REQUESTS_k7_2, .ref a_REQUESTS_k7_3, .ref a_REQUESTS_k7_4, .ref a_REQUESTS_k7_5, .ref a_REQUESTS_k7_6] nw_REQUESTS_k7, sw_REQUESTS_k7⟩)
    (w_REQUESTS_k7_0 : K.lookup a_REQUESTS_k7_0 = some ⟨.type "tuple", ow_REQUESTS_k7_0, .seq #[.str "attach" tk_REQUESTS_k7_0_0, .ref a_REQUESTS_k7_0_1, .bool false] nw_REQUESTS_k7_0, sw_REQUESTS_k7_0⟩)
    (w_REQUESTS_k7_0_1 : K.lookup a_REQUESTS_k7_0_1 = some ⟨.type "tuple", ow_REQUESTS_k7_0_1, .seq #[.str "maybe buffer" tk_REQUESTS_k7_0_1_0] nw_REQUESTS_k7_0_1, sw_REQUESTS_k7_0_1⟩)
    (w_REQUESTS_k7_1 : K.lookup a_REQUESTS_k7_1 = some ⟨.type "tuple", ow_REQUESTS_k7_1, .seq #[.str "frame" tk_REQUESTS_k7_1_0, .ref a_REQUESTS_k7_1_1, .bool false] nw_REQUESTS_k7_1, sw_REQUESTS_k7_1⟩)
    (w_REQUESTS_k7_1_1 : K.lookup a_REQUESTS_k7_1_1 = some ⟨.type "tuple", ow_REQUESTS_k7_1_1, .seq #[.str "new callback" tk_REQUESTS_k7_1_1_0] nw_REQUESTS_k7_1_1, sw_REQUESTS_k7_1_1⟩)
    (w_REQUESTS_k7_2 : K.lookup a_REQUESTS_k7_2 = some ⟨.type "tuple", ow_REQUESTS_k7_2, .seq #[.str "hears" tk_REQUESTS_k7_2_0, .ref a_REQUESTS_k7_2_1, .bool false] nw_REQUESTS_k7_2, sw_REQUESTS_k7_2⟩)
    (w_REQUESTS_k7_2_1 : K.lookup a_REQUESTS_k7_2_1 = some ⟨.type "tuple", ow_REQUESTS_k7_2_1, .seq #[.str "maybe region" tk_REQUESTS_k7_2_1_0] nw_REQUESTS_k7_2_1, sw_REQUESTS_k7_2_1⟩)
    (w_REQUESTS_k7_3 : K.lookup a_REQUESTS_k7_3 = some ⟨.type "tuple", ow_REQUESTS_k7_3, .seq #[.str "commit" tk_REQUESTS_k7_3_0, .ref a_REQUESTS_k7_3_1, .bool false] nw_REQUESTS_k7_3, sw_REQUESTS_k7_3⟩)
    (w_REQUESTS_k7_3_1 : K.lookup a_REQUESTS_k7_3_1 = some ⟨.type "tuple", ow_REQUESTS_k7_3_1, .seq #[] nw_REQUESTS_k7_3_1, sw_REQUESTS_k7_3_1⟩)
    (w_REQUESTS_k7_4 : K.lookup a_REQUESTS_k7_4 = some ⟨.type "tuple", ow_REQUESTS_k7_4, .seq #[.str "turn" tk_REQUESTS_k7_4_0, .ref a_REQUESTS_k7_4_1, .bool false] nw_REQUESTS_k7_4, sw_REQUESTS_k7_4⟩)
    (w_REQUESTS_k7_4_1 : K.lookup a_REQUESTS_k7_4_1 = some ⟨.type "tuple", ow_REQUESTS_k7_4_1, .seq #[.str "uint" tk_REQUESTS_k7_4_1_0] nw_REQUESTS_k7_4_1, sw_REQUESTS_k7_4_1⟩)
    (w_REQUESTS_k7_5 : K.lookup a_REQUESTS_k7_5 = some ⟨.type "tuple", ow_REQUESTS_k7_5, .seq #[.str "scale" tk_REQUESTS_k7_5_0, .ref a_REQUESTS_k7_5_1, .bool false] nw_REQUESTS_k7_5, sw_REQUESTS_k7_5⟩)
    (w_REQUESTS_k7_5_1 : K.lookup a_REQUESTS_k7_5_1 = some ⟨.type "tuple", ow_REQUESTS_k7_5_1, .seq #[.str "uint" tk_REQUESTS_k7_5_1_0] nw_REQUESTS_k7_5_1, sw_REQUESTS_k7_5_1⟩)
    (w_REQUESTS_k7_6 : K.lookup a_REQUESTS_k7_6 = some ⟨.type "tuple", ow_REQUESTS_k7_6, .seq #[.str "destroy" tk_REQUESTS_k7_6_0, .ref a_REQUESTS_k7_6_1, .bool true] nw_REQUESTS_k7_6, sw_REQUESTS_k7_6⟩)
    (w_REQUESTS_k7_6_1 : K.lookup a_REQUESTS_k7_6_1 = some ⟨.type "tuple", ow_REQUESTS_k7_6_1, .seq #[] nw_REQUESTS_k7_6_1, sw_REQUESTS_k7_6_1⟩)
    (w_REQUESTS_k8 : K.lookup a_REQUESTS_k8 = some ⟨.type "tuple", ow_REQUESTS_k8, .seq #[.ref a_REQUESTS_k8_0, .ref a_REQUESTS_k8_1] nw_REQUESTS_k8, sw_REQUESTS_k8⟩)
    (w_REQUESTS_k8_0 : K.lookup a_REQUESTS_k8_0 = some ⟨.type "tuple", ow_REQUESTS_k8_0, .seq #[.str "join" tk_REQUESTS_k8_0_0, .ref a_REQUESTS_k8_0_1, .bool false] nw_REQUESTS_k8_0, sw_REQUESTS_k8_0⟩)
    (w_REQUESTS_k8_0_1 : K.lookup a_REQUESTS_k8_0_1 = some ⟨.type "tuple", ow_REQUESTS_k8_0_1, .seq #[.str "new sub" tk_REQUESTS_k8_0_1_0, .str "object surface" tk_REQUESTS_k8_0_1_1, .str "object surface" tk_REQUESTS_k8_0_1_2] nw_REQUESTS_k8_0_1, sw_REQUESTS_k8_0_1⟩)
    (w_REQUESTS_k8_1 : K.lookup a_REQUESTS_k8_1 = some ⟨.type "tuple", ow_REQUESTS_k8_1, .seq #[.str "destroy" tk_REQUESTS_k8_1_0, .ref a_REQUESTS_k8_1_1, .bool true] nw_REQUESTS_k8_1, sw_REQUESTS_k8_1⟩)
    (w_REQUESTS_k8_1_1 : K.lookup a_REQUESTS_k8_1_1 = some ⟨.type "tuple", ow_REQUESTS_k8_1_1, .seq #[] nw_REQUESTS_k8_1_1, sw_REQUESTS_k8_1_1⟩)
    (w_REQUESTS_k9 : K.lookup a_REQUESTS_k9 = some ⟨.type "tuple", ow_REQUESTS_k9, .seq #[.ref a_REQUESTS_k9_0, .ref a_REQUESTS_k9_1, .ref a_REQUESTS_k9_2, .ref a_REQUESTS_k9_3, .ref a_REQUESTS_k9_4, .ref a_REQUESTS_k9_5] nw_REQUESTS_k9, sw_REQUESTS_k9⟩)
    (w_REQUESTS_k9_0 : K.lookup a_REQUESTS_k9_0 = some ⟨.type "tuple", ow_REQUESTS_k9_0, .seq #[.str "place" tk_REQUESTS_k9_0_0, .ref a_REQUESTS_k9_0_1, .bool false] nw_REQUESTS_k9_0, sw_REQUESTS_k9_0⟩)
    (w_REQUESTS_k9_0_1 : K.lookup a_REQUESTS_k9_0_1 = some ⟨.type "tuple", ow_REQUESTS_k9_0_1, .seq #[.str "int" tk_REQUESTS_k9_0_1_0, .str "int" tk_REQUESTS_k9_0_1_1] nw_REQUESTS_k9_0_1, sw_REQUESTS_k9_0_1⟩)
    (w_REQUESTS_k9_1 : K.lookup a_REQUESTS_k9_1 = some ⟨.type "tuple", ow_REQUESTS_k9_1, .seq #[.str "above" tk_REQUESTS_k9_1_0, .ref a_REQUESTS_k9_1_1, .bool false] nw_REQUESTS_k9_1, sw_REQUESTS_k9_1⟩)
    (w_REQUESTS_k9_1_1 : K.lookup a_REQUESTS_k9_1_1 = some ⟨.type "tuple", ow_REQUESTS_k9_1_1, .seq #[.str "object surface" tk_REQUESTS_k9_1_1_0] nw_REQUESTS_k9_1_1, sw_REQUESTS_k9_1_1⟩)
    (w_REQUESTS_k9_2 : K.lookup a_REQUESTS_k9_2 = some ⟨.type "tuple", ow_REQUESTS_k9_2, .seq #[.str "below" tk_REQUESTS_k9_2_0, .ref a_REQUESTS_k9_2_1, .bool false] nw_REQUESTS_k9_2, sw_REQUESTS_k9_2⟩)
    (w_REQUESTS_k9_2_1 : K.lookup a_REQUESTS_k9_2_1 = some ⟨.type "tuple", ow_REQUESTS_k9_2_1, .seq #[.str "object surface" tk_REQUESTS_k9_2_1_0] nw_REQUESTS_k9_2_1, sw_REQUESTS_k9_2_1⟩)
    (w_REQUESTS_k9_3 : K.lookup a_REQUESTS_k9_3 = some ⟨.type "tuple", ow_REQUESTS_k9_3, .seq #[.str "sync" tk_REQUESTS_k9_3_0, .ref a_REQUESTS_k9_3_1, .bool false] nw_REQUESTS_k9_3, sw_REQUESTS_k9_3⟩)
    (w_REQUESTS_k9_3_1 : K.lookup a_REQUESTS_k9_3_1 = some ⟨.type "tuple", ow_REQUESTS_k9_3_1, .seq #[] nw_REQUESTS_k9_3_1, sw_REQUESTS_k9_3_1⟩)
    (w_REQUESTS_k9_4 : K.lookup a_REQUESTS_k9_4 = some ⟨.type "tuple", ow_REQUESTS_k9_4, .seq #[.str "desync" tk_REQUESTS_k9_4_0, .ref a_REQUESTS_k9_4_1, .bool false] nw_REQUESTS_k9_4, sw_REQUESTS_k9_4⟩)
    (w_REQUESTS_k9_4_1 : K.lookup a_REQUESTS_k9_4_1 = some ⟨.type "tuple", ow_REQUESTS_k9_4_1, .seq #[] nw_REQUESTS_k9_4_1, sw_REQUESTS_k9_4_1⟩)
    (w_REQUESTS_k9_5 : K.lookup a_REQUESTS_k9_5 = some ⟨.type "tuple", ow_REQUESTS_k9_5, .seq #[.str "destroy" tk_REQUESTS_k9_5_0, .ref a_REQUESTS_k9_5_1, .bool true] nw_REQUESTS_k9_5, sw_REQUESTS_k9_5⟩)
    (w_REQUESTS_k9_5_1 : K.lookup a_REQUESTS_k9_5_1 = some ⟨.type "tuple", ow_REQUESTS_k9_5_1, .seq #[] nw_REQUESTS_k9_5_1, sw_REQUESTS_k9_5_1⟩)
    (w_REQUESTS_k10 : K.lookup a_REQUESTS_k10 = some ⟨.type "tuple", ow_REQUESTS_k10, .seq #[.ref a_REQUESTS_k10_0] nw_REQUESTS_k10, sw_REQUESTS_k10⟩)
    (w_REQUESTS_k10_0 : K.lookup a_REQUESTS_k10_0 = some ⟨.type "tuple", ow_REQUESTS_k10_0, .seq #[.str "destroy" tk_REQUESTS_k10_0_0, .ref a_REQUESTS_k10_0_1, .bool true] nw_REQUESTS_k10_0, sw_REQUESTS_k10_0⟩)
    (w_REQUESTS_k10_0_1 : K.lookup a_REQUESTS_k10_0_1 = some ⟨.type "tuple", ow_REQUESTS_k10_0_1, .seq #[] nw_REQUESTS_k10_0_1, sw_REQUESTS_k10_0_1⟩)
    (w_REQUESTS_k11 : K.lookup a_REQUESTS_k11 = some ⟨.type "tuple", ow_REQUESTS_k11, .seq #[.ref a_REQUESTS_k11_0, .ref a_REQUESTS_k11_1] nw_REQUESTS_k11, sw_REQUESTS_k11⟩)
    (w_REQUESTS_k11_0 : K.lookup a_REQUESTS_k11_0 = some ⟨.type "tuple", ow_REQUESTS_k11_0, .seq #[.str "window" tk_REQUESTS_k11_0_0, .ref a_REQUESTS_k11_0_1, .bool false] nw_REQUESTS_k11_0, sw_REQUESTS_k11_0⟩)
    (w_REQUESTS_k11_0_1 : K.lookup a_REQUESTS_k11_0_1 = some ⟨.type "tuple", ow_REQUESTS_k11_0_1, .seq #[.str "new window" tk_REQUESTS_k11_0_1_0, .str "object surface" tk_REQUESTS_k11_0_1_1] nw_REQUESTS_k11_0_1, sw_REQUESTS_k11_0_1⟩)
    (w_REQUESTS_k11_1 : K.lookup a_REQUESTS_k11_1 = some ⟨.type "tuple", ow_REQUESTS_k11_1, .seq #[.str "popup" tk_REQUESTS_k11_1_0, .ref a_REQUESTS_k11_1_1, .bool false] nw_REQUESTS_k11_1, sw_REQUESTS_k11_1⟩)
    (w_REQUESTS_k11_1_1 : K.lookup a_REQUESTS_k11_1_1 = some ⟨.type "tuple", ow_REQUESTS_k11_1_1, .seq #[.str "new popup" tk_REQUESTS_k11_1_1_0, .str "object surface" tk_REQUESTS_k11_1_1_1, .str "object window|popup" tk_REQUESTS_k11_1_1_2, .str "int" tk_REQUESTS_k11_1_1_3, .str "int" tk_REQUESTS_k11_1_1_4, .str "int" tk_REQUESTS_k11_1_1_5, .str "int" tk_REQUESTS_k11_1_1_6, .str "int" tk_REQUESTS_k11_1_1_7, .str "int" tk_REQUESTS_k11_1_1_8, .str "int" tk_REQUESTS_k11_1_1_9, .str "int" tk_REQUESTS_k11_1_1_10, .str "uint" tk_REQUESTS_k11_1_1_11, .str "uint" tk_REQUESTS_k11_1_1_12, .str "int" tk_REQUESTS_k11_1_1_13, .str "int" tk_REQUESTS_k11_1_1_14, .str "uint" tk_REQUESTS_k11_1_1_15, .str "uint" tk_REQUESTS_k11_1_1_16] nw_REQUESTS_k11_1_1, sw_REQUESTS_k11_1_1⟩)
    (w_REQUESTS_k12 : K.lookup a_REQUESTS_k12 = some ⟨.type "tuple", ow_REQUESTS_k12, .seq #[.ref a_REQUESTS_k12_0, .ref a_REQUESTS_k12_1, .ref a_REQUESTS_k12_2, .ref a_REQUESTS_k12_3, .ref a_REQUESTS_k12_4, .ref a_REQUESTS_k12_5, .ref a_REQUESTS_k12_6, .ref a_REQUESTS_k12_7, .ref a_REQUESTS_k12_8, .ref a_REQUESTS_k12_9, .ref a_REQUESTS_k12_10, .ref a_REQUESTS_k12_11] nw_REQUESTS_k12, sw_REQUESTS_k12⟩)
    (w_REQUESTS_k12_0 : K.lookup a_REQUESTS_k12_0 = some ⟨.type "tuple", ow_REQUESTS_k12_0, .seq #[.str "destroy" tk_REQUESTS_k12_0_0, .ref a_REQUESTS_k12_0_1, .bool true] nw_REQUESTS_k12_0, sw_REQUESTS_k12_0⟩)
    (w_REQUESTS_k12_0_1 : K.lookup a_REQUESTS_k12_0_1 = some ⟨.type "tuple", ow_REQUESTS_k12_0_1, .seq #[] nw_REQUESTS_k12_0_1, sw_REQUESTS_k12_0_1⟩)
    (w_REQUESTS_k12_1 : K.lookup a_REQUESTS_k12_1 = some ⟨.type "tuple", ow_REQUESTS_k12_1, .seq #[.str "title" tk_REQUESTS_k12_1_0, .ref a_REQUESTS_k12_1_1, .bool false] nw_REQUESTS_k12_1, sw_REQUESTS_k12_1⟩)
    (w_REQUESTS_k12_1_1 : K.lookup a_REQUESTS_k12_1_1 = some ⟨.type "tuple", ow_REQUESTS_k12_1_1, .seq #[.str "text" tk_REQUESTS_k12_1_1_0] nw_REQUESTS_k12_1_1, sw_REQUESTS_k12_1_1⟩)
    (w_REQUESTS_k12_2 : K.lookup a_REQUESTS_k12_2 = some ⟨.type "tuple", ow_REQUESTS_k12_2, .seq #[.str "name" tk_REQUESTS_k12_2_0, .ref a_REQUESTS_k12_2_1, .bool false] nw_REQUESTS_k12_2, sw_REQUESTS_k12_2⟩)
    (w_REQUESTS_k12_2_1 : K.lookup a_REQUESTS_k12_2_1 = some ⟨.type "tuple", ow_REQUESTS_k12_2_1, .seq #[.str "text" tk_REQUESTS_k12_2_1_0] nw_REQUESTS_k12_2_1, sw_REQUESTS_k12_2_1⟩)
    (w_REQUESTS_k12_3 : K.lookup a_REQUESTS_k12_3 = some ⟨.type "tuple", ow_REQUESTS_k12_3, .seq #[.str "least" tk_REQUESTS_k12_3_0, .ref a_REQUESTS_k12_3_1, .bool false] nw_REQUESTS_k12_3, sw_REQUESTS_k12_3⟩)
    (w_REQUESTS_k12_3_1 : K.lookup a_REQUESTS_k12_3_1 = some ⟨.type "tuple", ow_REQUESTS_k12_3_1, .seq #[.str "uint" tk_REQUESTS_k12_3_1_0, .str "uint" tk_REQUESTS_k12_3_1_1] nw_REQUESTS_k12_3_1, sw_REQUESTS_k12_3_1⟩)
    (w_REQUESTS_k12_4 : K.lookup a_REQUESTS_k12_4 = some ⟨.type "tuple", ow_REQUESTS_k12_4, .seq #[.str "largest" tk_REQUESTS_k12_4_0, .ref a_REQUESTS_k12_4_1, .bool false] nw_REQUESTS_k12_4, sw_REQUESTS_k12_4⟩)
    (w_REQUESTS_k12_4_1 : K.lookup a_REQUESTS_k12_4_1 = some ⟨.type "tuple", ow_REQUESTS_k12_4_1, .seq #[.str "uint" tk_REQUESTS_k12_4_1_0, .str "uint" tk_REQUESTS_k12_4_1_1] nw_REQUESTS_k12_4_1, sw_REQUESTS_k12_4_1⟩)
    (w_REQUESTS_k12_5 : K.lookup a_REQUESTS_k12_5 = some ⟨.type "tuple", ow_REQUESTS_k12_5, .seq #[.str "ack" tk_REQUESTS_k12_5_0, .ref a_REQUESTS_k12_5_1, .bool false] nw_REQUESTS_k12_5, sw_REQUESTS_k12_5⟩)
    (w_REQUESTS_k12_5_1 : K.lookup a_REQUESTS_k12_5_1 = some ⟨.type "tuple", ow_REQUESTS_k12_5_1, .seq #[.str "uint" tk_REQUESTS_k12_5_1_0] nw_REQUESTS_k12_5_1, sw_REQUESTS_k12_5_1⟩)
    (w_REQUESTS_k12_6 : K.lookup a_REQUESTS_k12_6 = some ⟨.type "tuple", ow_REQUESTS_k12_6, .seq #[.str "map_with" tk_REQUESTS_k12_6_0, .ref a_REQUESTS_k12_6_1, .bool false] nw_REQUESTS_k12_6, sw_REQUESTS_k12_6⟩)
    (w_REQUESTS_k12_6_1 : K.lookup a_REQUESTS_k12_6_1 = some ⟨.type "tuple", ow_REQUESTS_k12_6_1, .seq #[.str "uint" tk_REQUESTS_k12_6_1_0] nw_REQUESTS_k12_6_1, sw_REQUESTS_k12_6_1⟩)
    (w_REQUESTS_k12_7 : K.lookup a_REQUESTS_k12_7 = some ⟨.type "tuple", ow_REQUESTS_k12_7, .seq #[.str "smaller" tk_REQUESTS_k12_7_0, .ref a_REQUESTS_k12_7_1, .bool false] nw_REQUESTS_k12_7, sw_REQUESTS_k12_7⟩)
    (w_REQUESTS_k12_7_1 : K.lookup a_REQUESTS_k12_7_1 = some ⟨.type "tuple", ow_REQUESTS_k12_7_1, .seq #[.str "uint" tk_REQUESTS_k12_7_1_0, .str "uint" tk_REQUESTS_k12_7_1_1] nw_REQUESTS_k12_7_1, sw_REQUESTS_k12_7_1⟩)
    (w_REQUESTS_k12_8 : K.lookup a_REQUESTS_k12_8 = some ⟨.type "tuple", ow_REQUESTS_k12_8, .seq #[.str "grow" tk_REQUESTS_k12_8_0, .ref a_REQUESTS_k12_8_1, .bool false] nw_REQUESTS_k12_8, sw_REQUESTS_k12_8⟩)
    (w_REQUESTS_k12_8_1 : K.lookup a_REQUESTS_k12_8_1 = some ⟨.type "tuple", ow_REQUESTS_k12_8_1, .seq #[.str "uint" tk_REQUESTS_k12_8_1_0, .str "uint" tk_REQUESTS_k12_8_1_1, .str "uint" tk_REQUESTS_k12_8_1_2] nw_REQUESTS_k12_8_1, sw_REQUESTS_k12_8_1⟩)
    (w_REQUESTS_k12_9 : K.lookup a_REQUESTS_k12_9 = some ⟨.type "tuple", ow_REQUESTS_k12_9, .seq #[.str "raise" tk_REQUESTS_k12_9_0, .ref a_REQUESTS_k12_9_1, .bool false] nw_REQUESTS_k12_9, sw_REQUESTS_k12_9⟩)
    (w_REQUESTS_k12_9_1 : K.lookup a_REQUESTS_k12_9_1 = some ⟨.type "tuple", ow_REQUESTS_k12_9_1, .seq #[.str "uint" tk_REQUESTS_k12_9_1_0] nw_REQUESTS_k12_9_1, sw_REQUESTS_k12_9_1⟩)
    (w_REQUESTS_k12_10 : K.lookup a_REQUESTS_k12_10 = some ⟨.type "tuple", ow_REQUESTS_k12_10, .seq #[.str "maximize" tk_REQUESTS_k12_10_0, .ref a_REQUESTS_k12_10_1, .bool false] nw_REQUESTS_k12_10, sw_REQUESTS_k12_10⟩)
    (w_REQUESTS_k12_10_1 : K.lookup a_REQUESTS_k12_10_1 = some ⟨.type "tuple", ow_REQUESTS_k12_10_1, .seq #[.str "uint" tk_REQUESTS_k12_10_1_0] nw_REQUESTS_k12_10_1, sw_REQUESTS_k12_10_1⟩)
    (w_REQUESTS_k12_11 : K.lookup a_REQUESTS_k12_11 = some ⟨.type "tuple", ow_REQUESTS_k12_11, .seq #[.str "restore" tk_REQUESTS_k12_11_0, .ref a_REQUESTS_k12_11_1, .bool false] nw_REQUESTS_k12_11, sw_REQUESTS_k12_11⟩)
    (w_REQUESTS_k12_11_1 : K.lookup a_REQUESTS_k12_11_1 = some ⟨.type "tuple", ow_REQUESTS_k12_11_1, .seq #[] nw_REQUESTS_k12_11_1, sw_REQUESTS_k12_11_1⟩)
    (w_REQUESTS_k13 : K.lookup a_REQUESTS_k13 = some ⟨.type "tuple", ow_REQUESTS_k13, .seq #[.ref a_REQUESTS_k13_0, .ref a_REQUESTS_k13_1] nw_REQUESTS_k13, sw_REQUESTS_k13⟩)
    (w_REQUESTS_k13_0 : K.lookup a_REQUESTS_k13_0 = some ⟨.type "tuple", ow_REQUESTS_k13_0, .seq #[.str "destroy" tk_REQUESTS_k13_0_0, .ref a_REQUESTS_k13_0_1, .bool true] nw_REQUESTS_k13_0, sw_REQUESTS_k13_0⟩)
    (w_REQUESTS_k13_0_1 : K.lookup a_REQUESTS_k13_0_1 = some ⟨.type "tuple", ow_REQUESTS_k13_0_1, .seq #[] nw_REQUESTS_k13_0_1, sw_REQUESTS_k13_0_1⟩)
    (w_REQUESTS_k13_1 : K.lookup a_REQUESTS_k13_1 = some ⟨.type "tuple", ow_REQUESTS_k13_1, .seq #[.str "place" tk_REQUESTS_k13_1_0, .ref a_REQUESTS_k13_1_1, .bool false] nw_REQUESTS_k13_1, sw_REQUESTS_k13_1⟩)
    (w_REQUESTS_k13_1_1 : K.lookup a_REQUESTS_k13_1_1 = some ⟨.type "tuple", ow_REQUESTS_k13_1_1, .seq #[.str "int" tk_REQUESTS_k13_1_1_0, .str "int" tk_REQUESTS_k13_1_1_1, .str "int" tk_REQUESTS_k13_1_1_2, .str "int" tk_REQUESTS_k13_1_1_3, .str "int" tk_REQUESTS_k13_1_1_4, .str "int" tk_REQUESTS_k13_1_1_5, .str "int" tk_REQUESTS_k13_1_1_6, .str "int" tk_REQUESTS_k13_1_1_7, .str "uint" tk_REQUESTS_k13_1_1_8, .str "uint" tk_REQUESTS_k13_1_1_9, .str "int" tk_REQUESTS_k13_1_1_10, .str "int" tk_REQUESTS_k13_1_1_11, .str "uint" tk_REQUESTS_k13_1_1_12] nw_REQUESTS_k13_1_1, sw_REQUESTS_k13_1_1⟩)
    (w_REQUESTS_k14 : K.lookup a_REQUESTS_k14 = some ⟨.type "tuple", ow_REQUESTS_k14, .seq #[.ref a_REQUESTS_k14_0, .ref a_REQUESTS_k14_1] nw_REQUESTS_k14, sw_REQUESTS_k14⟩)
    (w_REQUESTS_k14_0 : K.lookup a_REQUESTS_k14_0 = some ⟨.type "tuple", ow_REQUESTS_k14_0, .seq #[.str "pointer" tk_REQUESTS_k14_0_0, .ref a_REQUESTS_k14_0_1, .bool false] nw_REQUESTS_k14_0, sw_REQUESTS_k14_0⟩)
    (w_REQUESTS_k14_0_1 : K.lookup a_REQUESTS_k14_0_1 = some ⟨.type "tuple", ow_REQUESTS_k14_0_1, .seq #[.str "new pointer" tk_REQUESTS_k14_0_1_0] nw_REQUESTS_k14_0_1, sw_REQUESTS_k14_0_1⟩)
    (w_REQUESTS_k14_1 : K.lookup a_REQUESTS_k14_1 = some ⟨.type "tuple", ow_REQUESTS_k14_1, .seq #[.str "keyboard" tk_REQUESTS_k14_1_0, .ref a_REQUESTS_k14_1_1, .bool false] nw_REQUESTS_k14_1, sw_REQUESTS_k14_1⟩)
    (w_REQUESTS_k14_1_1 : K.lookup a_REQUESTS_k14_1_1 = some ⟨.type "tuple", ow_REQUESTS_k14_1_1, .seq #[.str "new keyboard" tk_REQUESTS_k14_1_1_0] nw_REQUESTS_k14_1_1, sw_REQUESTS_k14_1_1⟩)
    (w_REQUESTS_k15 : K.lookup a_REQUESTS_k15 = some ⟨.type "tuple", ow_REQUESTS_k15, .seq #[.ref a_REQUESTS_k15_0, .ref a_REQUESTS_k15_1] nw_REQUESTS_k15, sw_REQUESTS_k15⟩)
    (w_REQUESTS_k15_0 : K.lookup a_REQUESTS_k15_0 = some ⟨.type "tuple", ow_REQUESTS_k15_0, .seq #[.str "destroy" tk_REQUESTS_k15_0_0, .ref a_REQUESTS_k15_0_1, .bool true] nw_REQUESTS_k15_0, sw_REQUESTS_k15_0⟩)
    (w_REQUESTS_k15_0_1 : K.lookup a_REQUESTS_k15_0_1 = some ⟨.type "tuple", ow_REQUESTS_k15_0_1, .seq #[] nw_REQUESTS_k15_0_1, sw_REQUESTS_k15_0_1⟩)
    (w_REQUESTS_k15_1 : K.lookup a_REQUESTS_k15_1 = some ⟨.type "tuple", ow_REQUESTS_k15_1, .seq #[.str "cursor" tk_REQUESTS_k15_1_0, .ref a_REQUESTS_k15_1_1, .bool false] nw_REQUESTS_k15_1, sw_REQUESTS_k15_1⟩)
    (w_REQUESTS_k15_1_1 : K.lookup a_REQUESTS_k15_1_1 = some ⟨.type "tuple", ow_REQUESTS_k15_1_1, .seq #[.str "uint" tk_REQUESTS_k15_1_1_0] nw_REQUESTS_k15_1_1, sw_REQUESTS_k15_1_1⟩)
    (w_REQUESTS_k16 : K.lookup a_REQUESTS_k16 = some ⟨.type "tuple", ow_REQUESTS_k16, .seq #[.ref a_REQUESTS_k16_0] nw_REQUESTS_k16, sw_REQUESTS_k16⟩)
    (w_REQUESTS_k16_0 : K.lookup a_REQUESTS_k16_0 = some ⟨.type "tuple", ow_REQUESTS_k16_0, .seq #[.str "destroy" tk_REQUESTS_k16_0_0, .ref a_REQUESTS_k16_0_1, .bool true] nw_REQUESTS_k16_0, sw_REQUESTS_k16_0⟩)
    (w_REQUESTS_k16_0_1 : K.lookup a_REQUESTS_k16_0_1 = some ⟨.type "tuple", ow_REQUESTS_k16_0_1, .seq #[] nw_REQUESTS_k16_0_1, sw_REQUESTS_k16_0_1⟩)
    (w_REQUESTS_k17 : K.lookup a_REQUESTS_k17 = some ⟨.type "tuple", ow_REQUESTS_k17, .seq #[.ref a_REQUESTS_k17_0, .ref a_REQUESTS_k17_1, .ref a_REQUESTS_k17_2, .ref a_REQUESTS_k17_3, .ref a_REQUESTS_k17_4, .ref a_REQUESTS_k17_5, .ref a_REQUESTS_k17_6, .ref a_REQUESTS_k17_7, .ref a_REQUESTS_k17_8] nw_REQUESTS_k17, sw_REQUESTS_k17⟩)
    (w_REQUESTS_k17_0 : K.lookup a_REQUESTS_k17_0 = some ⟨.type "tuple", ow_REQUESTS_k17_0, .seq #[.str "source" tk_REQUESTS_k17_0_0, .ref a_REQUESTS_k17_0_1, .bool false] nw_REQUESTS_k17_0, sw_REQUESTS_k17_0⟩)
    (w_REQUESTS_k17_0_1 : K.lookup a_REQUESTS_k17_0_1 = some ⟨.type "tuple", ow_REQUESTS_k17_0_1, .seq #[.str "new source" tk_REQUESTS_k17_0_1_0] nw_REQUESTS_k17_0_1, sw_REQUESTS_k17_0_1⟩)
    (w_REQUESTS_k17_1 : K.lookup a_REQUESTS_k17_1 = some ⟨.type "tuple", ow_REQUESTS_k17_1, .seq #[.str "give" tk_REQUESTS_k17_1_0, .ref a_REQUESTS_k17_1_1, .bool false] nw_REQUESTS_k17_1, sw_REQUESTS_k17_1⟩)
    (w_REQUESTS_k17_1_1 : K.lookup a_REQUESTS_k17_1_1 = some ⟨.type "tuple", ow_REQUESTS_k17_1_1, .seq #[.str "object source" tk_REQUESTS_k17_1_1_0, .str "uint" tk_REQUESTS_k17_1_1_1, .str "uint" tk_REQUESTS_k17_1_1_2] nw_REQUESTS_k17_1_1, sw_REQUESTS_k17_1_1⟩)
    (w_REQUESTS_k17_2 : K.lookup a_REQUESTS_k17_2 = some ⟨.type "tuple", ow_REQUESTS_k17_2, .seq #[.str "drag" tk_REQUESTS_k17_2_0, .ref a_REQUESTS_k17_2_1, .bool false] nw_REQUESTS_k17_2, sw_REQUESTS_k17_2⟩)
    (w_REQUESTS_k17_2_1 : K.lookup a_REQUESTS_k17_2_1 = some ⟨.type "tuple", ow_REQUESTS_k17_2_1, .seq #[.str "object source" tk_REQUESTS_k17_2_1_0, .str "uint" tk_REQUESTS_k17_2_1_1] nw_REQUESTS_k17_2_1, sw_REQUESTS_k17_2_1⟩)
    (w_REQUESTS_k17_3 : K.lookup a_REQUESTS_k17_3 = some ⟨.type "tuple", ow_REQUESTS_k17_3, .seq #[.str "send" tk_REQUESTS_k17_3_0, .ref a_REQUESTS_k17_3_1, .bool false] nw_REQUESTS_k17_3, sw_REQUESTS_k17_3⟩)
    (w_REQUESTS_k17_3_1 : K.lookup a_REQUESTS_k17_3_1 = some ⟨.type "tuple", ow_REQUESTS_k17_3_1, .seq #[.str "text" tk_REQUESTS_k17_3_1_0, .str "octets" tk_REQUESTS_k17_3_1_1] nw_REQUESTS_k17_3_1, sw_REQUESTS_k17_3_1⟩)
    (w_REQUESTS_k17_4 : K.lookup a_REQUESTS_k17_4 = some ⟨.type "tuple", ow_REQUESTS_k17_4, .seq #[.str "unsend" tk_REQUESTS_k17_4_0, .ref a_REQUESTS_k17_4_1, .bool false] nw_REQUESTS_k17_4, sw_REQUESTS_k17_4⟩)
    (w_REQUESTS_k17_4_1 : K.lookup a_REQUESTS_k17_4_1 = some ⟨.type "tuple", ow_REQUESTS_k17_4_1, .seq #[.str "text" tk_REQUESTS_k17_4_1_0] nw_REQUESTS_k17_4_1, sw_REQUESTS_k17_4_1⟩)
    (w_REQUESTS_k17_5 : K.lookup a_REQUESTS_k17_5 = some ⟨.type "tuple", ow_REQUESTS_k17_5, .seq #[.str "ask" tk_REQUESTS_k17_5_0, .ref a_REQUESTS_k17_5_1, .bool false] nw_REQUESTS_k17_5, sw_REQUESTS_k17_5⟩)
    (w_REQUESTS_k17_5_1 : K.lookup a_REQUESTS_k17_5_1 = some ⟨.type "tuple", ow_REQUESTS_k17_5_1, .seq #[.str "new capture" tk_REQUESTS_k17_5_1_0, .str "object output" tk_REQUESTS_k17_5_1_1, .str "int" tk_REQUESTS_k17_5_1_2, .str "int" tk_REQUESTS_k17_5_1_3, .str "uint" tk_REQUESTS_k17_5_1_4, .str "uint" tk_REQUESTS_k17_5_1_5] nw_REQUESTS_k17_5_1, sw_REQUESTS_k17_5_1⟩)
    (w_REQUESTS_k17_6 : K.lookup a_REQUESTS_k17_6 = some ⟨.type "tuple", ow_REQUESTS_k17_6, .seq #[.str "fetch" tk_REQUESTS_k17_6_0, .ref a_REQUESTS_k17_6_1, .bool false] nw_REQUESTS_k17_6, sw_REQUESTS_k17_6⟩)
    (w_REQUESTS_k17_6_1 : K.lookup a_REQUESTS_k17_6_1 = some ⟨.type "tuple", ow_REQUESTS_k17_6_1, .seq #[.str "new fetch" tk_REQUESTS_k17_6_1_0, .str "text" tk_REQUESTS_k17_6_1_1] nw_REQUESTS_k17_6_1, sw_REQUESTS_k17_6_1⟩)
    (w_REQUESTS_k17_7 : K.lookup a_REQUESTS_k17_7 = some ⟨.type "tuple", ow_REQUESTS_k17_7, .seq #[.str "watch" tk_REQUESTS_k17_7_0, .ref a_REQUESTS_k17_7_1, .bool false] nw_REQUESTS_k17_7, sw_REQUESTS_k17_7⟩)
    (w_REQUESTS_k17_7_1 : K.lookup a_REQUESTS_k17_7_1 = some ⟨.type "tuple", ow_REQUESTS_k17_7_1, .seq #[.str "new watch" tk_REQUESTS_k17_7_1_0, .str "text" tk_REQUESTS_k17_7_1_1] nw_REQUESTS_k17_7_1, sw_REQUESTS_k17_7_1⟩)
    (w_REQUESTS_k17_8 : K.lookup a_REQUESTS_k17_8 = some ⟨.type "tuple", ow_REQUESTS_k17_8, .seq #[.str "destroy" tk_REQUESTS_k17_8_0, .ref a_REQUESTS_k17_8_1, .bool true] nw_REQUESTS_k17_8, sw_REQUESTS_k17_8⟩)
    (w_REQUESTS_k17_8_1 : K.lookup a_REQUESTS_k17_8_1 = some ⟨.type "tuple", ow_REQUESTS_k17_8_1, .seq #[] nw_REQUESTS_k17_8_1, sw_REQUESTS_k17_8_1⟩)
    (w_REQUESTS_k18 : K.lookup a_REQUESTS_k18 = some ⟨.type "tuple", ow_REQUESTS_k18, .seq #[.ref a_REQUESTS_k18_0, .ref a_REQUESTS_k18_1] nw_REQUESTS_k18, sw_REQUESTS_k18⟩)
    (w_REQUESTS_k18_0 : K.lookup a_REQUESTS_k18_0 = some ⟨.type "tuple", ow_REQUESTS_k18_0, .seq #[.str "write" tk_REQUESTS_k18_0_0, .ref a_REQUESTS_k18_0_1, .bool false] nw_REQUESTS_k18_0, sw_REQUESTS_k18_0⟩)
    (w_REQUESTS_k18_0_1 : K.lookup a_REQUESTS_k18_0_1 = some ⟨.type "tuple", ow_REQUESTS_k18_0_1, .seq #[.str "text" tk_REQUESTS_k18_0_1_0, .str "octets" tk_REQUESTS_k18_0_1_1] nw_REQUESTS_k18_0_1, sw_REQUESTS_k18_0_1⟩)
    (w_REQUESTS_k18_1 : K.lookup a_REQUESTS_k18_1 = some ⟨.type "tuple", ow_REQUESTS_k18_1, .seq #[.str "destroy" tk_REQUESTS_k18_1_0, .ref a_REQUESTS_k18_1_1, .bool true] nw_REQUESTS_k18_1, sw_REQUESTS_k18_1⟩)
    (w_REQUESTS_k18_1_1 : K.lookup a_REQUESTS_k18_1_1 = some ⟨.type "tuple", ow_REQUESTS_k18_1_1, .seq #[] nw_REQUESTS_k18_1_1, sw_REQUESTS_k18_1_1⟩)
    (w_REQUESTS_k19 : K.lookup a_REQUESTS_k19 = some ⟨.type "tuple", ow_REQUESTS_k19, .seq #[.ref a_REQUESTS_k19_0, .ref a_REQUESTS_k19_1] nw_REQUESTS_k19, sw_REQUESTS_k19⟩)
    (w_REQUESTS_k19_0 : K.lookup a_REQUESTS_k19_0 = some ⟨.type "tuple", ow_REQUESTS_k19_0, .seq #[.str "read" tk_REQUESTS_k19_0_0, .ref a_REQUESTS_k19_0_1, .bool false] nw_REQUESTS_k19_0, sw_REQUESTS_k19_0⟩)
    (w_REQUESTS_k19_0_1 : K.lookup a_REQUESTS_k19_0_1 = some ⟨.type "tuple", ow_REQUESTS_k19_0_1, .seq #[.str "text" tk_REQUESTS_k19_0_1_0, .str "uint" tk_REQUESTS_k19_0_1_1, .str "uint" tk_REQUESTS_k19_0_1_2] nw_REQUESTS_k19_0_1, sw_REQUESTS_k19_0_1⟩)
    (w_REQUESTS_k19_1 : K.lookup a_REQUESTS_k19_1 = some ⟨.type "tuple", ow_REQUESTS_k19_1, .seq #[.str "destroy" tk_REQUESTS_k19_1_0, .ref a_REQUESTS_k19_1_1, .bool true] nw_REQUESTS_k19_1, sw_REQUESTS_k19_1⟩)
    (w_REQUESTS_k19_1_1 : K.lookup a_REQUESTS_k19_1_1 = some ⟨.type "tuple", ow_REQUESTS_k19_1_1, .seq #[] nw_REQUESTS_k19_1_1, sw_REQUESTS_k19_1_1⟩)
    (w_REQUESTS_k20 : K.lookup a_REQUESTS_k20 = some ⟨.type "tuple", ow_REQUESTS_k20, .seq #[.ref a_REQUESTS_k20_0, .ref a_REQUESTS_k20_1] nw_REQUESTS_k20, sw_REQUESTS_k20⟩)
    (w_REQUESTS_k20_0 : K.lookup a_REQUESTS_k20_0 = some ⟨.type "tuple", ow_REQUESTS_k20_0, .seq #[.str "read" tk_REQUESTS_k20_0_0, .ref a_REQUESTS_k20_0_1, .bool false] nw_REQUESTS_k20_0, sw_REQUESTS_k20_0⟩)
    (w_REQUESTS_k20_0_1 : K.lookup a_REQUESTS_k20_0_1 = some ⟨.type "tuple", ow_REQUESTS_k20_0_1, .seq #[.str "uint" tk_REQUESTS_k20_0_1_0, .str "uint" tk_REQUESTS_k20_0_1_1] nw_REQUESTS_k20_0_1, sw_REQUESTS_k20_0_1⟩)
    (w_REQUESTS_k20_1 : K.lookup a_REQUESTS_k20_1 = some ⟨.type "tuple", ow_REQUESTS_k20_1, .seq #[.str "destroy" tk_REQUESTS_k20_1_0, .ref a_REQUESTS_k20_1_1, .bool true] nw_REQUESTS_k20_1, sw_REQUESTS_k20_1⟩)
    (w_REQUESTS_k20_1_1 : K.lookup a_REQUESTS_k20_1_1 = some ⟨.type "tuple", ow_REQUESTS_k20_1_1, .seq #[] nw_REQUESTS_k20_1_1, sw_REQUESTS_k20_1_1⟩)
    (w_REQUESTS_k21 : K.lookup a_REQUESTS_k21 = some ⟨.type "tuple", ow_REQUESTS_k21, .seq #[.ref a_REQUESTS_k21_0, .ref a_REQUESTS_k21_1] nw_REQUESTS_k21, sw_REQUESTS_k21⟩)
    (w_REQUESTS_k21_0 : K.lookup a_REQUESTS_k21_0 = some ⟨.type "tuple", ow_REQUESTS_k21_0, .seq #[.str "read" tk_REQUESTS_k21_0_0, .ref a_REQUESTS_k21_0_1, .bool false] nw_REQUESTS_k21_0, sw_REQUESTS_k21_0⟩)
    (w_REQUESTS_k21_0_1 : K.lookup a_REQUESTS_k21_0_1 = some ⟨.type "tuple", ow_REQUESTS_k21_0_1, .seq #[.str "uint" tk_REQUESTS_k21_0_1_0, .str "uint" tk_REQUESTS_k21_0_1_1] nw_REQUESTS_k21_0_1, sw_REQUESTS_k21_0_1⟩)
    (w_REQUESTS_k21_1 : K.lookup a_REQUESTS_k21_1 = some ⟨.type "tuple", ow_REQUESTS_k21_1, .seq #[.str "destroy" tk_REQUESTS_k21_1_0, .ref a_REQUESTS_k21_1_1, .bool true] nw_REQUESTS_k21_1, sw_REQUESTS_k21_1⟩)
    (w_REQUESTS_k21_1_1 : K.lookup a_REQUESTS_k21_1_1 = some ⟨.type "tuple", ow_REQUESTS_k21_1_1, .seq #[] nw_REQUESTS_k21_1_1, sw_REQUESTS_k21_1_1⟩)
    (w_REQUESTS_k22 : K.lookup a_REQUESTS_k22 = some ⟨.type "tuple", ow_REQUESTS_k22, .seq #[.ref a_REQUESTS_k22_0] nw_REQUESTS_k22, sw_REQUESTS_k22⟩)
    (w_REQUESTS_k22_0 : K.lookup a_REQUESTS_k22_0 = some ⟨.type "tuple", ow_REQUESTS_k22_0, .seq #[.str "destroy" tk_REQUESTS_k22_0_0, .ref a_REQUESTS_k22_0_1, .bool true] nw_REQUESTS_k22_0, sw_REQUESTS_k22_0⟩)
    (w_REQUESTS_k22_0_1 : K.lookup a_REQUESTS_k22_0_1 = some ⟨.type "tuple", ow_REQUESTS_k22_0_1, .seq #[] nw_REQUESTS_k22_0_1, sw_REQUESTS_k22_0_1⟩)
    (q__EVENTS : PySem.W.nsIn K mainGlobals "_EVENTS" = some (some (.ref a_EVENTS)))
    (dl_EVENTS : K.lookup a_EVENTS = some ⟨.type "dict", none, .dict es_EVENTS nn_EVENTS, #[]⟩) (dk_EVENTS : PySem.W.KeysLit w.params es_EVENTS.toList)
    (dv_EVENTS : es_EVENTS.toList.map (fun e : DictEntry => e.key) = [.str "display" tk_EVENTS0, .str "callback" tk_EVENTS1, .str "registry" tk_EVENTS2, .str "buffer" tk_EVENTS3, .str "output" tk_EVENTS4, .str "window" tk_EVENTS5, .str "popup" tk_EVENTS6, .str "pointer" tk_EVENTS7, .str "keyboard" tk_EVENTS8, .str "transfer" tk_EVENTS9, .str "offer" tk_EVENTS10, .str "capture" tk_EVENTS11, .str "fetch" tk_EVENTS12, .str "watch" tk_EVENTS13]) (dy_EVENTS : (a_EVENTS == sysModules) = false)
    (de_EVENTS_k0 : PySem.W.nsIn K a_EVENTS "display" = some (some (.ref a_EVENTS_k0)))
    (de_EVENTS_k1 : PySem.W.nsIn K a_EVENTS "callback" = some (some (.ref a_EVENTS_k1)))
    (de_EVENTS_k2 : PySem.W.nsIn K a_EVENTS "registry" = some (some (.ref a_EVENTS_k2)))
    (de_EVENTS_k3 : PySem.W.nsIn K a_EVENTS "buffer" = some (some (.ref a_EVENTS_k3)))
    (de_EVENTS_k4 : PySem.W.nsIn K a_EVENTS "output" = some (some (.ref a_EVENTS_k4)))
    (de_EVENTS_k5 : PySem.W.nsIn K a_EVENTS "window" = some (some (.ref a_EVENTS_k5)))
    (de_EVENTS_k6 : PySem.W.nsIn K a_EVENTS "popup" = some (some (.ref a_EVENTS_k6)))
    (de_EVENTS_k7 : PySem.W.nsIn K a_EVENTS "pointer" = some (some (.ref a_EVENTS_k7)))
    (de_EVENTS_k8 : PySem.W.nsIn K a_EVENTS "keyboard" = some (some (.ref a_EVENTS_k8)))
    (de_EVENTS_k9 : PySem.W.nsIn K a_EVENTS "transfer" = some (some (.ref a_EVENTS_k9)))
    (de_EVENTS_k10 : PySem.W.nsIn K a_EVENTS "offer" = some (some (.ref a_EVENTS_k10)))
    (de_EVENTS_k11 : PySem.W.nsIn K a_EVENTS "capture" = some (some (.ref a_EVENTS_k11)))
    (de_EVENTS_k12 : PySem.W.nsIn K a_EVENTS "fetch" = some (some (.ref a_EVENTS_k12)))
    (de_EVENTS_k13 : PySem.W.nsIn K a_EVENTS "watch" = some (some (.ref a_EVENTS_k13)))
    (w_EVENTS_k0 : K.lookup a_EVENTS_k0 = some ⟨.type "tuple", ow_EVENTS_k0, .seq #[.ref a_EVENTS_k0_0, .ref a_EVENTS_k0_1] nw_EVENTS_k0, sw_EVENTS_k0⟩)
    (w_EVENTS_k0_0 : K.lookup a_EVENTS_k0_0 = some ⟨.type "tuple", ow_EVENTS_k0_0, .seq #[.str "error" tk_EVENTS_k0_0_0, .ref a_EVENTS_k0_0_1] nw_EVENTS_k0_0, sw_EVENTS_k0_0⟩)
    (w_EVENTS_k0_0_1 : K.lookup a_EVENTS_k0_0_1 = some ⟨.type "tuple", ow_EVENTS_k0_0_1, .seq #[.str "uint" tk_EVENTS_k0_0_1_0, .str "uint" tk_EVENTS_k0_0_1_1, .str "text" tk_EVENTS_k0_0_1_2] nw_EVENTS_k0_0_1, sw_EVENTS_k0_0_1⟩)
    (w_EVENTS_k0_1 : K.lookup a_EVENTS_k0_1 = some ⟨.type "tuple", ow_EVENTS_k0_1, .seq #[.str "removed" tk_EVENTS_k0_1_0, .ref a_EVENTS_k0_1_1] nw_EVENTS_k0_1, sw_EVENTS_k0_1⟩)
    (w_EVENTS_k0_1_1 : K.lookup a_EVENTS_k0_1_1 = some ⟨.type "tuple", ow_EVENTS_k0_1_1, .seq #[.str "uint" tk_EVENTS_k0_1_1_0] nw_EVENTS_k0_1_1, sw_EVENTS_k0_1_1⟩)
    (w_EVENTS_k1 : K.lookup a_EVENTS_k1 = some ⟨.type "tuple", ow_EVENTS_k1, .seq #[.ref a_EVENTS_k1_0] nw_EVENTS_k1, sw_EVENTS_k1⟩)
    (w_EVENTS_k1_0 : K.lookup a_EVENTS_k1_0 = some ⟨.type "tuple", ow_EVENTS_k1_0, .seq #[.str "done" tk_EVENTS_k1_0_0, .ref a_EVENTS_k1_0_1] nw_EVENTS_k1_0, sw_EVENTS_k1_0⟩)
    (w_EVENTS_k1_0_1 : K.lookup a_EVENTS_k1_0_1 = some ⟨.type "tuple", ow_EVENTS_k1_0_1, .seq #[.str "uint" tk_EVENTS_k1_0_1_0] nw_EVENTS_k1_0_1, sw_EVENTS_k1_0_1⟩)
    (w_EVENTS_k2 : K.lookup a_EVENTS_k2 = some ⟨.type "tuple", ow_EVENTS_k2, .seq #[.ref a_EVENTS_k2_0, .ref a_EVENTS_k2_1] nw_EVENTS_k2, sw_EVENTS_k2⟩)
    (w_EVENTS_k2_0 : K.lookup a_EVENTS_k2_0 = some ⟨.type "tuple", ow_EVENTS_k2_0, .seq #[.str "there" tk_EVENTS_k2_0_0, .ref a_EVENTS_k2_0_1] nw_EVENTS_k2_0, sw_EVENTS_k2_0⟩)
    (w_EVENTS_k2_0_1 : K.lookup a_EVENTS_k2_0_1 = some ⟨.type "tuple", ow_EVENTS_k2_0_1, .seq #[.str "uint" tk_EVENTS_k2_0_1_0, .str "text" tk_EVENTS_k2_0_1_1] nw_EVENTS_k2_0_1, sw_EVENTS_k2_0_1⟩)
    (w_EVENTS_k2_1 : K.lookup a_EVENTS_k2_1 = some ⟨.type "tuple", ow_EVENTS_k2_1, .seq #[.str "gone" tk_EVENTS_k2_1_0, .ref a_EVENTS_k2_1_1] nw_EVENTS_k2_1, sw_EVENTS_k2_1⟩)
    (w_EVENTS_k2_1_1 : K.lookup a_EVENTS_k2_1_1 = some ⟨.type "tuple", ow_EVENTS_k2_1_1, .seq #[.str "uint" tk_EVENTS_k2_1_1_0] nw_EVENTS_k2_1_1, sw_EVENTS_k2_1_1⟩)
    (w_EVENTS_k3 : K.lookup a_EVENTS_k3 = some ⟨.type "tuple", ow_EVENTS_k3, .seq #[.ref a_EVENTS_k3_0] nw_EVENTS_k3, sw_EVENTS_k3⟩)
    (w_EVENTS_k3_0 : K.lookup a_EVENTS_k3_0 = some ⟨.type "tuple", ow_EVENTS_k3_0, .seq #[.str "release" tk_EVENTS_k3_0_0, .ref a_EVENTS_k3_0_1] nw_EVENTS_k3_0, sw_EVENTS_k3_0⟩)
    (w_EVENTS_k3_0_1 : K.lookup a_EVENTS_k3_0_1 = some ⟨.type "tuple", ow_EVENTS_k3_0_1, .seq #[] nw_EVENTS_k3_0_1, sw_EVENTS_k3_0_1⟩)
    (w_EVENTS_k4 : K.lookup a_EVENTS_k4 = some ⟨.type "tuple", ow_EVENTS_k4, .seq #[.ref a_EVENTS_k4_0] nw_EVENTS_k4, sw_EVENTS_k4⟩)
    (w_EVENTS_k4_0 : K.lookup a_EVENTS_k4_0 = some ⟨.type "tuple", ow_EVENTS_k4_0, .seq #[.str "size" tk_EVENTS_k4_0_0, .ref a_EVENTS_k4_0_1] nw_EVENTS_k4_0, sw_EVENTS_k4_0⟩)
    (w_EVENTS_k4_0_1 : K.lookup a_EVENTS_k4_0_1 = some ⟨.type "tuple", ow_EVENTS_k4_0_1, .seq #[.str "uint" tk_EVENTS_k4_0_1_0, .str "uint" tk_EVENTS_k4_0_1_1, .str "uint" tk_EVENTS_k4_0_1_2, .str "uint" tk_EVENTS_k4_0_1_3] nw_EVENTS_k4_0_1, sw_EVENTS_k4_0_1⟩)
    (w_EVENTS_k5 : K.lookup a_EVENTS_k5 = some ⟨.type "tuple", ow_EVENTS_k5, .seq #[.ref a_EVENTS_k5_0, .ref a_EVENTS_k5_1, .ref a_EVENTS_k5_2, .ref a_EVENTS_k5_3] nw_EVENTS_k5, sw_EVENTS_k5⟩)
    (w_EVENTS_k5_0 : K.lookup a_EVENTS_k5_0 = some ⟨.type "tuple", ow_EVENTS_k5_0, .seq #[.str "configure" tk_EVENTS_k5_0_0, .ref a_EVENTS_k5_0_1] nw_EVENTS_k5_0, sw_EVENTS_k5_0⟩)
    (w_EVENTS_k5_0_1 : K.lookup a_EVENTS_k5_0_1 = some ⟨.type "tuple", ow_EVENTS_k5_0_1, .seq #[.str "uint" tk_EVENTS_k5_0_1_0, .str "uint" tk_EVENTS_k5_0_1_1, .str "uint" tk_EVENTS_k5_0_1_2, .str "uint" tk_EVENTS_k5_0_1_3] nw_EVENTS_k5_0_1, sw_EVENTS_k5_0_1⟩)
    (w_EVENTS_k5_1 : K.lookup a_EVENTS_k5_1 = some ⟨.type "tuple", ow_EVENTS_k5_1, .seq #[.str "close" tk_EVENTS_k5_1_0, .ref a_EVENTS_k5_1_1] nw_EVENTS_k5_1, sw_EVENTS_k5_1⟩)
    (w_EVENTS_k5_1_1 : K.lookup a_EVENTS_k5_1_1 = some ⟨.type "tuple", ow_EVENTS_k5_1_1, .seq #[] nw_EVENTS_k5_1_1, sw_EVENTS_k5_1_1⟩)
    (w_EVENTS_k5_2 : K.lookup a_EVENTS_k5_2 = some ⟨.type "tuple", ow_EVENTS_k5_2, .seq #[.str "output" tk_EVENTS_k5_2_0, .ref a_EVENTS_k5_2_1] nw_EVENTS_k5_2, sw_EVENTS_k5_2⟩)
    (w_EVENTS_k5_2_1 : K.lookup a_EVENTS_k5_2_1 = some ⟨.type "tuple", ow_EVENTS_k5_2_1, .seq #[.str "uint" tk_EVENTS_k5_2_1_0] nw_EVENTS_k5_2_1, sw_EVENTS_k5_2_1⟩)
    (w_EVENTS_k5_3 : K.lookup a_EVENTS_k5_3 = some ⟨.type "tuple", ow_EVENTS_k5_3, .seq #[.str "left" tk_EVENTS_k5_3_0, .ref a_EVENTS_k5_3_1] nw_EVENTS_k5_3, sw_EVENTS_k5_3⟩)
    (w_EVENTS_k5_3_1 : K.lookup a_EVENTS_k5_3_1 = some ⟨.type "tuple", ow_EVENTS_k5_3_1, .seq #[.str "uint" tk_EVENTS_k5_3_1_0] nw_EVENTS_k5_3_1, sw_EVENTS_k5_3_1⟩)
    (w_EVENTS_k6 : K.lookup a_EVENTS_k6 = some ⟨.type "tuple", ow_EVENTS_k6, .seq #[.ref a_EVENTS_k6_0, .ref a_EVENTS_k6_1] nw_EVENTS_k6, sw_EVENTS_k6⟩)
    (w_EVENTS_k6_0 : K.lookup a_EVENTS_k6_0 = some ⟨.type "tuple", ow_EVENTS_k6_0, .seq #[.str "placed" tk_EVENTS_k6_0_0, .ref a_EVENTS_k6_0_1] nw_EVENTS_k6_0, sw_EVENTS_k6_0⟩)
    (w_EVENTS_k6_0_1 : K.lookup a_EVENTS_k6_0_1 = some ⟨.type "tuple", ow_EVENTS_k6_0_1, .seq #[.str "int" tk_EVENTS_k6_0_1_0, .str "int" tk_EVENTS_k6_0_1_1, .str "uint" tk_EVENTS_k6_0_1_2, .str "uint" tk_EVENTS_k6_0_1_3] nw_EVENTS_k6_0_1, sw_EVENTS_k6_0_1⟩)
    (w_EVENTS_k6_1 : K.lookup a_EVENTS_k6_1 = some ⟨.type "tuple", ow_EVENTS_k6_1, .seq #[.str "done" tk_EVENTS_k6_1_0, .ref a_EVENTS_k6_1_1] nw_EVENTS_k6_1, sw_EVENTS_k6_1⟩)
    (w_EVENTS_k6_1_1 : K.lookup a_EVENTS_k6_1_1 = some ⟨.type "tuple", ow_EVENTS_k6_1_1, .seq #[] nw_EVENTS_k6_1_1, sw_EVENTS_k6_1_1⟩)
    (w_EVENTS_k7 : K.lookup a_EVENTS_k7 = some ⟨.type "tuple", ow_EVENTS_k7, .seq #[.ref a_EVENTS_k7_0, .ref a_EVENTS_k7_1, .ref a_EVENTS_k7_2, .ref a_EVENTS_k7_3, .ref a_EVENTS_k7_4] nw_EVENTS_k7, sw_EVENTS_k7⟩)
    (w_EVENTS_k7_0 : K.lookup a_EVENTS_k7_0 = some ⟨.type "tuple", ow_EVENTS_k7_0, .seq #[.str "enter" tk_EVENTS_k7_0_0, .ref a_EVENTS_k7_0_1] nw_EVENTS_k7_0, sw_EVENTS_k7_0⟩)
    (w_EVENTS_k7_0_1 : K.lookup a_EVENTS_k7_0_1 = some ⟨.type "tuple", ow_EVENTS_k7_0_1, .seq #[.str "object" tk_EVENTS_k7_0_1_0, .str "int" tk_EVENTS_k7_0_1_1, .str "int" tk_EVENTS_k7_0_1_2] nw_EVENTS_k7_0_1, sw_EVENTS_k7_0_1⟩)
    (w_EVENTS_k7_1 : K.lookup a_EVENTS_k7_1 = some ⟨.type "tuple", ow_EVENTS_k7_1, .seq #[.str "leave" tk_EVENTS_k7_1_0, .ref a_EVENTS_k7_1_1] nw_EVENTS_k7_1, sw_EVENTS_k7_1⟩)
    (w_EVENTS_k7_1_1 : K.lookup a_EVENTS_k7_1_1 = some ⟨.type "tuple", ow_EVENTS_k7_1_1, .seq #[.str "object" tk_EVENTS_k7_1_1_0] nw_EVENTS_k7_1_1, sw_EVENTS_k7_1_1⟩)
    (w_EVENTS_k7_2 : K.lookup a_EVENTS_k7_2 = some ⟨.type "tuple", ow_EVENTS_k7_2, .seq #[.str "motion" tk_EVENTS_k7_2_0, .ref a_EVENTS_k7_2_1] nw_EVENTS_k7_2, sw_EVENTS_k7_2⟩)
    (w_EVENTS_k7_2_1 : K.lookup a_EVENTS_k7_2_1 = some ⟨.type "tuple", ow_EVENTS_k7_2_1, .seq #[.str "int" tk_EVENTS_k7_2_1_0, .str "int" tk_EVENTS_k7_2_1_1, .str "uint" tk_EVENTS_k7_2_1_2] nw_EVENTS_k7_2_1, sw_EVENTS_k7_2_1⟩)
    (w_EVENTS_k7_3 : K.lookup a_EVENTS_k7_3 = some ⟨.type "tuple", ow_EVENTS_k7_3, .seq #[.str "button" tk_EVENTS_k7_3_0, .ref a_EVENTS_k7_3_1] nw_EVENTS_k7_3, sw_EVENTS_k7_3⟩)
    (w_EVENTS_k7_3_1 : K.lookup a_EVENTS_k7_3_1 = some ⟨.type "tuple", ow_EVENTS_k7_3_1, .seq #[.str "uint" tk_EVENTS_k7_3_1_0, .str "uint" tk_EVENTS_k7_3_1_1, .str "uint" tk_EVENTS_k7_3_1_2, .str "uint" tk_EVENTS_k7_3_1_3] nw_EVENTS_k7_3_1, sw_EVENTS_k7_3_1⟩)
    (w_EVENTS_k7_4 : K.lookup a_EVENTS_k7_4 = some ⟨.type "tuple", ow_EVENTS_k7_4, .seq #[.str "axis" tk_EVENTS_k7_4_0, .ref a_EVENTS_k7_4_1] nw_EVENTS_k7_4, sw_EVENTS_k7_4⟩)
    (w_EVENTS_k7_4_1 : K.lookup a_EVENTS_k7_4_1 = some ⟨.type "tuple", ow_EVENTS_k7_4_1, .seq #[.str "int" tk_EVENTS_k7_4_1_0, .str "int" tk_EVENTS_k7_4_1_1, .str "uint" tk_EVENTS_k7_4_1_2] nw_EVENTS_k7_4_1, sw_EVENTS_k7_4_1⟩)
    (w_EVENTS_k8 : K.lookup a_EVENTS_k8 = some ⟨.type "tuple", ow_EVENTS_k8, .seq #[.ref a_EVENTS_k8_0, .ref a_EVENTS_k8_1, .ref a_EVENTS_k8_2, .ref a_EVENTS_k8_3, .ref a_EVENTS_k8_4] nw_EVENTS_k8, sw_EVENTS_k8⟩)
    (w_EVENTS_k8_0 : K.lookup a_EVENTS_k8_0 = some ⟨.type "tuple", ow_EVENTS_k8_0, .seq #[.str "keymap" tk_EVENTS_k8_0_0, .ref a_EVENTS_k8_0_1] nw_EVENTS_k8_0, sw_EVENTS_k8_0⟩)
    (w_EVENTS_k8_0_1 : K.lookup a_EVENTS_k8_0_1 = some ⟨.type "tuple", ow_EVENTS_k8_0_1, .seq #[.str "text" tk_EVENTS_k8_0_1_0] nw_EVENTS_k8_0_1, sw_EVENTS_k8_0_1⟩)
    (w_EVENTS_k8_1 : K.lookup a_EVENTS_k8_1 = some ⟨.type "tuple", ow_EVENTS_k8_1, .seq #[.str "enter" tk_EVENTS_k8_1_0, .ref a_EVENTS_k8_1_1] nw_EVENTS_k8_1, sw_EVENTS_k8_1⟩)
    (w_EVENTS_k8_1_1 : K.lookup a_EVENTS_k8_1_1 = some ⟨.type "tuple", ow_EVENTS_k8_1_1, .seq #[.str "object" tk_EVENTS_k8_1_1_0] nw_EVENTS_k8_1_1, sw_EVENTS_k8_1_1⟩)
    (w_EVENTS_k8_2 : K.lookup a_EVENTS_k8_2 = some ⟨.type "tuple", ow_EVENTS_k8_2, .seq #[.str "leave" tk_EVENTS_k8_2_0, .ref a_EVENTS_k8_2_1] nw_EVENTS_k8_2, sw_EVENTS_k8_2⟩)
    (w_EVENTS_k8_2_1 : K.lookup a_EVENTS_k8_2_1 = some ⟨.type "tuple", ow_EVENTS_k8_2_1, .seq #[.str "object" tk_EVENTS_k8_2_1_0] nw_EVENTS_k8_2_1, sw_EVENTS_k8_2_1⟩)
    (w_EVENTS_k8_3 : K.lookup a_EVENTS_k8_3 = some ⟨.type "tuple", ow_EVENTS_k8_3, .seq #[.str "key" tk_EVENTS_k8_3_0, .ref a_EVENTS_k8_3_1] nw_EVENTS_k8_3, sw_EVENTS_k8_3⟩)
    (w_EVENTS_k8_3_1 : K.lookup a_EVENTS_k8_3_1 = some ⟨.type "tuple", ow_EVENTS_k8_3_1, .seq #[.str "uint" tk_EVENTS_k8_3_1_0, .str "uint" tk_EVENTS_k8_3_1_1, .str "uint" tk_EVENTS_k8_3_1_2, .str "uint" tk_EVENTS_k8_3_1_3] nw_EVENTS_k8_3_1, sw_EVENTS_k8_3_1⟩)
    (w_EVENTS_k8_4 : K.lookup a_EVENTS_k8_4 = some ⟨.type "tuple", ow_EVENTS_k8_4, .seq #[.str "symbol" tk_EVENTS_k8_4_0, .ref a_EVENTS_k8_4_1] nw_EVENTS_k8_4, sw_EVENTS_k8_4⟩)
    (w_EVENTS_k8_4_1 : K.lookup a_EVENTS_k8_4_1 = some ⟨.type "tuple", ow_EVENTS_k8_4_1, .seq #[.str "text" tk_EVENTS_k8_4_1_0, .str "text" tk_EVENTS_k8_4_1_1, .str "uint" tk_EVENTS_k8_4_1_2] nw_EVENTS_k8_4_1, sw_EVENTS_k8_4_1⟩)
    (w_EVENTS_k9 : K.lookup a_EVENTS_k9 = some ⟨.type "tuple", ow_EVENTS_k9, .seq #[.ref a_EVENTS_k9_0, .ref a_EVENTS_k9_1, .ref a_EVENTS_k9_2, .ref a_EVENTS_k9_3, .ref a_EVENTS_k9_4, .ref a_EVENTS_k9_5] nw_EVENTS_k9, sw_EVENTS_k9⟩)
    (w_EVENTS_k9_0 : K.lookup a_EVENTS_k9_0 = some ⟨.type "tuple", ow_EVENTS_k9_0, .seq #[.str "offer" tk_EVENTS_k9_0_0, .ref a_EVENTS_k9_0_1] nw_EVENTS_k9_0, sw_EVENTS_k9_0⟩)
    (w_EVENTS_k9_0_1 : K.lookup a_EVENTS_k9_0_1 = some ⟨.type "tuple", ow_EVENTS_k9_0_1, .seq #[.str "new" tk_EVENTS_k9_0_1_0, .str "uint" tk_EVENTS_k9_0_1_1] nw_EVENTS_k9_0_1, sw_EVENTS_k9_0_1⟩)
    (w_EVENTS_k9_1 : K.lookup a_EVENTS_k9_1 = some ⟨.type "tuple", ow_EVENTS_k9_1, .seq #[.str "hover" tk_EVENTS_k9_1_0, .ref a_EVENTS_k9_1_1] nw_EVENTS_k9_1, sw_EVENTS_k9_1⟩)
    (w_EVENTS_k9_1_1 : K.lookup a_EVENTS_k9_1_1 = some ⟨.type "tuple", ow_EVENTS_k9_1_1, .seq #[.str "object" tk_EVENTS_k9_1_1_0, .str "int" tk_EVENTS_k9_1_1_1, .str "int" tk_EVENTS_k9_1_1_2] nw_EVENTS_k9_1_1, sw_EVENTS_k9_1_1⟩)
    (w_EVENTS_k9_2 : K.lookup a_EVENTS_k9_2 = some ⟨.type "tuple", ow_EVENTS_k9_2, .seq #[.str "hover_kind" tk_EVENTS_k9_2_0, .ref a_EVENTS_k9_2_1] nw_EVENTS_k9_2, sw_EVENTS_k9_2⟩)
    (w_EVENTS_k9_2_1 : K.lookup a_EVENTS_k9_2_1 = some ⟨.type "tuple", ow_EVENTS_k9_2_1, .seq #[.str "text" tk_EVENTS_k9_2_1_0] nw_EVENTS_k9_2_1, sw_EVENTS_k9_2_1⟩)
    (w_EVENTS_k9_3 : K.lookup a_EVENTS_k9_3 = some ⟨.type "tuple", ow_EVENTS_k9_3, .seq #[.str "moved" tk_EVENTS_k9_3_0, .ref a_EVENTS_k9_3_1] nw_EVENTS_k9_3, sw_EVENTS_k9_3⟩)
    (w_EVENTS_k9_3_1 : K.lookup a_EVENTS_k9_3_1 = some ⟨.type "tuple", ow_EVENTS_k9_3_1, .seq #[.str "uint" tk_EVENTS_k9_3_1_0, .str "int" tk_EVENTS_k9_3_1_1, .str "int" tk_EVENTS_k9_3_1_2] nw_EVENTS_k9_3_1, sw_EVENTS_k9_3_1⟩)
    (w_EVENTS_k9_4 : K.lookup a_EVENTS_k9_4 = some ⟨.type "tuple", ow_EVENTS_k9_4, .seq #[.str "away" tk_EVENTS_k9_4_0, .ref a_EVENTS_k9_4_1] nw_EVENTS_k9_4, sw_EVENTS_k9_4⟩)
    (w_EVENTS_k9_4_1 : K.lookup a_EVENTS_k9_4_1 = some ⟨.type "tuple", ow_EVENTS_k9_4_1, .seq #[] nw_EVENTS_k9_4_1, sw_EVENTS_k9_4_1⟩)
    (w_EVENTS_k9_5 : K.lookup a_EVENTS_k9_5 = some ⟨.type "tuple", ow_EVENTS_k9_5, .seq #[.str "ended" tk_EVENTS_k9_5_0, .ref a_EVENTS_k9_5_1] nw_EVENTS_k9_5, sw_EVENTS_k9_5⟩)
    (w_EVENTS_k9_5_1 : K.lookup a_EVENTS_k9_5_1 = some ⟨.type "tuple", ow_EVENTS_k9_5_1, .seq #[] nw_EVENTS_k9_5_1, sw_EVENTS_k9_5_1⟩)
    (w_EVENTS_k10 : K.lookup a_EVENTS_k10 = some ⟨.type "tuple", ow_EVENTS_k10, .seq #[.ref a_EVENTS_k10_0, .ref a_EVENTS_k10_1] nw_EVENTS_k10, sw_EVENTS_k10⟩)
    (w_EVENTS_k10_0 : K.lookup a_EVENTS_k10_0 = some ⟨.type "tuple", ow_EVENTS_k10_0, .seq #[.str "kind" tk_EVENTS_k10_0_0, .ref a_EVENTS_k10_0_1] nw_EVENTS_k10_0, sw_EVENTS_k10_0⟩)
    (w_EVENTS_k10_0_1 : K.lookup a_EVENTS_k10_0_1 = some ⟨.type "tuple", ow_EVENTS_k10_0_1, .seq #[.str "text" tk_EVENTS_k10_0_1_0, .str "uint" tk_EVENTS_k10_0_1_1] nw_EVENTS_k10_0_1, sw_EVENTS_k10_0_1⟩)
    (w_EVENTS_k10_1 : K.lookup a_EVENTS_k10_1 = some ⟨.type "tuple", ow_EVENTS_k10_1, .seq #[.str "part" tk_EVENTS_k10_1_0, .ref a_EVENTS_k10_1_1] nw_EVENTS_k10_1, sw_EVENTS_k10_1⟩)
    (w_EVENTS_k10_1_1 : K.lookup a_EVENTS_k10_1_1 = some ⟨.type "tuple", ow_EVENTS_k10_1_1, .seq #[.str "text" tk_EVENTS_k10_1_1_0, .str "uint" tk_EVENTS_k10_1_1_1, .str "octets" tk_EVENTS_k10_1_1_2] nw_EVENTS_k10_1_1, sw_EVENTS_k10_1_1⟩)
    (w_EVENTS_k11 : K.lookup a_EVENTS_k11 = some ⟨.type "tuple", ow_EVENTS_k11, .seq #[.ref a_EVENTS_k11_0, .ref a_EVENTS_k11_1, .ref a_EVENTS_k11_2] nw_EVENTS_k11, sw_EVENTS_k11⟩)
    (w_EVENTS_k11_0 : K.lookup a_EVENTS_k11_0 = some ⟨.type "tuple", ow_EVENTS_k11_0, .seq #[.str "allowed" tk_EVENTS_k11_0_0, .ref a_EVENTS_k11_0_1] nw_EVENTS_k11_0, sw_EVENTS_k11_0⟩)
    (w_EVENTS_k11_0_1 : K.lookup a_EVENTS_k11_0_1 = some ⟨.type "tuple", ow_EVENTS_k11_0_1, .seq #[.str "uint" tk_EVENTS_k11_0_1_0, .str "uint" tk_EVENTS_k11_0_1_1] nw_EVENTS_k11_0_1, sw_EVENTS_k11_0_1⟩)
    (w_EVENTS_k11_1 : K.lookup a_EVENTS_k11_1 = some ⟨.type "tuple", ow_EVENTS_k11_1, .seq #[.str "refused" tk_EVENTS_k11_1_0, .ref a_EVENTS_k11_1_1] nw_EVENTS_k11_1, sw_EVENTS_k11_1⟩)
    (w_EVENTS_k11_1_1 : K.lookup a_EVENTS_k11_1_1 = some ⟨.type "tuple", ow_EVENTS_k11_1_1, .seq #[] nw_EVENTS_k11_1_1, sw_EVENTS_k11_1_1⟩)
    (w_EVENTS_k11_2 : K.lookup a_EVENTS_k11_2 = some ⟨.type "tuple", ow_EVENTS_k11_2, .seq #[.str "rows" tk_EVENTS_k11_2_0, .ref a_EVENTS_k11_2_1] nw_EVENTS_k11_2, sw_EVENTS_k11_2⟩)
    (w_EVENTS_k11_2_1 : K.lookup a_EVENTS_k11_2_1 = some ⟨.type "tuple", ow_EVENTS_k11_2_1, .seq #[.str "uint" tk_EVENTS_k11_2_1_0, .str "octets" tk_EVENTS_k11_2_1_1] nw_EVENTS_k11_2_1, sw_EVENTS_k11_2_1⟩)
    (w_EVENTS_k12 : K.lookup a_EVENTS_k12 = some ⟨.type "tuple", ow_EVENTS_k12, .seq #[.ref a_EVENTS_k12_0, .ref a_EVENTS_k12_1, .ref a_EVENTS_k12_2] nw_EVENTS_k12, sw_EVENTS_k12⟩)
    (w_EVENTS_k12_0 : K.lookup a_EVENTS_k12_0 = some ⟨.type "tuple", ow_EVENTS_k12_0, .seq #[.str "changed" tk_EVENTS_k12_0_0, .ref a_EVENTS_k12_0_1] nw_EVENTS_k12_0, sw_EVENTS_k12_0⟩)
    (w_EVENTS_k12_0_1 : K.lookup a_EVENTS_k12_0_1 = some ⟨.type "tuple", ow_EVENTS_k12_0_1, .seq #[.str "uint" tk_EVENTS_k12_0_1_0] nw_EVENTS_k12_0_1, sw_EVENTS_k12_0_1⟩)
    (w_EVENTS_k12_1 : K.lookup a_EVENTS_k12_1 = some ⟨.type "tuple", ow_EVENTS_k12_1, .seq #[.str "gone" tk_EVENTS_k12_1_0, .ref a_EVENTS_k12_1_1] nw_EVENTS_k12_1, sw_EVENTS_k12_1⟩)
    (w_EVENTS_k12_1_1 : K.lookup a_EVENTS_k12_1_1 = some ⟨.type "tuple", ow_EVENTS_k12_1_1, .seq #[] nw_EVENTS_k12_1_1, sw_EVENTS_k12_1_1⟩)
    (w_EVENTS_k12_2 : K.lookup a_EVENTS_k12_2 = some ⟨.type "tuple", ow_EVENTS_k12_2, .seq #[.str "part" tk_EVENTS_k12_2_0, .ref a_EVENTS_k12_2_1] nw_EVENTS_k12_2, sw_EVENTS_k12_2⟩)
    (w_EVENTS_k12_2_1 : K.lookup a_EVENTS_k12_2_1 = some ⟨.type "tuple", ow_EVENTS_k12_2_1, .seq #[.str "uint" tk_EVENTS_k12_2_1_0, .str "octets" tk_EVENTS_k12_2_1_1] nw_EVENTS_k12_2_1, sw_EVENTS_k12_2_1⟩)
    (w_EVENTS_k13 : K.lookup a_EVENTS_k13 = some ⟨.type "tuple", ow_EVENTS_k13, .seq #[.ref a_EVENTS_k13_0, .ref a_EVENTS_k13_1] nw_EVENTS_k13, sw_EVENTS_k13⟩)
    (w_EVENTS_k13_0 : K.lookup a_EVENTS_k13_0 = some ⟨.type "tuple", ow_EVENTS_k13_0, .seq #[.str "there" tk_EVENTS_k13_0_0, .ref a_EVENTS_k13_0_1] nw_EVENTS_k13_0, sw_EVENTS_k13_0⟩)
    (w_EVENTS_k13_0_1 : K.lookup a_EVENTS_k13_0_1 = some ⟨.type "tuple", ow_EVENTS_k13_0_1, .seq #[] nw_EVENTS_k13_0_1, sw_EVENTS_k13_0_1⟩)
    (w_EVENTS_k13_1 : K.lookup a_EVENTS_k13_1 = some ⟨.type "tuple", ow_EVENTS_k13_1, .seq #[.str "gone" tk_EVENTS_k13_1_0, .ref a_EVENTS_k13_1_1] nw_EVENTS_k13_1, sw_EVENTS_k13_1⟩)
    (w_EVENTS_k13_1_1 : K.lookup a_EVENTS_k13_1_1 = some ⟨.type "tuple", ow_EVENTS_k13_1_1, .seq #[] nw_EVENTS_k13_1_1, sw_EVENTS_k13_1_1⟩)
    (uBadMessage : PySem.W.nsIn K mainGlobals "BadMessage" = some (some (.ref CBadMessage))) (xBadMessage : PySem.W.excIn K CBadMessage [.type "ValueError", .type "Exception", .type "BaseException", .type "object"] "ValueError.__new__" = true) (keBadMessage : PySem.W.keepIn K (.ref CBadMessage) = true) (bxBadMessage : PySem.W.subIn K (.ref CBadMessage) (.type "BaseException") = some true) (txBadMessage : PySem.W.typeIn K (.ref CBadMessage) = some (.type "type")) (ixBadMessage : PySem.W.isClsIn K CBadMessage = true) (sxBadMessage : PySem.W.subIn K (.ref CBadMessage) (.ref CBadMessage) = some true)
    (uMessageTooLong : PySem.W.nsIn K mainGlobals "MessageTooLong" = some (some (.ref CMessageTooLong))) (xMessageTooLong : PySem.W.excIn K CMessageTooLong [.type "ValueError", .type "Exception", .type "BaseException", .type "object"] "ValueError.__new__" = true) (keMessageTooLong : PySem.W.keepIn K (.ref CMessageTooLong) = true) (bxMessageTooLong : PySem.W.subIn K (.ref CMessageTooLong) (.type "BaseException") = some true) (txMessageTooLong : PySem.W.typeIn K (.ref CMessageTooLong) = some (.type "type")) (ixMessageTooLong : PySem.W.isClsIn K CMessageTooLong = true) (sxMessageTooLong : PySem.W.subIn K (.ref CMessageTooLong) (.ref CMessageTooLong) = some true)
    : ∃ A : Adr, A.flaw = fa ∧ Txt K mg A ∧ Dic w K A ∧ (∀ (s : Shared) (v : Value), BindsTo s A.dlaw ⟨[v], []⟩ [("script", v)]) := by
  have e := hfa.symm.trans (PySem.W.mg_of X G a31)
  cases e
  have F1 := fun_mk (st := s_is_integer) l1 c1 k1
  have b1 := F1.binds (ps := ["value", "least", "greatest"]) fun _ _ _ _ _ _ us hl => match us, hl with | [_, _, _], _ => rfl
  have F2 := fun_mk (st := s_is_text) l2 c2 k2
  have b2 := F2.binds (ps := ["value"]) fun _ _ _ _ _ _ us hl => match us, hl with | [_], _ => rfl
  have F3 := fun_mk (st := s_number_octets) l3 c3 k3
  have b3 := F3.binds (ps := ["number", "count"]) fun _ _ _ _ _ _ us hl => match us, hl with | [_, _], _ => rfl
  have F4 := fun_mk (st := s_field_octets) l4 c4 k4
  have b4 := F4.binds (ps := ["kind", "value"]) fun _ _ _ _ _ _ us hl => match us, hl with | [_, _], _ => rfl
  have F5 := fun_mk (st := s__is_code) l5 c5 k5
  have b5 := F5.binds (ps := ["code"]) fun _ _ _ _ _ _ us hl => match us, hl with | [_], _ => rfl
  have F6 := fun_mk (st := s__is_of) l6 c6 k6
  have b6 := F6.binds (ps := ["kind", "value"]) fun _ _ _ _ _ _ us hl => match us, hl with | [_, _], _ => rfl
  have F7 := fun_mk (st := s__are_octets) l7 c7 k7
  have b7 := F7.binds (ps := ["value"]) fun _ _ _ _ _ _ us hl => match us, hl with | [_], _ => rfl
  have F8 := fun_mk (st := s__is_bound) l8 c8 k8
  have b8 := F8.binds (ps := ["value"]) fun _ _ _ _ _ _ us hl => match us, hl with | [_], _ => rfl
  have F9 := fun_mk (st := s__text_octets) l9 c9 k9
  have b9 := F9.binds (ps := ["text"]) fun _ _ _ _ _ _ us hl => match us, hl with | [_], _ => rfl
  have F10 := fun_mk (st := s__padded) l10 c10 k10
  have b10 := F10.binds (ps := ["octets"]) fun _ _ _ _ _ _ us hl => match us, hl with | [_], _ => rfl
  have F11 := fun_mk (st := s_encode_message) l11 c11 k11
  have b11 := F11.binds (ps := ["number", "opcode", "arguments"]) fun _ _ _ _ _ _ us hl => match us, hl with | [_, _, _], _ => rfl
  have F12 := fun_mk (st := s_interface_names) l12 c12 k12
  have b12 := F12.binds (ps := []) fun _ _ _ _ _ _ us hl => match us, hl with | [], _ => rfl
  have F13 := fun_mk (st := s_request_row) l13 c13 k13
  have b13 := F13.binds (ps := ["interface", "opcode"]) fun _ _ _ _ _ _ us hl => match us, hl with | [_, _], _ => rfl
  have F14 := fun_mk (st := s_request_opcode) l14 c14 k14
  have b14 := F14.binds (ps := ["interface", "name"]) fun _ _ _ _ _ _ us hl => match us, hl with | [_, _], _ => rfl
  have F15 := fun_mk (st := s_event_row) l15 c15 k15
  have b15 := F15.binds (ps := ["interface", "opcode"]) fun _ _ _ _ _ _ us hl => match us, hl with | [_, _], _ => rfl
  have F16 := fun_mk (st := s_event_octets) l16 c16 k16
  have b16 := F16.binds (ps := ["number", "interface", "name", "values"]) fun _ _ _ _ _ _ us hl => match us, hl with | [_, _, _, _], _ => rfl
  have F17 := fun_mk (st := s__row_at) l17 c17 k17
  have b17 := F17.binds (ps := ["rows", "opcode"]) fun _ _ _ _ _ _ us hl => match us, hl with | [_, _], _ => rfl
  have F18 := fun_mk (st := s__opcode_of) l18 c18 k18
  have b18 := F18.binds (ps := ["rows", "name"]) fun _ _ _ _ _ _ us hl => match us, hl with | [_, _], _ => rfl
  have F19 := fun_mk (st := s__law_cell) l19 c19 k19
  have b19 := F19.binds (ps := ["script", "k"]) fun _ _ _ _ _ _ us hl => match us, hl with | [_, _], _ => rfl
  have F20 := fun_mk (st := s__law_row) l20 c20 k20
  have b20 := F20.binds (ps := ["script", "k"]) fun _ _ _ _ _ _ us hl => match us, hl with | [_, _], _ => rfl
  have F21 := fun_mk (st := s__law_rows) l21 c21 k21
  have b21 := F21.binds (ps := []) fun _ _ _ _ _ _ us hl => match us, hl with | [], _ => rfl
  have F22 := fun_mk (st := s__law_list) l22 c22 k22
  have b22 := F22.binds (ps := ["text"]) fun _ _ _ _ _ _ us hl => match us, hl with | [_], _ => rfl
  have F23 := fun_mk (st := s__law_split) l23 c23 k23
  have b23 := F23.binds (ps := ["text"]) fun _ _ _ _ _ _ us hl => match us, hl with | [_], _ => rfl
  have F24 := fun_mk (st := s__law_table) l24 c24 k24
  have b24 := F24.binds (ps := []) fun _ _ _ _ _ _ us hl => match us, hl with | [], _ => rfl
  have F25 := fun_mk (st := s__law_sign) l25 c25 k25
  have b25 := F25.binds (ps := ["digit"]) fun _ _ _ _ _ _ us hl => match us, hl with | [_], _ => rfl
  have F26 := fun_mk (st := s__law_text) l26 c26 k26
  have b26 := F26.binds (ps := ["row", "size"]) fun _ _ _ _ _ _ us hl => match us, hl with | [_, _], _ => rfl
  have F27 := fun_mk (st := s__law_octets) l27 c27 k27
  have b27 := F27.binds (ps := ["row", "size"]) fun _ _ _ _ _ _ us hl => match us, hl with | [_, _], _ => rfl
  have F28 := fun_mk (st := s__law_value) l28 c28 k28
  have b28 := F28.binds (ps := ["kind", "row"]) fun _ _ _ _ _ _ us hl => match us, hl with | [_, _], _ => rfl
  have F29 := fun_mk (st := s__law_row_fits) l29 c29 k29
  have b29 := F29.binds (ps := ["row"]) fun _ _ _ _ _ _ us hl => match us, hl with | [_], _ => rfl
  have F30 := fun_mk (st := s__law_event_fits) l30 c30 k30
  have b30 := F30.binds (ps := ["row", "number", "cell"]) fun _ _ _ _ _ _ us hl => match us, hl with | [_, _, _], _ => rfl
  have F31 := fun_mk (st := s_law) l31 c31 k31
  have b31 := F31.binds (ps := ["script"]) fun _ _ _ _ _ _ us hl => match us, hl with | [_], _ => rfl
  refine ⟨{ fis_integer := fis_integer, dis_integer := (PySem.W.fnOf "is_integer" "is_integer" (defArgs s_is_integer) (defBody s_is_integer) (defScope s_is_integer) .none kV1 dc1 pm1 an1 cd1 ct1), fis_text := fis_text, dis_text := (PySem.W.fnOf "is_text" "is_text" (defArgs s_is_text) (defBody s_is_text) (defScope s_is_text) .none kV2 dc2 pm2 an2 cd2 ct2), fnumber_octets := fnumber_octets, dnumber_octets := (PySem.W.fnOf "number_octets" "number_octets" (defArgs s_number_octets) (defBody s_number_octets) (defScope s_number_octets) .none kV3 dc3 pm3 an3 cd3 ct3), ffield_octets := ffield_octets, dfield_octets := (PySem.W.fnOf "field_octets" "field_octets" (defArgs s_field_octets) (defBody s_field_octets) (defScope s_field_octets) .none kV4 dc4 pm4 an4 cd4 ct4), f_is_code := f_is_code, d_is_code := (PySem.W.fnOf "_is_code" "_is_code" (defArgs s__is_code) (defBody s__is_code) (defScope s__is_code) .none kV5 dc5 pm5 an5 cd5 ct5), f_is_of := f_is_of, d_is_of := (PySem.W.fnOf "_is_of" "_is_of" (defArgs s__is_of) (defBody s__is_of) (defScope s__is_of) .none kV6 dc6 pm6 an6 cd6 ct6), f_are_octets := f_are_octets, d_are_octets := (PySem.W.fnOf "_are_octets" "_are_octets" (defArgs s__are_octets) (defBody s__are_octets) (defScope s__are_octets) .none kV7 dc7 pm7 an7 cd7 ct7), f_is_bound := f_is_bound, d_is_bound := (PySem.W.fnOf "_is_bound" "_is_bound" (defArgs s__is_bound) (defBody s__is_bound) (defScope s__is_bound) .none kV8 dc8 pm8 an8 cd8 ct8), f_text_octets := f_text_octets, d_text_octets := (PySem.W.fnOf "_text_octets" "_text_octets" (defArgs s__text_octets) (defBody s__text_octets) (defScope s__text_octets) .none kV9 dc9 pm9 an9 cd9 ct9), f_padded := f_padded, d_padded := (PySem.W.fnOf "_padded" "_padded" (defArgs s__padded) (defBody s__padded) (defScope s__padded) .none kV10 dc10 pm10 an10 cd10 ct10), fencode_message := fencode_message, dencode_message := (PySem.W.fnOf "encode_message" "encode_message" (defArgs s_encode_message) (defBody s_encode_message) (defScope s_encode_message) .none kV11 dc11 pm11 an11 cd11 ct11), finterface_names := finterface_names, dinterface_names := (PySem.W.fnOf "interface_names" "interface_names" (defArgs s_interface_names) (defBody s_interface_names) (defScope s_interface_names) .none kV12 dc12 pm12 an12 cd12 ct12), frequest_row := frequest_row, drequest_row := (PySem.W.fnOf "request_row" "request_row" (defArgs s_request_row) (defBody s_request_row) (defScope s_request_row) .none kV13 dc13 pm13 an13 cd13 ct13), frequest_opcode := frequest_opcode, drequest_opcode := (PySem.W.fnOf "request_opcode" "request_opcode" (defArgs s_request_opcode) (defBody s_request_opcode) (defScope s_request_opcode) .none kV14 dc14 pm14 an14 cd14 ct14), fevent_row := fevent_row, devent_row := (PySem.W.fnOf "event_row" "event_row" (defArgs s_event_row) (defBody s_event_row) (defScope s_event_row) .none kV15 dc15 pm15 an15 cd15 ct15), fevent_octets := fevent_octets, devent_octets := (PySem.W.fnOf "event_octets" "event_octets" (defArgs s_event_octets) (defBody s_event_octets) (defScope s_event_octets) .none kV16 dc16 pm16 an16 cd16 ct16), f_row_at := f_row_at, d_row_at := (PySem.W.fnOf "_row_at" "_row_at" (defArgs s__row_at) (defBody s__row_at) (defScope s__row_at) .none kV17 dc17 pm17 an17 cd17 ct17), f_opcode_of := f_opcode_of, d_opcode_of := (PySem.W.fnOf "_opcode_of" "_opcode_of" (defArgs s__opcode_of) (defBody s__opcode_of) (defScope s__opcode_of) .none kV18 dc18 pm18 an18 cd18 ct18), f_law_cell := f_law_cell, d_law_cell := (PySem.W.fnOf "_law_cell" "_law_cell" (defArgs s__law_cell) (defBody s__law_cell) (defScope s__law_cell) .none kV19 dc19 pm19 an19 cd19 ct19), f_law_row := f_law_row, d_law_row := (PySem.W.fnOf "_law_row" "_law_row" (defArgs s__law_row) (defBody s__law_row) (defScope s__law_row) .none kV20 dc20 pm20 an20 cd20 ct20), f_law_rows := f_law_rows, d_law_rows := (PySem.W.fnOf "_law_rows" "_law_rows" (defArgs s__law_rows) (defBody s__law_rows) (defScope s__law_rows) .none kV21 dc21 pm21 an21 cd21 ct21), f_law_list := f_law_list, d_law_list := (PySem.W.fnOf "_law_list" "_law_list" (defArgs s__law_list) (defBody s__law_list) (defScope s__law_list) .none kV22 dc22 pm22 an22 cd22 ct22), f_law_split := f_law_split, d_law_split := (PySem.W.fnOf "_law_split" "_law_split" (defArgs s__law_split) (defBody s__law_split) (defScope s__law_split) .none kV23 dc23 pm23 an23 cd23 ct23), f_law_table := f_law_table, d_law_table := (PySem.W.fnOf "_law_table" "_law_table" (defArgs s__law_table) (defBody s__law_table) (defScope s__law_table) .none kV24 dc24 pm24 an24 cd24 ct24), f_law_sign := f_law_sign, d_law_sign := (PySem.W.fnOf "_law_sign" "_law_sign" (defArgs s__law_sign) (defBody s__law_sign) (defScope s__law_sign) .none kV25 dc25 pm25 an25 cd25 ct25), f_law_text := f_law_text, d_law_text := (PySem.W.fnOf "_law_text" "_law_text" (defArgs s__law_text) (defBody s__law_text) (defScope s__law_text) .none kV26 dc26 pm26 an26 cd26 ct26), f_law_octets := f_law_octets, d_law_octets := (PySem.W.fnOf "_law_octets" "_law_octets" (defArgs s__law_octets) (defBody s__law_octets) (defScope s__law_octets) .none kV27 dc27 pm27 an27 cd27 ct27), f_law_value := f_law_value, d_law_value := (PySem.W.fnOf "_law_value" "_law_value" (defArgs s__law_value) (defBody s__law_value) (defScope s__law_value) .none kV28 dc28 pm28 an28 cd28 ct28), f_law_row_fits := f_law_row_fits, d_law_row_fits := (PySem.W.fnOf "_law_row_fits" "_law_row_fits" (defArgs s__law_row_fits) (defBody s__law_row_fits) (defScope s__law_row_fits) .none kV29 dc29 pm29 an29 cd29 ct29), f_law_event_fits := f_law_event_fits, d_law_event_fits := (PySem.W.fnOf "_law_event_fits" "_law_event_fits" (defArgs s__law_event_fits) (defBody s__law_event_fits) (defScope s__law_event_fits) .none kV30 dc30 pm30 an30 cd30 ct30), flaw := fa, dlaw := (PySem.W.fnOf "law" "law" (defArgs s_law) (defBody s_law) (defScope s_law) .none kV31 dc31 pm31 an31 cd31 ct31), tGREATEST_NUMBER := tGREATEST_NUMBER, tLEAST_INT := tLEAST_INT, tGREATEST_INT := tGREATEST_INT, tLONGEST_TEXT := tLONGEST_TEXT, tMOST_OCTETS := tMOST_OCTETS, t_FIRST_CODE := t_FIRST_CODE, t_LAST_CODE := t_LAST_CODE, t_PERCENT_CODE := t_PERCENT_CODE, tHEADER_SIZE := tHEADER_SIZE, tGREATEST_SIZE := tGREATEST_SIZE, tGREATEST_OPCODE := tGREATEST_OPCODE, tMOST_ARGUMENTS := tMOST_ARGUMENTS, a_REQUESTS := a_REQUESTS, a_REQUESTS_k0 := a_REQUESTS_k0, a_REQUESTS_k0_0 := a_REQUESTS_k0_0, a_REQUESTS_k0_0_1 := a_REQUESTS_k0_0_1, a_REQUESTS_k0_1 := a_REQUESTS_k0_1, a_REQUESTS_k0_1_1 := a_REQUESTS_k0_1_1, a_REQUESTS_k1 := a_REQUESTS_k1, a_REQUESTS_k2 := a_REQUESTS_k2, a_REQUESTS_k2_0 := a_REQUESTS_k2_0, a_REQUESTS_k2_0_1 := a_REQUESTS_k2_0_1, a_REQUESTS_k3 := a_REQUESTS_k3, a_REQUESTS_k3_0 := a_REQUESTS_k3_0, a_REQUESTS_k3_0_1 := a_REQUESTS_k3_0_1, a_REQUESTS_k3_1 := a_REQUESTS_k3_1, a_REQUESTS_k3_1_1 := a_REQUESTS_k3_1_1, a_REQUESTS_k4 := a_REQUESTS_k4, a_REQUESTS_k4_0 := a_REQUESTS_k4_0, a_REQUESTS_k4_0_1 := a_REQUESTS_k4_0_1, a_REQUESTS_k4_1 := a_REQUESTS_k4_1, a_REQUESTS_k4_1_1 := a_REQUESTS_k4_1_1, a_REQUESTS_k4_2 := a_REQUESTS_k4_2, a_REQUESTS_k4_2_1 := a_REQUESTS_k4_2_1, a_REQUESTS_k5 := a_REQUESTS_k5, a_REQUESTS_k5_0 := a_REQUESTS_k5_0, a_REQUESTS_k5_0_1 := a_REQUESTS_k5_0_1, a_REQUESTS_k5_1 := a_REQUESTS_k5_1, a_REQUESTS_k5_1_1 := a_REQUESTS_k5_1_1, a_REQUESTS_k5_2 := a_REQUESTS_k5_2, a_REQUESTS_k5_2_1 := a_REQUESTS_k5_2_1, a_REQUESTS_k6 := a_REQUESTS_k6, a_REQUESTS_k6_0 := a_REQUESTS_k6_0, a_REQUESTS_k6_0_1 := a_REQUESTS_k6_0_1, a_REQUESTS_k6_1 := a_REQUESTS_k6_1, a_REQUESTS_k6_1_1 := a_REQUESTS_k6_1_1, a_REQUESTS_k6_2 := a_REQUESTS_k6_2, a_REQUESTS_k6_2_1 := a_REQUESTS_k6_2_1, a_REQUESTS_k7 := a_REQUESTS_k7, a_REQUESTS_k7_0 := a_REQUESTS_k7_0, a_REQUESTS_k7_0_1 := a_REQUESTS_k7_0_1, a_REQUESTS_k7_1 := a_REQUESTS_k7_1, a_REQUESTS_k7_1_1 := a_REQUESTS_k7_1_1, a_REQUESTS_k7_2 := a_REQUESTS_k7_2, a_REQUESTS_k7_2_1 := a_REQUESTS_k7_2_1, a_REQUESTS_k7_3 := a_REQUESTS_k7_3, a_REQUESTS_k7_3_1 := a_REQUESTS_k7_3_1, a_REQUESTS_k7_4 := a_REQUESTS_k7_4, a_REQUESTS_k7_4_1 := a_REQUESTS_k7_4_1, a_REQUESTS_k7_5 := a_REQUESTS_k7_5, a_REQUESTS_k7_5_1 := a_REQUESTS_k7_5_1, a_REQUESTS_k7_6 := a_REQUESTS_k7_6, a_REQUESTS_k7_6_1 := a_REQUESTS_k7_6_1, a_REQUESTS_k8 := a_REQUESTS_k8, a_REQUESTS_k8_0 := a_REQUESTS_k8_0, a_REQUESTS_k8_0_1 := a_REQUESTS_k8_0_1, a_REQUESTS_k8_1 := a_REQUESTS_k8_1, a_REQUESTS_k8_1_1 := a_REQUESTS_k8_1_1, a_REQUESTS_k9 := a_REQUESTS_k9, a_REQUESTS_k9_0 := a_REQUESTS_k9_0, a_REQUESTS_k9_0_1 := a_REQUESTS_k9_0_1, a_REQUESTS_k9_1 := a_REQUESTS_k9_1, a_REQUESTS_k9_1_1 := a_REQUESTS_k9_1_1, a_REQUESTS_k9_2 := a_REQUESTS_k9_2, a_REQUESTS_k9_2_1 := a_REQUESTS_k9_2_1, a_REQUESTS_k9_3 := a_REQUESTS_k9_3, a_REQUESTS_k9_3_1 := a_REQUESTS_k9_3_1, a_REQUESTS_k9_4 := a_REQUESTS_k9_4, a_REQUESTS_k9_4_1 := a_REQUESTS_k9_4_1, a_REQUESTS_k9_5 := a_REQUESTS_k9_5, a_REQUESTS_k9_5_1 := a_REQUESTS_k9_5_1, a_REQUESTS_k10 := a_REQUESTS_k10, a_REQUESTS_k10_0 := a_REQUESTS_k10_0, a_REQUESTS_k10_0_1 := a_REQUESTS_k10_0_1, a_REQUESTS_k11 := a_REQUESTS_k11, a_REQUESTS_k11_0 := a_REQUESTS_k11_0, a_REQUESTS_k11_0_1 := a_REQUESTS_k11_0_1, a_REQUESTS_k11_1 := a_REQUESTS_k11_1, a_REQUESTS_k11_1_1 := a_REQUESTS_k11_1_1, a_REQUESTS_k12 := a_REQUESTS_k12, a_REQUESTS_k12_0 := a_REQUESTS_k12_0, a_REQUESTS_k12_0_1 := a_REQUESTS_k12_0_1, a_REQUESTS_k12_1 := a_REQUESTS_k12_1, a_REQUESTS_k12_1_1 := a_REQUESTS_k12_1_1, a_REQUESTS_k12_2 := a_REQUESTS_k12_2, a_REQUESTS_k12_2_1 := a_REQUESTS_k12_2_1, a_REQUESTS_k12_3 := a_REQUESTS_k12_3, a_REQUESTS_k12_3_1 := a_REQUESTS_k12_3_1, a_REQUESTS_k12_4 := a_REQUESTS_k12_4, a_REQUESTS_k12_4_1 := a_REQUESTS_k12_4_1, a_REQUESTS_k12_5 := a_REQUESTS_k12_5, a_REQUESTS_k12_5_1 := a_REQUESTS_k12_5_1, a_REQUESTS_k12_6 := a_REQUESTS_k12_6, a_REQUESTS_k12_6_1 := a_REQUESTS_k12_6_1, a_REQUESTS_k12_7 := a_REQUESTS_k12_7, a_REQUESTS_k12_7_1 := a_REQUESTS_k12_7_1, a_REQUESTS_k12_8 := a_REQUESTS_k12_8, a_REQUESTS_k12_8_1 := a_REQUESTS_k12_8_1, a_REQUESTS_k12_9 := a_REQUESTS_k12_9, a_REQUESTS_k12_9_1 := a_REQUESTS_k12_9_1, a_REQUESTS_k12_10 := a_REQUESTS_k12_10, a_REQUESTS_k12_10_1 := a_REQUESTS_k12_10_1, a_REQUESTS_k12_11 := a_REQUESTS_k12_11, a_REQUESTS_k12_11_1 := a_REQUESTS_k12_11_1, a_REQUESTS_k13 := a_REQUESTS_k13, a_REQUESTS_k13_0 := a_REQUESTS_k13_0, a_REQUESTS_k13_0_1 := a_REQUESTS_k13_0_1, a_REQUESTS_k13_1 := a_REQUESTS_k13_1, a_REQUESTS_k13_1_1 := a_REQUESTS_k13_1_1, a_REQUESTS_k14 := a_REQUESTS_k14, a_REQUESTS_k14_0 := a_REQUESTS_k14_0, a_REQUESTS_k14_0_1 := a_REQUESTS_k14_0_1, a_REQUESTS_k14_1 := a_REQUESTS_k14_1, a_REQUESTS_k14_1_1 := a_REQUESTS_k14_1_1, a_REQUESTS_k15 := a_REQUESTS_k15, a_REQUESTS_k15_0 := a_REQUESTS_k15_0, a_REQUESTS_k15_0_1 := a_REQUESTS_k15_0_1, a_REQUESTS_k15_1 := a_REQUESTS_k15_1, a_REQUESTS_k15_1_1 := a_REQUESTS_k15_1_1, a_REQUESTS_k16 := a_REQUESTS_k16, a_REQUESTS_k16_0 := a_REQUESTS_k16_0, a_REQUESTS_k16_0_1 := a_REQUESTS_k16_0_1, a_REQUESTS_k17 := a_REQUESTS_k17, a_REQUESTS_k17_0 := a_REQUESTS_k17_0, a_REQUESTS_k17_0_1 := a_REQUESTS_k17_0_1, a_REQUESTS_k17_1 := a_REQUESTS_k17_1, a_REQUESTS_k17_1_1 := a_REQUESTS_k17_1_1, a_REQUESTS_k17_2 := a_REQUESTS_k17_2, a_REQUESTS_k17_2_1 := a_REQUESTS_k17_2_1, a_REQUESTS_k17_3 := a_REQUESTS_k17_3, a_REQUESTS_k17_3_1 := a_REQUESTS_k17_3_1, a_REQUESTS_k17_4 := a_REQUESTS_k17_4, a_REQUESTS_k17_4_1 := a_REQUESTS_k17_4_1, a_REQUESTS_k17_5 := a_REQUESTS_k17_5, a_REQUESTS_k17_5_1 := a_REQUESTS_k17_5_1, a_REQUESTS_k17_6 := a_REQUESTS_k17_6, a_REQUESTS_k17_6_1 := a_REQUESTS_k17_6_1, a_REQUESTS_k17_7 := a_REQUESTS_k17_7, a_REQUESTS_k17_7_1 := a_REQUESTS_k17_7_1, a_REQUESTS_k17_8 := a_REQUESTS_k17_8, a_REQUESTS_k17_8_1 := a_REQUESTS_k17_8_1, a_REQUESTS_k18 := a_REQUESTS_k18, a_REQUESTS_k18_0 := a_REQUESTS_k18_0, a_REQUESTS_k18_0_1 := a_REQUESTS_k18_0_1, a_REQUESTS_k18_1 := a_REQUESTS_k18_1, a_REQUESTS_k18_1_1 := a_REQUESTS_k18_1_1, a_REQUESTS_k19 := a_REQUESTS_k19, a_REQUESTS_k19_0 := a_REQUESTS_k19_0, a_REQUESTS_k19_0_1 := a_REQUESTS_k19_0_1, a_REQUESTS_k19_1 := a_REQUESTS_k19_1, a_REQUESTS_k19_1_1 := a_REQUESTS_k19_1_1, a_REQUESTS_k20 := a_REQUESTS_k20, a_REQUESTS_k20_0 := a_REQUESTS_k20_0, a_REQUESTS_k20_0_1 := a_REQUESTS_k20_0_1, a_REQUESTS_k20_1 := a_REQUESTS_k20_1, a_REQUESTS_k20_1_1 := a_REQUESTS_k20_1_1, a_REQUESTS_k21 := a_REQUESTS_k21, a_REQUESTS_k21_0 := a_REQUESTS_k21_0, a_REQUESTS_k21_0_1 := a_REQUESTS_k21_0_1, a_REQUESTS_k21_1 := a_REQUESTS_k21_1, a_REQUESTS_k21_1_1 := a_REQUESTS_k21_1_1, a_REQUESTS_k22 := a_REQUESTS_k22, a_REQUESTS_k22_0 := a_REQUESTS_k22_0, a_REQUESTS_k22_0_1 := a_REQUESTS_k22_0_1, a_EVENTS := a_EVENTS, a_EVENTS_k0 := a_EVENTS_k0, a_EVENTS_k0_0 := a_EVENTS_k0_0, a_EVENTS_k0_0_1 := a_EVENTS_k0_0_1, a_EVENTS_k0_1 := a_EVENTS_k0_1, a_EVENTS_k0_1_1 := a_EVENTS_k0_1_1, a_EVENTS_k1 := a_EVENTS_k1, a_EVENTS_k1_0 := a_EVENTS_k1_0, a_EVENTS_k1_0_1 := a_EVENTS_k1_0_1, a_EVENTS_k2 := a_EVENTS_k2, a_EVENTS_k2_0 := a_EVENTS_k2_0, a_EVENTS_k2_0_1 := a_EVENTS_k2_0_1, a_EVENTS_k2_1 := a_EVENTS_k2_1, a_EVENTS_k2_1_1 := a_EVENTS_k2_1_1, a_EVENTS_k3 := a_EVENTS_k3, a_EVENTS_k3_0 := a_EVENTS_k3_0, a_EVENTS_k3_0_1 := a_EVENTS_k3_0_1, a_EVENTS_k4 := a_EVENTS_k4, a_EVENTS_k4_0 := a_EVENTS_k4_0, a_EVENTS_k4_0_1 := a_EVENTS_k4_0_1, a_EVENTS_k5 := a_EVENTS_k5, a_EVENTS_k5_0 := a_EVENTS_k5_0, a_EVENTS_k5_0_1 := a_EVENTS_k5_0_1, a_EVENTS_k5_1 := a_EVENTS_k5_1, a_EVENTS_k5_1_1 := a_EVENTS_k5_1_1, a_EVENTS_k5_2 := a_EVENTS_k5_2, a_EVENTS_k5_2_1 := a_EVENTS_k5_2_1, a_EVENTS_k5_3 := a_EVENTS_k5_3, a_EVENTS_k5_3_1 := a_EVENTS_k5_3_1, a_EVENTS_k6 := a_EVENTS_k6, a_EVENTS_k6_0 := a_EVENTS_k6_0, a_EVENTS_k6_0_1 := a_EVENTS_k6_0_1, a_EVENTS_k6_1 := a_EVENTS_k6_1, a_EVENTS_k6_1_1 := a_EVENTS_k6_1_1, a_EVENTS_k7 := a_EVENTS_k7, a_EVENTS_k7_0 := a_EVENTS_k7_0, a_EVENTS_k7_0_1 := a_EVENTS_k7_0_1, a_EVENTS_k7_1 := a_EVENTS_k7_1, a_EVENTS_k7_1_1 := a_EVENTS_k7_1_1, a_EVENTS_k7_2 := a_EVENTS_k7_2, a_EVENTS_k7_2_1 := a_EVENTS_k7_2_1, a_EVENTS_k7_3 := a_EVENTS_k7_3, a_EVENTS_k7_3_1 := a_EVENTS_k7_3_1, a_EVENTS_k7_4 := a_EVENTS_k7_4, a_EVENTS_k7_4_1 := a_EVENTS_k7_4_1, a_EVENTS_k8 := a_EVENTS_k8, a_EVENTS_k8_0 := a_EVENTS_k8_0, a_EVENTS_k8_0_1 := a_EVENTS_k8_0_1, a_EVENTS_k8_1 := a_EVENTS_k8_1, a_EVENTS_k8_1_1 := a_EVENTS_k8_1_1, a_EVENTS_k8_2 := a_EVENTS_k8_2, a_EVENTS_k8_2_1 := a_EVENTS_k8_2_1, a_EVENTS_k8_3 := a_EVENTS_k8_3, a_EVENTS_k8_3_1 := a_EVENTS_k8_3_1, a_EVENTS_k8_4 := a_EVENTS_k8_4, a_EVENTS_k8_4_1 := a_EVENTS_k8_4_1, a_EVENTS_k9 := a_EVENTS_k9, a_EVENTS_k9_0 := a_EVENTS_k9_0, a_EVENTS_k9_0_1 := a_EVENTS_k9_0_1, a_EVENTS_k9_1 := a_EVENTS_k9_1, a_EVENTS_k9_1_1 := a_EVENTS_k9_1_1, a_EVENTS_k9_2 := a_EVENTS_k9_2, a_EVENTS_k9_2_1 := a_EVENTS_k9_2_1, a_EVENTS_k9_3 := a_EVENTS_k9_3, a_EVENTS_k9_3_1 := a_EVENTS_k9_3_1, a_EVENTS_k9_4 := a_EVENTS_k9_4, a_EVENTS_k9_4_1 := a_EVENTS_k9_4_1, a_EVENTS_k9_5 := a_EVENTS_k9_5, a_EVENTS_k9_5_1 := a_EVENTS_k9_5_1, a_EVENTS_k10 := a_EVENTS_k10, a_EVENTS_k10_0 := a_EVENTS_k10_0, a_EVENTS_k10_0_1 := a_EVENTS_k10_0_1, a_EVENTS_k10_1 := a_EVENTS_k10_1, a_EVENTS_k10_1_1 := a_EVENTS_k10_1_1, a_EVENTS_k11 := a_EVENTS_k11, a_EVENTS_k11_0 := a_EVENTS_k11_0, a_EVENTS_k11_0_1 := a_EVENTS_k11_0_1, a_EVENTS_k11_1 := a_EVENTS_k11_1, a_EVENTS_k11_1_1 := a_EVENTS_k11_1_1, a_EVENTS_k11_2 := a_EVENTS_k11_2, a_EVENTS_k11_2_1 := a_EVENTS_k11_2_1, a_EVENTS_k12 := a_EVENTS_k12, a_EVENTS_k12_0 := a_EVENTS_k12_0, a_EVENTS_k12_0_1 := a_EVENTS_k12_0_1, a_EVENTS_k12_1 := a_EVENTS_k12_1, a_EVENTS_k12_1_1 := a_EVENTS_k12_1_1, a_EVENTS_k12_2 := a_EVENTS_k12_2, a_EVENTS_k12_2_1 := a_EVENTS_k12_2_1, a_EVENTS_k13 := a_EVENTS_k13, a_EVENTS_k13_0 := a_EVENTS_k13_0, a_EVENTS_k13_0_1 := a_EVENTS_k13_0_1, a_EVENTS_k13_1 := a_EVENTS_k13_1, a_EVENTS_k13_1_1 := a_EVENTS_k13_1_1, CBadMessage := CBadMessage, CMessageTooLong := CMessageTooLong }, rfl, { Fis_integer := F1, bis_integer := b1, gis_integer := PySem.W.mg_of X G a1, kis_integer := k1, Fis_text := F2, bis_text := b2, gis_text := PySem.W.mg_of X G a2, kis_text := k2, Fnumber_octets := F3, bnumber_octets := b3, gnumber_octets := PySem.W.mg_of X G a3, knumber_octets := k3, Ffield_octets := F4, bfield_octets := b4, gfield_octets := PySem.W.mg_of X G a4, kfield_octets := k4, F_is_code := F5, b_is_code := b5, g_is_code := PySem.W.mg_of X G a5, k_is_code := k5, F_is_of := F6, b_is_of := b6, g_is_of := PySem.W.mg_of X G a6, k_is_of := k6, F_are_octets := F7, b_are_octets := b7, g_are_octets := PySem.W.mg_of X G a7, k_are_octets := k7, F_is_bound := F8, b_is_bound := b8, g_is_bound := PySem.W.mg_of X G a8, k_is_bound := k8, F_text_octets := F9, b_text_octets := b9, g_text_octets := PySem.W.mg_of X G a9, k_text_octets := k9, F_padded := F10, b_padded := b10, g_padded := PySem.W.mg_of X G a10, k_padded := k10, Fencode_message := F11, bencode_message := b11, gencode_message := PySem.W.mg_of X G a11, kencode_message := k11, Finterface_names := F12, binterface_names := b12, ginterface_names := PySem.W.mg_of X G a12, kinterface_names := k12, Frequest_row := F13, brequest_row := b13, grequest_row := PySem.W.mg_of X G a13, krequest_row := k13, Frequest_opcode := F14, brequest_opcode := b14, grequest_opcode := PySem.W.mg_of X G a14, krequest_opcode := k14, Fevent_row := F15, bevent_row := b15, gevent_row := PySem.W.mg_of X G a15, kevent_row := k15, Fevent_octets := F16, bevent_octets := b16, gevent_octets := PySem.W.mg_of X G a16, kevent_octets := k16, F_row_at := F17, b_row_at := b17, g_row_at := PySem.W.mg_of X G a17, k_row_at := k17, F_opcode_of := F18, b_opcode_of := b18, g_opcode_of := PySem.W.mg_of X G a18, k_opcode_of := k18, F_law_cell := F19, b_law_cell := b19, g_law_cell := PySem.W.mg_of X G a19, k_law_cell := k19, F_law_row := F20, b_law_row := b20, g_law_row := PySem.W.mg_of X G a20, k_law_row := k20, F_law_rows := F21, b_law_rows := b21, g_law_rows := PySem.W.mg_of X G a21, k_law_rows := k21, F_law_list := F22, b_law_list := b22, g_law_list := PySem.W.mg_of X G a22, k_law_list := k22, F_law_split := F23, b_law_split := b23, g_law_split := PySem.W.mg_of X G a23, k_law_split := k23, F_law_table := F24, b_law_table := b24, g_law_table := PySem.W.mg_of X G a24, k_law_table := k24, F_law_sign := F25, b_law_sign := b25, g_law_sign := PySem.W.mg_of X G a25, k_law_sign := k25, F_law_text := F26, b_law_text := b26, g_law_text := PySem.W.mg_of X G a26, k_law_text := k26, F_law_octets := F27, b_law_octets := b27, g_law_octets := PySem.W.mg_of X G a27, k_law_octets := k27, F_law_value := F28, b_law_value := b28, g_law_value := PySem.W.mg_of X G a28, k_law_value := k28, F_law_row_fits := F29, b_law_row_fits := b29, g_law_row_fits := PySem.W.mg_of X G a29, k_law_row_fits := k29, F_law_event_fits := F30, b_law_event_fits := b30, g_law_event_fits := PySem.W.mg_of X G a30, k_law_event_fits := k30, Flaw := F31, blaw := b31, glaw := PySem.W.mg_of X G a31, klaw := k31, all := PySem.W.mg_none_of X G z_all, bool := PySem.W.mg_none_of X G z_bool, int := PySem.W.mg_none_of X G z_int, isinstance := PySem.W.mg_none_of X G z_isinstance, len := PySem.W.mg_none_of X G z_len, list := PySem.W.mg_none_of X G z_list, max := PySem.W.mg_none_of X G z_max, min := PySem.W.mg_none_of X G z_min, ord := PySem.W.mg_none_of X G z_ord, range := PySem.W.mg_none_of X G z_range, str := PySem.W.mg_none_of X G z_str, tuple := PySem.W.mg_none_of X G z_tuple, zip := PySem.W.mg_none_of X G z_zip, gGREATEST_NUMBER := PySem.W.mg_of X G q_GREATEST_NUMBER, gLEAST_INT := PySem.W.mg_of X G q_LEAST_INT, gGREATEST_INT := PySem.W.mg_of X G q_GREATEST_INT, gLONGEST_TEXT := PySem.W.mg_of X G q_LONGEST_TEXT, gMOST_OCTETS := PySem.W.mg_of X G q_MOST_OCTETS, g_FIRST_CODE := PySem.W.mg_of X G q__FIRST_CODE, g_LAST_CODE := PySem.W.mg_of X G q__LAST_CODE, g_PERCENT_CODE := PySem.W.mg_of X G q__PERCENT_CODE, gHEADER_SIZE := PySem.W.mg_of X G q_HEADER_SIZE, gGREATEST_SIZE := PySem.W.mg_of X G q_GREATEST_SIZE, gGREATEST_OPCODE := PySem.W.mg_of X G q_GREATEST_OPCODE, gMOST_ARGUMENTS := PySem.W.mg_of X G q_MOST_ARGUMENTS, g_REQUESTS := PySem.W.mg_of X G q__REQUESTS, w_REQUESTS_k0 := fun _ => .inr ⟨_, _, _, w_REQUESTS_k0, rfl, rfl, len_line (Nat.le_of_ble_eq_true rfl), (.cons rfl (.cons rfl .nil))⟩, w_REQUESTS_k0_0 := fun _ => .inr ⟨_, _, _, w_REQUESTS_k0_0, rfl, rfl, len_line (Nat.le_of_ble_eq_true rfl), (.cons ⟨_, rfl⟩ (.cons rfl (.cons rfl .nil)))⟩, w_REQUESTS_k0_0_1 := fun _ => .inr ⟨_, _, _, w_REQUESTS_k0_0_1, rfl, rfl, len_line (Nat.le_of_ble_eq_true rfl), (.cons ⟨_, rfl⟩ .nil)⟩, w_REQUESTS_k0_1 := fun _ => .inr ⟨_, _, _, w_REQUESTS_k0_1, rfl, rfl, len_line (Nat.le_of_ble_eq_true rfl), (.cons ⟨_, rfl⟩ (.cons rfl (.cons rfl .nil)))⟩, w_REQUESTS_k0_1_1 := fun _ => .inr ⟨_, _, _, w_REQUESTS_k0_1_1, rfl, rfl, len_line (Nat.le_of_ble_eq_true rfl), (.cons ⟨_, rfl⟩ .nil)⟩, w_REQUESTS_k1 := fun _ => .inr ⟨_, _, _, w_REQUESTS_k1, rfl, rfl, len_line (Nat.le_of_ble_eq_true rfl), .nil⟩, w_REQUESTS_k2 := fun _ => .inr ⟨_, _, _, w_REQUESTS_k2, rfl, rfl, len_line (Nat.le_of_ble_eq_true rfl), (.cons rfl .nil)⟩, w_REQUESTS_k2_0 := fun _ => .inr ⟨_, _, _, w_REQUESTS_k2_0, rfl, rfl, len_line (Nat.le_of_ble_eq_true rfl), (.cons ⟨_, rfl⟩ (.cons rfl (.cons rfl .nil)))⟩, w_REQUESTS_k2_0_1 := fun _ => .inr ⟨_, _, _, w_REQUESTS_k2_0_1, rfl, rfl, len_line (Nat.le_of_ble_eq_true rfl), (.cons ⟨_, rfl⟩ (.cons ⟨_, rfl⟩ .nil))⟩, w_REQUESTS_k3 := fun _ => .inr ⟨_, _, _, w_REQUESTS_k3, rfl, rfl, len_line (Nat.le_of_ble_eq_true rfl), (.cons rfl (.cons rfl .nil))⟩, w_REQUESTS_k3_0 := fun _ => .inr ⟨_, _, _, w_REQUESTS_k3_0, rfl, rfl, len_line (Nat.le_of_ble_eq_true rfl), (.cons ⟨_, rfl⟩ (.cons rfl (.cons rfl .nil)))⟩, w_REQUESTS_k3_0_1 := fun _ => .inr ⟨_, _, _, w_REQUESTS_k3_0_1, rfl, rfl, len_line (Nat.le_of_ble_eq_true rfl), (.cons ⟨_, rfl⟩ (.cons ⟨_, rfl⟩ (.cons ⟨_, rfl⟩ .nil)))⟩, w_REQUESTS_k3_1 := fun _ => .inr ⟨_, _, _, w_REQUESTS_k3_1, rfl, rfl, len_line (Nat.le_of_ble_eq_true rfl), (.cons ⟨_, rfl⟩ (.cons rfl (.cons rfl .nil)))⟩, w_REQUESTS_k3_1_1 := fun _ => .inr ⟨_, _, _, w_REQUESTS_k3_1_1, rfl, rfl, len_line (Nat.le_of_ble_eq_true rfl), .nil⟩, w_REQUESTS_k4 := fun _ => .inr ⟨_, _, _, w_REQUESTS_k4, rfl, rfl, len_line (Nat.le_of_ble_eq_true rfl), (.cons rfl (.cons rfl (.cons rfl .nil)))⟩, w_REQUESTS_k4_0 := fun _ => .inr ⟨_, _, _, w_REQUESTS_k4_0, rfl, rfl, len_line (Nat.le_of_ble_eq_true rfl), (.cons ⟨_, rfl⟩ (.cons rfl (.cons rfl .nil)))⟩, w_REQUESTS_k4_0_1 := fun _ => .inr ⟨_, _, _, w_REQUESTS_k4_0_1, rfl, rfl, len_line (Nat.le_of_ble_eq_true rfl), (.cons ⟨_, rfl⟩ (.cons ⟨_, rfl⟩ .nil))⟩, w_REQUESTS_k4_1 := fun _ => .inr ⟨_, _, _, w_REQUESTS_k4_1, rfl, rfl, len_line (Nat.le_of_ble_eq_true rfl), (.cons ⟨_, rfl⟩ (.cons rfl (.cons rfl .nil)))⟩, w_REQUESTS_k4_1_1 := fun _ => .inr ⟨_, _, _, w_REQUESTS_k4_1_1, rfl, rfl, len_line (Nat.le_of_ble_eq_true rfl), (.cons ⟨_, rfl⟩ (.cons ⟨_, rfl⟩ (.cons ⟨_, rfl⟩ (.cons ⟨_, rfl⟩ (.cons ⟨_, rfl⟩ .nil)))))⟩, w_REQUESTS_k4_2 := fun _ => .inr ⟨_, _, _, w_REQUESTS_k4_2, rfl, rfl, len_line (Nat.le_of_ble_eq_true rfl), (.cons ⟨_, rfl⟩ (.cons rfl (.cons rfl .nil)))⟩, w_REQUESTS_k4_2_1 := fun _ => .inr ⟨_, _, _, w_REQUESTS_k4_2_1, rfl, rfl, len_line (Nat.le_of_ble_eq_true rfl), .nil⟩, w_REQUESTS_k5 := fun _ => .inr ⟨_, _, _, w_REQUESTS_k5, rfl, rfl, len_line (Nat.le_of_ble_eq_true rfl), (.cons rfl (.cons rfl (.cons rfl .nil)))⟩, w_REQUESTS_k5_0 := fun _ => .inr ⟨_, _, _, w_REQUESTS_k5_0, rfl, rfl, len_line (Nat.le_of_ble_eq_true rfl), (.cons ⟨_, rfl⟩ (.cons rfl (.cons rfl .nil)))⟩, w_REQUESTS_k5_0_1 := fun _ => .inr ⟨_, _, _, w_REQUESTS_k5_0_1, rfl, rfl, len_line (Nat.le_of_ble_eq_true rfl), (.cons ⟨_, rfl⟩ .nil)⟩, w_REQUESTS_k5_1 := fun _ => .inr ⟨_, _, _, w_REQUESTS_k5_1, rfl, rfl, len_line (Nat.le_of_ble_eq_true rfl), (.cons ⟨_, rfl⟩ (.cons rfl (.cons rfl .nil)))⟩, w_REQUESTS_k5_1_1 := fun _ => .inr ⟨_, _, _, w_REQUESTS_k5_1_1, rfl, rfl, len_line (Nat.le_of_ble_eq_true rfl), (.cons ⟨_, rfl⟩ .nil)⟩, w_REQUESTS_k5_2 := fun _ => .inr ⟨_, _, _, w_REQUESTS_k5_2, rfl, rfl, len_line (Nat.le_of_ble_eq_true rfl), (.cons ⟨_, rfl⟩ (.cons rfl (.cons rfl .nil)))⟩, w_REQUESTS_k5_2_1 := fun _ => .inr ⟨_, _, _, w_REQUESTS_k5_2_1, rfl, rfl, len_line (Nat.le_of_ble_eq_true rfl), .nil⟩, w_REQUESTS_k6 := fun _ => .inr ⟨_, _, _, w_REQUESTS_k6, rfl, rfl, len_line (Nat.le_of_ble_eq_true rfl), (.cons rfl (.cons rfl (.cons rfl .nil)))⟩, w_REQUESTS_k6_0 := fun _ => .inr ⟨_, _, _, w_REQUESTS_k6_0, rfl, rfl, len_line (Nat.le_of_ble_eq_true rfl), (.cons ⟨_, rfl⟩ (.cons rfl (.cons rfl .nil)))⟩, w_REQUESTS_k6_0_1 := fun _ => .inr ⟨_, _, _, w_REQUESTS_k6_0_1, rfl, rfl, len_line (Nat.le_of_ble_eq_true rfl), (.cons ⟨_, rfl⟩ (.cons ⟨_, rfl⟩ (.cons ⟨_, rfl⟩ (.cons ⟨_, rfl⟩ .nil))))⟩, w_REQUESTS_k6_1 := fun _ => .inr ⟨_, _, _, w_REQUESTS_k6_1, rfl, rfl, len_line (Nat.le_of_ble_eq_true rfl), (.cons ⟨_, rfl⟩ (.cons rfl (.cons rfl .nil)))⟩, w_REQUESTS_k6_1_1 := fun _ => .inr ⟨_, _, _, w_REQUESTS_k6_1_1, rfl, rfl, len_line (Nat.le_of_ble_eq_true rfl), (.cons ⟨_, rfl⟩ (.cons ⟨_, rfl⟩ (.cons ⟨_, rfl⟩ (.cons ⟨_, rfl⟩ .nil))))⟩, w_REQUESTS_k6_2 := fun _ => .inr ⟨_, _, _, w_REQUESTS_k6_2, rfl, rfl, len_line (Nat.le_of_ble_eq_true rfl), (.cons ⟨_, rfl⟩ (.cons rfl (.cons rfl .nil)))⟩, w_REQUESTS_k6_2_1 := fun _ => .inr ⟨_, _, _, w_REQUESTS_k6_2_1, rfl, rfl, len_line (Nat.le_of_ble_eq_true rfl), .nil⟩, w_REQUESTS_k7 := fun _ => .inr ⟨_, _, _, w_REQUESTS_k7, rfl, rfl, len_line (Nat.le_of_ble_eq_true rfl), (.cons rfl (.cons rfl (.cons rfl (.cons rfl (.cons rfl (.cons rfl (.cons rfl .nil)))))))⟩, w_REQUESTS_k7_0 := fun _ => .inr ⟨_, _, _, w_REQUESTS_k7_0, rfl, rfl, len_line (Nat.le_of_ble_eq_true rfl), (.cons ⟨_, rfl⟩ (.cons rfl (.cons rfl .nil)))⟩, w_REQUESTS_k7_0_1 := fun _ => .inr ⟨_, _, _, w_REQUESTS_k7_0_1, rfl, rfl, len_line (Nat.le_of_ble_eq_true rfl), (.cons ⟨_, rfl⟩ .nil)⟩, w_REQUESTS_k7_1 := fun _ => .inr ⟨_, _, _, w_REQUESTS_k7_1, rfl, rfl, len_line (Nat.le_of_ble_eq_true rfl), (.cons ⟨_, rfl⟩ (.cons rfl (.cons rfl .nil)))⟩, w_REQUESTS_k7_1_1 := fun _ => .inr ⟨_, _, _, w_REQUESTS_k7_1_1, rfl, rfl, len_line (Nat.le_of_ble_eq_true rfl), (.cons ⟨_, rfl⟩ .nil)⟩, w_REQUESTS_k7_2 := fun _ => .inr ⟨_, _, _, w_REQUESTS_k7_2, rfl, rfl, len_line (Nat.le_of_ble_eq_true rfl), (.cons ⟨_, rfl⟩ (.cons rfl (.cons rfl .nil)))⟩, w_REQUESTS_k7_2_1 := fun _ => .inr ⟨_, _, _, w_REQUESTS_k7_2_1, rfl, rfl, len_line (Nat.le_of_ble_eq_true rfl), (.cons ⟨_, rfl⟩ .nil)⟩, w_REQUESTS_k7_3 := fun _ => .inr ⟨_, _, _, w_REQUESTS_k7_3, rfl, rfl, len_line (Nat.le_of_ble_eq_true rfl), (.cons ⟨_, rfl⟩ (.cons rfl (.cons rfl .nil)))⟩, w_REQUESTS_k7_3_1 := fun _ => .inr ⟨_, _, _, w_REQUESTS_k7_3_1, rfl, rfl, len_line (Nat.le_of_ble_eq_true rfl), .nil⟩, w_REQUESTS_k7_4 := fun _ => .inr ⟨_, _, _, w_REQUESTS_k7_4, rfl, rfl, len_line (Nat.le_of_ble_eq_true rfl), (.cons ⟨_, rfl⟩ (.cons rfl (.cons rfl .nil)))⟩, w_REQUESTS_k7_4_1 := fun _ => .inr ⟨_, _, _, w_REQUESTS_k7_4_1, rfl, rfl, len_line (Nat.le_of_ble_eq_true rfl), (.cons ⟨_, rfl⟩ .nil)⟩, w_REQUESTS_k7_5 := fun _ => .inr ⟨_, _, _, w_REQUESTS_k7_5, rfl, rfl, len_line (Nat.le_of_ble_eq_true rfl), (.cons ⟨_, rfl⟩ (.cons rfl (.cons rfl .nil)))⟩, w_REQUESTS_k7_5_1 := fun _ => .inr ⟨_, _, _, w_REQUESTS_k7_5_1, rfl, rfl, len_line (Nat.le_of_ble_eq_true rfl), (.cons ⟨_, rfl⟩ .nil)⟩, w_REQUESTS_k7_6 := fun _ => .inr ⟨_, _, _, w_REQUESTS_k7_6, rfl, rfl, len_line (Nat.le_of_ble_eq_true rfl), (.cons ⟨_, rfl⟩ (.cons rfl (.cons rfl .nil)))⟩, w_REQUESTS_k7_6_1 := fun _ => .inr ⟨_, _, _, w_REQUESTS_k7_6_1, rfl, rfl, len_line (Nat.le_of_ble_eq_true rfl), .nil⟩, w_REQUESTS_k8 := fun _ => .inr ⟨_, _, _, w_REQUESTS_k8, rfl, rfl, len_line (Nat.le_of_ble_eq_true rfl), (.cons rfl (.cons rfl .nil))⟩, w_REQUESTS_k8_0 := fun _ => .inr ⟨_, _, _, w_REQUESTS_k8_0, rfl, rfl, len_line (Nat.le_of_ble_eq_true rfl), (.cons ⟨_, rfl⟩ (.cons rfl (.cons rfl .nil)))⟩, w_REQUESTS_k8_0_1 := fun _ => .inr ⟨_, _, _, w_REQUESTS_k8_0_1, rfl, rfl, len_line (Nat.le_of_ble_eq_true rfl), (.cons ⟨_, rfl⟩ (.cons ⟨_, rfl⟩ (.cons ⟨_, rfl⟩ .nil)))⟩, w_REQUESTS_k8_1 := fun _ => .inr ⟨_, _, _, w_REQUESTS_k8_1, rfl, rfl, len_line (Nat.le_of_ble_eq_true rfl), (.cons ⟨_, rfl⟩ (.cons rfl (.cons rfl .nil)))⟩, w_REQUESTS_k8_1_1 := fun _ => .inr ⟨_, _, _, w_REQUESTS_k8_1_1, rfl, rfl, len_line (Nat.le_of_ble_eq_true rfl), .nil⟩, w_REQUESTS_k9 := fun _ => .inr ⟨_, _, _, w_REQUESTS_k9, rfl, rfl, len_line (Nat.le_of_ble_eq_true rfl), (.cons rfl (.cons rfl (.cons rfl (.cons rfl (.cons rfl (.cons rfl .nil))))))⟩, w_REQUESTS_k9_0 := fun _ => .inr ⟨_, _, _, w_REQUESTS_k9_0, rfl, rfl, len_line (Nat.le_of_ble_eq_true rfl), (.cons ⟨_, rfl⟩ (.cons rfl (.cons rfl .nil)))⟩, w_REQUESTS_k9_0_1 := fun _ => .inr ⟨_, _, _, w_REQUESTS_k9_0_1, rfl, rfl, len_line (Nat.le_of_ble_eq_true rfl), (.cons ⟨_, rfl⟩ (.cons ⟨_, rfl⟩ .nil))⟩, w_REQUESTS_k9_1 := fun _ => .inr ⟨_, _, _, w_REQUESTS_k9_1, rfl, rfl, len_line (Nat.le_of_ble_eq_true rfl), (.cons ⟨_, rfl⟩ (.cons rfl (.cons rfl .nil)))⟩, w_REQUESTS_k9_1_1 := fun _ => .inr ⟨_, _, _, w_REQUESTS_k9_1_1, rfl, rfl, len_line (Nat.le_of_ble_eq_true rfl), (.cons ⟨_, rfl⟩ .nil)⟩, w_REQUESTS_k9_2 := fun _ => .inr ⟨_, _, _, w_REQUESTS_k9_2, rfl, rfl, len_line (Nat.le_of_ble_eq_true rfl), (.cons ⟨_, rfl⟩ (.cons rfl (.cons rfl .nil)))⟩, w_REQUESTS_k9_2_1 := fun _ => .inr ⟨_, _, _, w_REQUESTS_k9_2_1, rfl, rfl, len_line (Nat.le_of_ble_eq_true rfl), (.cons ⟨_, rfl⟩ .nil)⟩, w_REQUESTS_k9_3 := fun _ => .inr ⟨_, _, _, w_REQUESTS_k9_3, rfl, rfl, len_line (Nat.le_of_ble_eq_true rfl), (.cons ⟨_, rfl⟩ (.cons rfl (.cons rfl .nil)))⟩, w_REQUESTS_k9_3_1 := fun _ => .inr ⟨_, _, _, w_REQUESTS_k9_3_1, rfl, rfl, len_line (Nat.le_of_ble_eq_true rfl), .nil⟩, w_REQUESTS_k9_4 := fun _ => .inr ⟨_, _, _, w_REQUESTS_k9_4, rfl, rfl, len_line (Nat.le_of_ble_eq_true rfl), (.cons ⟨_, rfl⟩ (.cons rfl (.cons rfl .nil)))⟩, w_REQUESTS_k9_4_1 := fun _ => .inr ⟨_, _, _, w_REQUESTS_k9_4_1, rfl, rfl, len_line (Nat.le_of_ble_eq_true rfl), .nil⟩, w_REQUESTS_k9_5 := fun _ => .inr ⟨_, _, _, w_REQUESTS_k9_5, rfl, rfl, len_line (Nat.le_of_ble_eq_true rfl), (.cons ⟨_, rfl⟩ (.cons rfl (.cons rfl .nil)))⟩, w_REQUESTS_k9_5_1 := fun _ => .inr ⟨_, _, _, w_REQUESTS_k9_5_1, rfl, rfl, len_line (Nat.le_of_ble_eq_true rfl), .nil⟩, w_REQUESTS_k10 := fun _ => .inr ⟨_, _, _, w_REQUESTS_k10, rfl, rfl, len_line (Nat.le_of_ble_eq_true rfl), (.cons rfl .nil)⟩, w_REQUESTS_k10_0 := fun _ => .inr ⟨_, _, _, w_REQUESTS_k10_0, rfl, rfl, len_line (Nat.le_of_ble_eq_true rfl), (.cons ⟨_, rfl⟩ (.cons rfl (.cons rfl .nil)))⟩, w_REQUESTS_k10_0_1 := fun _ => .inr ⟨_, _, _, w_REQUESTS_k10_0_1, rfl, rfl, len_line (Nat.le_of_ble_eq_true rfl), .nil⟩, w_REQUESTS_k11 := fun _ => .inr ⟨_, _, _, w_REQUESTS_k11, rfl, rfl, len_line (Nat.le_of_ble_eq_true rfl), (.cons rfl (.cons rfl .nil))⟩, w_REQUESTS_k11_0 := fun _ => .inr ⟨_, _, _, w_REQUESTS_k11_0, rfl, rfl, len_line (Nat.le_of_ble_eq_true rfl), (.cons ⟨_, rfl⟩ (.cons rfl (.cons rfl .nil)))⟩, w_REQUESTS_k11_0_1 := fun _ => .inr ⟨_, _, _, w_REQUESTS_k11_0_1, rfl, rfl, len_line (Nat.le_of_ble_eq_true rfl), (.cons ⟨_, rfl⟩ (.cons ⟨_, rfl⟩ .nil))⟩, w_REQUESTS_k11_1 := fun _ => .inr ⟨_, _, _, w_REQUESTS_k11_1, rfl, rfl, len_line (Nat.le_of_ble_eq_true rfl), (.cons ⟨_, rfl⟩ (.cons rfl (.cons rfl .nil)))⟩, w_REQUESTS_k11_1_1 := fun _ => .inr ⟨_, _, _, w_REQUESTS_k11_1_1, rfl, rfl, len_line (Nat.le_of_ble_eq_true rfl), (.cons ⟨_, rfl⟩ (.cons ⟨_, rfl⟩ (.cons ⟨_, rfl⟩ (.cons ⟨_, rfl⟩ (.cons ⟨_, rfl⟩ (.cons ⟨_, rfl⟩ (.cons ⟨_, rfl⟩ (.cons ⟨_, rfl⟩ (.cons ⟨_, rfl⟩ (.cons ⟨_, rfl⟩ (.cons ⟨_, rfl⟩ (.cons ⟨_, rfl⟩ (.cons ⟨_, rfl⟩ (.cons ⟨_, rfl⟩ (.cons ⟨_, rfl⟩ (.cons ⟨_, rfl⟩ (.cons ⟨_, rfl⟩ .nil)))))))))))))))))⟩, w_REQUESTS_k12 := fun _ => .inr ⟨_, _, _, w_REQUESTS_k12, rfl, rfl, len_line (Nat.le_of_ble_eq_true rfl), (.cons rfl (.cons rfl (.cons rfl (.cons rfl (.cons rfl (.cons rfl (.cons rfl (.cons rfl (.cons rfl (.cons rfl (.cons rfl (.cons rfl .nil))))))))))))⟩, w_REQUESTS_k12_0 := fun _ => .inr ⟨_, _, _, w_REQUESTS_k12_0, rfl, rfl, len_line (Nat.le_of_ble_eq_true rfl), (.cons ⟨_, rfl⟩ (.cons rfl (.cons rfl .nil)))⟩, w_REQUESTS_k12_0_1 := fun _ => .inr ⟨_, _, _, w_REQUESTS_k12_0_1, rfl, rfl, len_line (Nat.le_of_ble_eq_true rfl), .nil⟩, w_REQUESTS_k12_1 := fun _ => .inr ⟨_, _, _, w_REQUESTS_k12_1, rfl, rfl, len_line (Nat.le_of_ble_eq_true rfl), (.cons ⟨_, rfl⟩ (.cons rfl (.cons rfl .nil)))⟩, w_REQUESTS_k12_1_1 := fun _ => .inr ⟨_, _, _, w_REQUESTS_k12_1_1, rfl, rfl, len_line (Nat.le_of_ble_eq_true rfl), (.cons ⟨_, rfl⟩ .nil)⟩, w_REQUESTS_k12_2 := fun _ => .inr ⟨_, _, _, w_REQUESTS_k12_2, rfl, rfl, len_line (Nat.le_of_ble_eq_true rfl), (.cons ⟨_, rfl⟩ (.cons rfl (.cons rfl .nil)))⟩, w_REQUESTS_k12_2_1 := fun _ => .inr ⟨_, _, _, w_REQUESTS_k12_2_1, rfl, rfl, len_line (Nat.le_of_ble_eq_true rfl), (.cons ⟨_, rfl⟩ .nil)⟩, w_REQUESTS_k12_3 := fun _ => .inr ⟨_, _, _, w_REQUESTS_k12_3, rfl, rfl, len_line (Nat.le_of_ble_eq_true rfl), (.cons ⟨_, rfl⟩ (.cons rfl (.cons rfl .nil)))⟩, w_REQUESTS_k12_3_1 := fun _ => .inr ⟨_, _, _, w_REQUESTS_k12_3_1, rfl, rfl, len_line (Nat.le_of_ble_eq_true rfl), (.cons ⟨_, rfl⟩ (.cons ⟨_, rfl⟩ .nil))⟩, w_REQUESTS_k12_4 := fun _ => .inr ⟨_, _, _, w_REQUESTS_k12_4, rfl, rfl, len_line (Nat.le_of_ble_eq_true rfl), (.cons ⟨_, rfl⟩ (.cons rfl (.cons rfl .nil)))⟩, w_REQUESTS_k12_4_1 := fun _ => .inr ⟨_, _, _, w_REQUESTS_k12_4_1, rfl, rfl, len_line (Nat.le_of_ble_eq_true rfl), (.cons ⟨_, rfl⟩ (.cons ⟨_, rfl⟩ .nil))⟩, w_REQUESTS_k12_5 := fun _ => .inr ⟨_, _, _, w_REQUESTS_k12_5, rfl, rfl, len_line (Nat.le_of_ble_eq_true rfl), (.cons ⟨_, rfl⟩ (.cons rfl (.cons rfl .nil)))⟩, w_REQUESTS_k12_5_1 := fun _ => .inr ⟨_, _, _, w_REQUESTS_k12_5_1, rfl, rfl, len_line (Nat.le_of_ble_eq_true rfl), (.cons ⟨_, rfl⟩ .nil)⟩, w_REQUESTS_k12_6 := fun _ => .inr ⟨_, _, _, w_REQUESTS_k12_6, rfl, rfl, len_line (Nat.le_of_ble_eq_true rfl), (.cons ⟨_, rfl⟩ (.cons rfl (.cons rfl .nil)))⟩, w_REQUESTS_k12_6_1 := fun _ => .inr ⟨_, _, _, w_REQUESTS_k12_6_1, rfl, rfl, len_line (Nat.le_of_ble_eq_true rfl), (.cons ⟨_, rfl⟩ .nil)⟩, w_REQUESTS_k12_7 := fun _ => .inr ⟨_, _, _, w_REQUESTS_k12_7, rfl, rfl, len_line (Nat.le_of_ble_eq_true rfl), (.cons ⟨_, rfl⟩ (.cons rfl (.cons rfl .nil)))⟩, w_REQUESTS_k12_7_1 := fun _ => .inr ⟨_, _, _, w_REQUESTS_k12_7_1, rfl, rfl, len_line (Nat.le_of_ble_eq_true rfl), (.cons ⟨_, rfl⟩ (.cons ⟨_, rfl⟩ .nil))⟩, w_REQUESTS_k12_8 := fun _ => .inr ⟨_, _, _, w_REQUESTS_k12_8, rfl, rfl, len_line (Nat.le_of_ble_eq_true rfl), (.cons ⟨_, rfl⟩ (.cons rfl (.cons rfl .nil)))⟩, w_REQUESTS_k12_8_1 := fun _ => .inr ⟨_, _, _, w_REQUESTS_k12_8_1, rfl, rfl, len_line (Nat.le_of_ble_eq_true rfl), (.cons ⟨_, rfl⟩ (.cons ⟨_, rfl⟩ (.cons ⟨_, rfl⟩ .nil)))⟩, w_REQUESTS_k12_9 := fun _ => .inr ⟨_, _, _, w_REQUESTS_k12_9, rfl, rfl, len_line (Nat.le_of_ble_eq_true rfl), (.cons ⟨_, rfl⟩ (.cons rfl (.cons rfl .nil)))⟩, w_REQUESTS_k12_9_1 := fun _ => .inr ⟨_, _, _, w_REQUESTS_k12_9_1, rfl, rfl, len_line (Nat.le_of_ble_eq_true rfl), (.cons ⟨_, rfl⟩ .nil)⟩, w_REQUESTS_k12_10 := fun _ => .inr ⟨_, _, _, w_REQUESTS_k12_10, rfl, rfl, len_line (Nat.le_of_ble_eq_true rfl), (.cons ⟨_, rfl⟩ (.cons rfl (.cons rfl .nil)))⟩, w_REQUESTS_k12_10_1 := fun _ => .inr ⟨_, _, _, w_REQUESTS_k12_10_1, rfl, rfl, len_line (Nat.le_of_ble_eq_true rfl), (.cons ⟨_, rfl⟩ .nil)⟩, w_REQUESTS_k12_11 := fun _ => .inr ⟨_, _, _, w_REQUESTS_k12_11, rfl, rfl, len_line (Nat.le_of_ble_eq_true rfl), (.cons ⟨_, rfl⟩ (.cons rfl (.cons rfl .nil)))⟩, w_REQUESTS_k12_11_1 := fun _ => .inr ⟨_, _, _, w_REQUESTS_k12_11_1, rfl, rfl, len_line (Nat.le_of_ble_eq_true rfl), .nil⟩, w_REQUESTS_k13 := fun _ => .inr ⟨_, _, _, w_REQUESTS_k13, rfl, rfl, len_line (Nat.le_of_ble_eq_true rfl), (.cons rfl (.cons rfl .nil))⟩, w_REQUESTS_k13_0 := fun _ => .inr ⟨_, _, _, w_REQUESTS_k13_0, rfl, rfl, len_line (Nat.le_of_ble_eq_true rfl), (.cons ⟨_, rfl⟩ (.cons rfl (.cons rfl .nil)))⟩, w_REQUESTS_k13_0_1 := fun _ => .inr ⟨_, _, _, w_REQUESTS_k13_0_1, rfl, rfl, len_line (Nat.le_of_ble_eq_true rfl), .nil⟩, w_REQUESTS_k13_1 := fun _ => .inr ⟨_, _, _, w_REQUESTS_k13_1, rfl, rfl, len_line (Nat.le_of_ble_eq_true rfl), (.cons ⟨_, rfl⟩ (.cons rfl (.cons rfl .nil)))⟩, w_REQUESTS_k13_1_1 := fun _ => .inr ⟨_, _, _, w_REQUESTS_k13_1_1, rfl, rfl, len_line (Nat.le_of_ble_eq_true rfl), (.cons ⟨_, rfl⟩ (.cons ⟨_, rfl⟩ (.cons ⟨_, rfl⟩ (.cons ⟨_, rfl⟩ (.cons ⟨_, rfl⟩ (.cons ⟨_, rfl⟩ (.cons ⟨_, rfl⟩ (.cons ⟨_, rfl⟩ (.cons ⟨_, rfl⟩ (.cons ⟨_, rfl⟩ (.cons ⟨_, rfl⟩ (.cons ⟨_, rfl⟩ (.cons ⟨_, rfl⟩ .nil)))))))))))))⟩, w_REQUESTS_k14 := fun _ => .inr ⟨_, _, _, w_REQUESTS_k14, rfl, rfl, len_line (Nat.le_of_ble_eq_true rfl), (.cons rfl (.cons rfl .nil))⟩, w_REQUESTS_k14_0 := fun _ => .inr ⟨_, _, _, w_REQUESTS_k14_0, rfl, rfl, len_line (Nat.le_of_ble_eq_true rfl), (.cons ⟨_, rfl⟩ (.cons rfl (.cons rfl .nil)))⟩, w_REQUESTS_k14_0_1 := fun _ => .inr ⟨_, _, _, w_REQUESTS_k14_0_1, rfl, rfl, len_line (Nat.le_of_ble_eq_true rfl), (.cons ⟨_, rfl⟩ .nil)⟩, w_REQUESTS_k14_1 := fun _ => .inr ⟨_, _, _, w_REQUESTS_k14_1, rfl, rfl, len_line (Nat.le_of_ble_eq_true rfl), (.cons ⟨_, rfl⟩ (.cons rfl (.cons rfl .nil)))⟩, w_REQUESTS_k14_1_1 := fun _ => .inr ⟨_, _, _, w_REQUESTS_k14_1_1, rfl, rfl, len_line (Nat.le_of_ble_eq_true rfl), (.cons ⟨_, rfl⟩ .nil)⟩, w_REQUESTS_k15 := fun _ => .inr ⟨_, _, _, w_REQUESTS_k15, rfl, rfl, len_line (Nat.le_of_ble_eq_true rfl), (.cons rfl (.cons rfl .nil))⟩, w_REQUESTS_k15_0 := fun _ => .inr ⟨_, _, _, w_REQUESTS_k15_0, rfl, rfl, len_line (Nat.le_of_ble_eq_true rfl), (.cons ⟨_, rfl⟩ (.cons rfl (.cons rfl .nil)))⟩, w_REQUESTS_k15_0_1 := fun _ => .inr ⟨_, _, _, w_REQUESTS_k15_0_1, rfl, rfl, len_line (Nat.le_of_ble_eq_true rfl), .nil⟩, w_REQUESTS_k15_1 := fun _ => .inr ⟨_, _, _, w_REQUESTS_k15_1, rfl, rfl, len_line (Nat.le_of_ble_eq_true rfl), (.cons ⟨_, rfl⟩ (.cons rfl (.cons rfl .nil)))⟩, w_REQUESTS_k15_1_1 := fun _ => .inr ⟨_, _, _, w_REQUESTS_k15_1_1, rfl, rfl, len_line (Nat.le_of_ble_eq_true rfl), (.cons ⟨_, rfl⟩ .nil)⟩, w_REQUESTS_k16 := fun _ => .inr ⟨_, _, _, w_REQUESTS_k16, rfl, rfl, len_line (Nat.le_of_ble_eq_true rfl), (.cons rfl .nil)⟩, w_REQUESTS_k16_0 := fun _ => .inr ⟨_, _, _, w_REQUESTS_k16_0, rfl, rfl, len_line (Nat.le_of_ble_eq_true rfl), (.cons ⟨_, rfl⟩ (.cons rfl (.cons rfl .nil)))⟩, w_REQUESTS_k16_0_1 := fun _ => .inr ⟨_, _, _, w_REQUESTS_k16_0_1, rfl, rfl, len_line (Nat.le_of_ble_eq_true rfl), .nil⟩, w_REQUESTS_k17 := fun _ => .inr ⟨_, _, _, w_REQUESTS_k17, rfl, rfl, len_line (Nat.le_of_ble_eq_true rfl), (.cons rfl (.cons rfl (.cons rfl (.cons rfl (.cons rfl (.cons rfl (.cons rfl (.cons rfl (.cons rfl .nil)))))))))⟩, w_REQUESTS_k17_0 := fun _ => .inr ⟨_, _, _, w_REQUESTS_k17_0, rfl, rfl, len_line (Nat.le_of_ble_eq_true rfl), (.cons ⟨_, rfl⟩ (.cons rfl (.cons rfl .nil)))⟩, w_REQUESTS_k17_0_1 := fun _ => .inr ⟨_, _, _, w_REQUESTS_k17_0_1, rfl, rfl, len_line (Nat.le_of_ble_eq_true rfl), (.cons ⟨_, rfl⟩ .nil)⟩, w_REQUESTS_k17_1 := fun _ => .inr ⟨_, _, _, w_REQUESTS_k17_1, rfl, rfl, len_line (Nat.le_of_ble_eq_true rfl), (.cons ⟨_, rfl⟩ (.cons rfl (.cons rfl .nil)))⟩, w_REQUESTS_k17_1_1 := fun _ => .inr ⟨_, _, _, w_REQUESTS_k17_1_1, rfl, rfl, len_line (Nat.le_of_ble_eq_true rfl), (.cons ⟨_, rfl⟩ (.cons ⟨_, rfl⟩ (.cons ⟨_, rfl⟩ .nil)))⟩, w_REQUESTS_k17_2 := fun _ => .inr ⟨_, _, _, w_REQUESTS_k17_2, rfl, rfl, len_line (Nat.le_of_ble_eq_true rfl), (.cons ⟨_, rfl⟩ (.cons rfl (.cons rfl .nil)))⟩, w_REQUESTS_k17_2_1 := fun _ => .inr ⟨_, _, _, w_REQUESTS_k17_2_1, rfl, rfl, len_line (Nat.le_of_ble_eq_true rfl), (.cons ⟨_, rfl⟩ (.cons ⟨_, rfl⟩ .nil))⟩, w_REQUESTS_k17_3 := fun _ => .inr ⟨_, _, _, w_REQUESTS_k17_3, rfl, rfl, len_line (Nat.le_of_ble_eq_true rfl), (.cons ⟨_, rfl⟩ (.cons rfl (.cons rfl .nil)))⟩, w_REQUESTS_k17_3_1 := fun _ => .inr ⟨_, _, _, w_REQUESTS_k17_3_1, rfl, rfl, len_line (Nat.le_of_ble_eq_true rfl), (.cons ⟨_, rfl⟩ (.cons ⟨_, rfl⟩ .nil))⟩, w_REQUESTS_k17_4 := fun _ => .inr ⟨_, _, _, w_REQUESTS_k17_4, rfl, rfl, len_line (Nat.le_of_ble_eq_true rfl), (.cons ⟨_, rfl⟩ (.cons rfl (.cons rfl .nil)))⟩, w_REQUESTS_k17_4_1 := fun _ => .inr ⟨_, _, _, w_REQUESTS_k17_4_1, rfl, rfl, len_line (Nat.le_of_ble_eq_true rfl), (.cons ⟨_, rfl⟩ .nil)⟩, w_REQUESTS_k17_5 := fun _ => .inr ⟨_, _, _, w_REQUESTS_k17_5, rfl, rfl, len_line (Nat.le_of_ble_eq_true rfl), (.cons ⟨_, rfl⟩ (.cons rfl (.cons rfl .nil)))⟩, w_REQUESTS_k17_5_1 := fun _ => .inr ⟨_, _, _, w_REQUESTS_k17_5_1, rfl, rfl, len_line (Nat.le_of_ble_eq_true rfl), (.cons ⟨_, rfl⟩ (.cons ⟨_, rfl⟩ (.cons ⟨_, rfl⟩ (.cons ⟨_, rfl⟩ (.cons ⟨_, rfl⟩ (.cons ⟨_, rfl⟩ .nil))))))⟩, w_REQUESTS_k17_6 := fun _ => .inr ⟨_, _, _, w_REQUESTS_k17_6, rfl, rfl, len_line (Nat.le_of_ble_eq_true rfl), (.cons ⟨_, rfl⟩ (.cons rfl (.cons rfl .nil)))⟩, w_REQUESTS_k17_6_1 := fun _ => .inr ⟨_, _, _, w_REQUESTS_k17_6_1, rfl, rfl, len_line (Nat.le_of_ble_eq_true rfl), (.cons ⟨_, rfl⟩ (.cons ⟨_, rfl⟩ .nil))⟩, w_REQUESTS_k17_7 := fun _ => .inr ⟨_, _, _, w_REQUESTS_k17_7, rfl, rfl, len_line (Nat.le_of_ble_eq_true rfl), (.cons ⟨_, rfl⟩ (.cons rfl (.cons rfl .nil)))⟩, w_REQUESTS_k17_7_1 := fun _ => .inr ⟨_, _, _, w_REQUESTS_k17_7_1, rfl, rfl, len_line (Nat.le_of_ble_eq_true rfl), (.cons ⟨_, rfl⟩ (.cons ⟨_, rfl⟩ .nil))⟩, w_REQUESTS_k17_8 := fun _ => .inr ⟨_, _, _, w_REQUESTS_k17_8, rfl, rfl, len_line (Nat.le_of_ble_eq_true rfl), (.cons ⟨_, rfl⟩ (.cons rfl (.cons rfl .nil)))⟩, w_REQUESTS_k17_8_1 := fun _ => .inr ⟨_, _, _, w_REQUESTS_k17_8_1, rfl, rfl, len_line (Nat.le_of_ble_eq_true rfl), .nil⟩, w_REQUESTS_k18 := fun _ => .inr ⟨_, _, _, w_REQUESTS_k18, rfl, rfl, len_line (Nat.le_of_ble_eq_true rfl), (.cons rfl (.cons rfl .nil))⟩, w_REQUESTS_k18_0 := fun _ => .inr ⟨_, _, _, w_REQUESTS_k18_0, rfl, rfl, len_line (Nat.le_of_ble_eq_true rfl), (.cons ⟨_, rfl⟩ (.cons rfl (.cons rfl .nil)))⟩, w_REQUESTS_k18_0_1 := fun _ => .inr ⟨_, _, _, w_REQUESTS_k18_0_1, rfl, rfl, len_line (Nat.le_of_ble_eq_true rfl), (.cons ⟨_, rfl⟩ (.cons ⟨_, rfl⟩ .nil))⟩, w_REQUESTS_k18_1 := fun _ => .inr ⟨_, _, _, w_REQUESTS_k18_1, rfl, rfl, len_line (Nat.le_of_ble_eq_true rfl), (.cons ⟨_, rfl⟩ (.cons rfl (.cons rfl .nil)))⟩, w_REQUESTS_k18_1_1 := fun _ => .inr ⟨_, _, _, w_REQUESTS_k18_1_1, rfl, rfl, len_line (Nat.le_of_ble_eq_true rfl), .nil⟩, w_REQUESTS_k19 := fun _ => .inr ⟨_, _, _, w_REQUESTS_k19, rfl, rfl, len_line (Nat.le_of_ble_eq_true rfl), (.cons rfl (.cons rfl .nil))⟩, w_REQUESTS_k19_0 := fun _ => .inr ⟨_, _, _, w_REQUESTS_k19_0, rfl, rfl, len_line (Nat.le_of_ble_eq_true rfl), (.cons ⟨_, rfl⟩ (.cons rfl (.cons rfl .nil)))⟩, w_REQUESTS_k19_0_1 := fun _ => .inr ⟨_, _, _, w_REQUESTS_k19_0_1, rfl, rfl, len_line (Nat.le_of_ble_eq_true rfl), (.cons ⟨_, rfl⟩ (.cons ⟨_, rfl⟩ (.cons ⟨_, rfl⟩ .nil)))⟩, w_REQUESTS_k19_1 := fun _ => .inr ⟨_, _, _, w_REQUESTS_k19_1, rfl, rfl, len_line (Nat.le_of_ble_eq_true rfl), (.cons ⟨_, rfl⟩ (.cons rfl (.cons rfl .nil)))⟩, w_REQUESTS_k19_1_1 := fun _ => .inr ⟨_, _, _, w_REQUESTS_k19_1_1, rfl, rfl, len_line (Nat.le_of_ble_eq_true rfl), .nil⟩, w_REQUESTS_k20 := fun _ => .inr ⟨_, _, _, w_REQUESTS_k20, rfl, rfl, len_line (Nat.le_of_ble_eq_true rfl), (.cons rfl (.cons rfl .nil))⟩, w_REQUESTS_k20_0 := fun _ => .inr ⟨_, _, _, w_REQUESTS_k20_0, rfl, rfl, len_line (Nat.le_of_ble_eq_true rfl), (.cons ⟨_, rfl⟩ (.cons rfl (.cons rfl .nil)))⟩, w_REQUESTS_k20_0_1 := fun _ => .inr ⟨_, _, _, w_REQUESTS_k20_0_1, rfl, rfl, len_line (Nat.le_of_ble_eq_true rfl), (.cons ⟨_, rfl⟩ (.cons ⟨_, rfl⟩ .nil))⟩, w_REQUESTS_k20_1 := fun _ => .inr ⟨_, _, _, w_REQUESTS_k20_1, rfl, rfl, len_line (Nat.le_of_ble_eq_true rfl), (.cons ⟨_, rfl⟩ (.cons rfl (.cons rfl .nil)))⟩, w_REQUESTS_k20_1_1 := fun _ => .inr ⟨_, _, _, w_REQUESTS_k20_1_1, rfl, rfl, len_line (Nat.le_of_ble_eq_true rfl), .nil⟩, w_REQUESTS_k21 := fun _ => .inr ⟨_, _, _, w_REQUESTS_k21, rfl, rfl, len_line (Nat.le_of_ble_eq_true rfl), (.cons rfl (.cons rfl .nil))⟩, w_REQUESTS_k21_0 := fun _ => .inr ⟨_, _, _, w_REQUESTS_k21_0, rfl, rfl, len_line (Nat.le_of_ble_eq_true rfl), (.cons ⟨_, rfl⟩ (.cons rfl (.cons rfl .nil)))⟩, w_REQUESTS_k21_0_1 := fun _ => .inr ⟨_, _, _, w_REQUESTS_k21_0_1, rfl, rfl, len_line (Nat.le_of_ble_eq_true rfl), (.cons ⟨_, rfl⟩ (.cons ⟨_, rfl⟩ .nil))⟩, w_REQUESTS_k21_1 := fun _ => .inr ⟨_, _, _, w_REQUESTS_k21_1, rfl, rfl, len_line (Nat.le_of_ble_eq_true rfl), (.cons ⟨_, rfl⟩ (.cons rfl (.cons rfl .nil)))⟩, w_REQUESTS_k21_1_1 := fun _ => .inr ⟨_, _, _, w_REQUESTS_k21_1_1, rfl, rfl, len_line (Nat.le_of_ble_eq_true rfl), .nil⟩, w_REQUESTS_k22 := fun _ => .inr ⟨_, _, _, w_REQUESTS_k22, rfl, rfl, len_line (Nat.le_of_ble_eq_true rfl), (.cons rfl .nil)⟩, w_REQUESTS_k22_0 := fun _ => .inr ⟨_, _, _, w_REQUESTS_k22_0, rfl, rfl, len_line (Nat.le_of_ble_eq_true rfl), (.cons ⟨_, rfl⟩ (.cons rfl (.cons rfl .nil)))⟩, w_REQUESTS_k22_0_1 := fun _ => .inr ⟨_, _, _, w_REQUESTS_k22_0_1, rfl, rfl, len_line (Nat.le_of_ble_eq_true rfl), .nil⟩, g_EVENTS := PySem.W.mg_of X G q__EVENTS, w_EVENTS_k0 := fun _ => .inr ⟨_, _, _, w_EVENTS_k0, rfl, rfl, len_line (Nat.le_of_ble_eq_true rfl), (.cons rfl (.cons rfl .nil))⟩, w_EVENTS_k0_0 := fun _ => .inr ⟨_, _, _, w_EVENTS_k0_0, rfl, rfl, len_line (Nat.le_of_ble_eq_true rfl), (.cons ⟨_, rfl⟩ (.cons rfl .nil))⟩, w_EVENTS_k0_0_1 := fun _ => .inr ⟨_, _, _, w_EVENTS_k0_0_1, rfl, rfl, len_line (Nat.le_of_ble_eq_true rfl), (.cons ⟨_, rfl⟩ (.cons ⟨_, rfl⟩ (.cons ⟨_, rfl⟩ .nil)))⟩, w_EVENTS_k0_1 := fun _ => .inr ⟨_, _, _, w_EVENTS_k0_1, rfl, rfl, len_line (Nat.le_of_ble_eq_true rfl), (.cons ⟨_, rfl⟩ (.cons rfl .nil))⟩, w_EVENTS_k0_1_1 := fun _ => .inr ⟨_, _, _, w_EVENTS_k0_1_1, rfl, rfl, len_line (Nat.le_of_ble_eq_true rfl), (.cons ⟨_, rfl⟩ .nil)⟩, w_EVENTS_k1 := fun _ => .inr ⟨_, _, _, w_EVENTS_k1, rfl, rfl, len_line (Nat.le_of_ble_eq_true rfl), (.cons rfl .nil)⟩, w_EVENTS_k1_0 := fun _ => .inr ⟨_, _, _, w_EVENTS_k1_0, rfl, rfl, len_line (Nat.le_of_ble_eq_true rfl), (.cons ⟨_, rfl⟩ (.cons rfl .nil))⟩, w_EVENTS_k1_0_1 := fun _ => .inr ⟨_, _, _, w_EVENTS_k1_0_1, rfl, rfl, len_line (Nat.le_of_ble_eq_true rfl), (.cons ⟨_, rfl⟩ .nil)⟩, w_EVENTS_k2 := fun _ => .inr ⟨_, _, _, w_EVENTS_k2, rfl, rfl, len_line (Nat.le_of_ble_eq_true rfl), (.cons rfl (.cons rfl .nil))⟩, w_EVENTS_k2_0 := fun _ => .inr ⟨_, _, _, w_EVENTS_k2_0, rfl, rfl, len_line (Nat.le_of_ble_eq_true rfl), (.cons ⟨_, rfl⟩ (.cons rfl .nil))⟩, w_EVENTS_k2_0_1 := fun _ => .inr ⟨_, _, _, w_EVENTS_k2_0_1, rfl, rfl, len_line (Nat.le_of_ble_eq_true rfl), (.cons ⟨_, rfl⟩ (.cons ⟨_, rfl⟩ .nil))⟩, w_EVENTS_k2_1 := fun _ => .inr ⟨_, _, _, w_EVENTS_k2_1, rfl, rfl, len_line (Nat.le_of_ble_eq_true rfl), (.cons ⟨_, rfl⟩ (.cons rfl .nil))⟩, w_EVENTS_k2_1_1 := fun _ => .inr ⟨_, _, _, w_EVENTS_k2_1_1, rfl, rfl, len_line (Nat.le_of_ble_eq_true rfl), (.cons ⟨_, rfl⟩ .nil)⟩, w_EVENTS_k3 := fun _ => .inr ⟨_, _, _, w_EVENTS_k3, rfl, rfl, len_line (Nat.le_of_ble_eq_true rfl), (.cons rfl .nil)⟩, w_EVENTS_k3_0 := fun _ => .inr ⟨_, _, _, w_EVENTS_k3_0, rfl, rfl, len_line (Nat.le_of_ble_eq_true rfl), (.cons ⟨_, rfl⟩ (.cons rfl .nil))⟩, w_EVENTS_k3_0_1 := fun _ => .inr ⟨_, _, _, w_EVENTS_k3_0_1, rfl, rfl, len_line (Nat.le_of_ble_eq_true rfl), .nil⟩, w_EVENTS_k4 := fun _ => .inr ⟨_, _, _, w_EVENTS_k4, rfl, rfl, len_line (Nat.le_of_ble_eq_true rfl), (.cons rfl .nil)⟩, w_EVENTS_k4_0 := fun _ => .inr ⟨_, _, _, w_EVENTS_k4_0, rfl, rfl, len_line (Nat.le_of_ble_eq_true rfl), (.cons ⟨_, rfl⟩ (.cons rfl .nil))⟩, w_EVENTS_k4_0_1 := fun _ => .inr ⟨_, _, _, w_EVENTS_k4_0_1, rfl, rfl, len_line (Nat.le_of_ble_eq_true rfl), (.cons ⟨_, rfl⟩ (.cons ⟨_, rfl⟩ (.cons ⟨_, rfl⟩ (.cons ⟨_, rfl⟩ .nil))))⟩, w_EVENTS_k5 := fun _ => .inr ⟨_, _, _, w_EVENTS_k5, rfl, rfl, len_line (Nat.le_of_ble_eq_true rfl), (.cons rfl (.cons rfl (.cons rfl (.cons rfl .nil))))⟩, w_EVENTS_k5_0 := fun _ => .inr ⟨_, _, _, w_EVENTS_k5_0, rfl, rfl, len_line (Nat.le_of_ble_eq_true rfl), (.cons ⟨_, rfl⟩ (.cons rfl .nil))⟩, w_EVENTS_k5_0_1 := fun _ => .inr ⟨_, _, _, w_EVENTS_k5_0_1, rfl, rfl, len_line (Nat.le_of_ble_eq_true rfl), (.cons ⟨_, rfl⟩ (.cons ⟨_, rfl⟩ (.cons ⟨_, rfl⟩ (.cons ⟨_, rfl⟩ .nil))))⟩, w_EVENTS_k5_1 := fun _ => .inr ⟨_, _, _, w_EVENTS_k5_1, rfl, rfl, len_line (Nat.le_of_ble_eq_true rfl), (.cons ⟨_, rfl⟩ (.cons rfl .nil))⟩, w_EVENTS_k5_1_1 := fun _ => .inr ⟨_, _, _, w_EVENTS_k5_1_1, rfl, rfl, len_line (Nat.le_of_ble_eq_true rfl), .nil⟩, w_EVENTS_k5_2 := fun _ => .inr ⟨_, _, _, w_EVENTS_k5_2, rfl, rfl, len_line (Nat.le_of_ble_eq_true rfl), (.cons ⟨_, rfl⟩ (.cons rfl .nil))⟩, w_EVENTS_k5_2_1 := fun _ => .inr ⟨_, _, _, w_EVENTS_k5_2_1, rfl, rfl, len_line (Nat.le_of_ble_eq_true rfl), (.cons ⟨_, rfl⟩ .nil)⟩, w_EVENTS_k5_3 := fun _ => .inr ⟨_, _, _, w_EVENTS_k5_3, rfl, rfl, len_line (Nat.le_of_ble_eq_true rfl), (.cons ⟨_, rfl⟩ (.cons rfl .nil))⟩, w_EVENTS_k5_3_1 := fun _ => .inr ⟨_, _, _, w_EVENTS_k5_3_1, rfl, rfl, len_line (Nat.le_of_ble_eq_true rfl), (.cons ⟨_, rfl⟩ .nil)⟩, w_EVENTS_k6 := fun _ => .inr ⟨_, _, _, w_EVENTS_k6, rfl, rfl, len_line (Nat.le_of_ble_eq_true rfl), (.cons rfl (.cons rfl .nil))⟩, w_EVENTS_k6_0 := fun _ => .inr ⟨_, _, _, w_EVENTS_k6_0, rfl, rfl, len_line (Nat.le_of_ble_eq_true rfl), (.cons ⟨_, rfl⟩ (.cons rfl .nil))⟩, w_EVENTS_k6_0_1 := fun _ => .inr ⟨_, _, _, w_EVENTS_k6_0_1, rfl, rfl, len_line (Nat.le_of_ble_eq_true rfl), (.cons ⟨_, rfl⟩ (.cons ⟨_, rfl⟩ (.cons ⟨_, rfl⟩ (.cons ⟨_, rfl⟩ .nil))))⟩, w_EVENTS_k6_1 := fun _ => .inr ⟨_, _, _, w_EVENTS_k6_1, rfl, rfl, len_line (Nat.le_of_ble_eq_true rfl), (.cons ⟨_, rfl⟩ (.cons rfl .nil))⟩, w_EVENTS_k6_1_1 := fun _ => .inr ⟨_, _, _, w_EVENTS_k6_1_1, rfl, rfl, len_line (Nat.le_of_ble_eq_true rfl), .nil⟩, w_EVENTS_k7 := fun _ => .inr ⟨_, _, _, w_EVENTS_k7, rfl, rfl, len_line (Nat.le_of_ble_eq_true rfl), (.cons rfl (.cons rfl (.cons rfl (.cons rfl (.cons rfl .nil)))))⟩, w_EVENTS_k7_0 := fun _ => .inr ⟨_, _, _, w_EVENTS_k7_0, rfl, rfl, len_line (Nat.le_of_ble_eq_true rfl), (.cons ⟨_, rfl⟩ (.cons rfl .nil))⟩, w_EVENTS_k7_0_1 := fun _ => .inr ⟨_, _, _, w_EVENTS_k7_0_1, rfl, rfl, len_line (Nat.le_of_ble_eq_true rfl), (.cons ⟨_, rfl⟩ (.cons ⟨_, rfl⟩ (.cons ⟨_, rfl⟩ .nil)))⟩, w_EVENTS_k7_1 := fun _ => .inr ⟨_, _, _, w_EVENTS_k7_1, rfl, rfl, len_line (Nat.le_of_ble_eq_true rfl), (.cons ⟨_, rfl⟩ (.cons rfl .nil))⟩, w_EVENTS_k7_1_1 := fun _ => .inr ⟨_, _, _, w_EVENTS_k7_1_1, rfl, rfl, len_line (Nat.le_of_ble_eq_true rfl), (.cons ⟨_, rfl⟩ .nil)⟩, w_EVENTS_k7_2 := fun _ => .inr ⟨_, _, _, w_EVENTS_k7_2, rfl, rfl, len_line (Nat.le_of_ble_eq_true rfl), (.cons ⟨_, rfl⟩ (.cons rfl .nil))⟩, w_EVENTS_k7_2_1 := fun _ => .inr ⟨_, _, _, w_EVENTS_k7_2_1, rfl, rfl, len_line (Nat.le_of_ble_eq_true rfl), (.cons ⟨_, rfl⟩ (.cons ⟨_, rfl⟩ (.cons ⟨_, rfl⟩ .nil)))⟩, w_EVENTS_k7_3 := fun _ => .inr ⟨_, _, _, w_EVENTS_k7_3, rfl, rfl, len_line (Nat.le_of_ble_eq_true rfl), (.cons ⟨_, rfl⟩ (.cons rfl .nil))⟩, w_EVENTS_k7_3_1 := fun _ => .inr ⟨_, _, _, w_EVENTS_k7_3_1, rfl, rfl, len_line (Nat.le_of_ble_eq_true rfl), (.cons ⟨_, rfl⟩ (.cons ⟨_, rfl⟩ (.cons ⟨_, rfl⟩ (.cons ⟨_, rfl⟩ .nil))))⟩, w_EVENTS_k7_4 := fun _ => .inr ⟨_, _, _, w_EVENTS_k7_4, rfl, rfl, len_line (Nat.le_of_ble_eq_true rfl), (.cons ⟨_, rfl⟩ (.cons rfl .nil))⟩, w_EVENTS_k7_4_1 := fun _ => .inr ⟨_, _, _, w_EVENTS_k7_4_1, rfl, rfl, len_line (Nat.le_of_ble_eq_true rfl), (.cons ⟨_, rfl⟩ (.cons ⟨_, rfl⟩ (.cons ⟨_, rfl⟩ .nil)))⟩, w_EVENTS_k8 := fun _ => .inr ⟨_, _, _, w_EVENTS_k8, rfl, rfl, len_line (Nat.le_of_ble_eq_true rfl), (.cons rfl (.cons rfl (.cons rfl (.cons rfl (.cons rfl .nil)))))⟩, w_EVENTS_k8_0 := fun _ => .inr ⟨_, _, _, w_EVENTS_k8_0, rfl, rfl, len_line (Nat.le_of_ble_eq_true rfl), (.cons ⟨_, rfl⟩ (.cons rfl .nil))⟩, w_EVENTS_k8_0_1 := fun _ => .inr ⟨_, _, _, w_EVENTS_k8_0_1, rfl, rfl, len_line (Nat.le_of_ble_eq_true rfl), (.cons ⟨_, rfl⟩ .nil)⟩, w_EVENTS_k8_1 := fun _ => .inr ⟨_, _, _, w_EVENTS_k8_1, rfl, rfl, len_line (Nat.le_of_ble_eq_true rfl), (.cons ⟨_, rfl⟩ (.cons rfl .nil))⟩, w_EVENTS_k8_1_1 := fun _ => .inr ⟨_, _, _, w_EVENTS_k8_1_1, rfl, rfl, len_line (Nat.le_of_ble_eq_true rfl), (.cons ⟨_, rfl⟩ .nil)⟩, w_EVENTS_k8_2 := fun _ => .inr ⟨_, _, _, w_EVENTS_k8_2, rfl, rfl, len_line (Nat.le_of_ble_eq_true rfl), (.cons ⟨_, rfl⟩ (.cons rfl .nil))⟩, w_EVENTS_k8_2_1 := fun _ => .inr ⟨_, _, _, w_EVENTS_k8_2_1, rfl, rfl, len_line (Nat.le_of_ble_eq_true rfl), (.cons ⟨_, rfl⟩ .nil)⟩, w_EVENTS_k8_3 := fun _ => .inr ⟨_, _, _, w_EVENTS_k8_3, rfl, rfl, len_line (Nat.le_of_ble_eq_true rfl), (.cons ⟨_, rfl⟩ (.cons rfl .nil))⟩, w_EVENTS_k8_3_1 := fun _ => .inr ⟨_, _, _, w_EVENTS_k8_3_1, rfl, rfl, len_line (Nat.le_of_ble_eq_true rfl), (.cons ⟨_, rfl⟩ (.cons ⟨_, rfl⟩ (.cons ⟨_, rfl⟩ (.cons ⟨_, rfl⟩ .nil))))⟩, w_EVENTS_k8_4 := fun _ => .inr ⟨_, _, _, w_EVENTS_k8_4, rfl, rfl, len_line (Nat.le_of_ble_eq_true rfl), (.cons ⟨_, rfl⟩ (.cons rfl .nil))⟩, w_EVENTS_k8_4_1 := fun _ => .inr ⟨_, _, _, w_EVENTS_k8_4_1, rfl, rfl, len_line (Nat.le_of_ble_eq_true rfl), (.cons ⟨_, rfl⟩ (.cons ⟨_, rfl⟩ (.cons ⟨_, rfl⟩ .nil)))⟩, w_EVENTS_k9 := fun _ => .inr ⟨_, _, _, w_EVENTS_k9, rfl, rfl, len_line (Nat.le_of_ble_eq_true rfl), (.cons rfl (.cons rfl (.cons rfl (.cons rfl (.cons rfl (.cons rfl .nil))))))⟩, w_EVENTS_k9_0 := fun _ => .inr ⟨_, _, _, w_EVENTS_k9_0, rfl, rfl, len_line (Nat.le_of_ble_eq_true rfl), (.cons ⟨_, rfl⟩ (.cons rfl .nil))⟩, w_EVENTS_k9_0_1 := fun _ => .inr ⟨_, _, _, w_EVENTS_k9_0_1, rfl, rfl, len_line (Nat.le_of_ble_eq_true rfl), (.cons ⟨_, rfl⟩ (.cons ⟨_, rfl⟩ .nil))⟩, w_EVENTS_k9_1 := fun _ => .inr ⟨_, _, _, w_EVENTS_k9_1, rfl, rfl, len_line (Nat.le_of_ble_eq_true rfl), (.cons ⟨_, rfl⟩ (.cons rfl .nil))⟩, w_EVENTS_k9_1_1 := fun _ => .inr ⟨_, _, _, w_EVENTS_k9_1_1, rfl, rfl, len_line (Nat.le_of_ble_eq_true rfl), (.cons ⟨_, rfl⟩ (.cons ⟨_, rfl⟩ (.cons ⟨_, rfl⟩ .nil)))⟩, w_EVENTS_k9_2 := fun _ => .inr ⟨_, _, _, w_EVENTS_k9_2, rfl, rfl, len_line (Nat.le_of_ble_eq_true rfl), (.cons ⟨_, rfl⟩ (.cons rfl .nil))⟩, w_EVENTS_k9_2_1 := fun _ => .inr ⟨_, _, _, w_EVENTS_k9_2_1, rfl, rfl, len_line (Nat.le_of_ble_eq_true rfl), (.cons ⟨_, rfl⟩ .nil)⟩, w_EVENTS_k9_3 := fun _ => .inr ⟨_, _, _, w_EVENTS_k9_3, rfl, rfl, len_line (Nat.le_of_ble_eq_true rfl), (.cons ⟨_, rfl⟩ (.cons rfl .nil))⟩, w_EVENTS_k9_3_1 := fun _ => .inr ⟨_, _, _, w_EVENTS_k9_3_1, rfl, rfl, len_line (Nat.le_of_ble_eq_true rfl), (.cons ⟨_, rfl⟩ (.cons ⟨_, rfl⟩ (.cons ⟨_, rfl⟩ .nil)))⟩, w_EVENTS_k9_4 := fun _ => .inr ⟨_, _, _, w_EVENTS_k9_4, rfl, rfl, len_line (Nat.le_of_ble_eq_true rfl), (.cons ⟨_, rfl⟩ (.cons rfl .nil))⟩, w_EVENTS_k9_4_1 := fun _ => .inr ⟨_, _, _, w_EVENTS_k9_4_1, rfl, rfl, len_line (Nat.le_of_ble_eq_true rfl), .nil⟩, w_EVENTS_k9_5 := fun _ => .inr ⟨_, _, _, w_EVENTS_k9_5, rfl, rfl, len_line (Nat.le_of_ble_eq_true rfl), (.cons ⟨_, rfl⟩ (.cons rfl .nil))⟩, w_EVENTS_k9_5_1 := fun _ => .inr ⟨_, _, _, w_EVENTS_k9_5_1, rfl, rfl, len_line (Nat.le_of_ble_eq_true rfl), .nil⟩, w_EVENTS_k10 := fun _ => .inr ⟨_, _, _, w_EVENTS_k10, rfl, rfl, len_line (Nat.le_of_ble_eq_true rfl), (.cons rfl (.cons rfl .nil))⟩, w_EVENTS_k10_0 := fun _ => .inr ⟨_, _, _, w_EVENTS_k10_0, rfl, rfl, len_line (Nat.le_of_ble_eq_true rfl), (.cons ⟨_, rfl⟩ (.cons rfl .nil))⟩, w_EVENTS_k10_0_1 := fun _ => .inr ⟨_, _, _, w_EVENTS_k10_0_1, rfl, rfl, len_line (Nat.le_of_ble_eq_true rfl), (.cons ⟨_, rfl⟩ (.cons ⟨_, rfl⟩ .nil))⟩, w_EVENTS_k10_1 := fun _ => .inr ⟨_, _, _, w_EVENTS_k10_1, rfl, rfl, len_line (Nat.le_of_ble_eq_true rfl), (.cons ⟨_, rfl⟩ (.cons rfl .nil))⟩, w_EVENTS_k10_1_1 := fun _ => .inr ⟨_, _, _, w_EVENTS_k10_1_1, rfl, rfl, len_line (Nat.le_of_ble_eq_true rfl), (.cons ⟨_, rfl⟩ (.cons ⟨_, rfl⟩ (.cons ⟨_, rfl⟩ .nil)))⟩, w_EVENTS_k11 := fun _ => .inr ⟨_, _, _, w_EVENTS_k11, rfl, rfl, len_line (Nat.le_of_ble_eq_true rfl), (.cons rfl (.cons rfl (.cons rfl .nil)))⟩, w_EVENTS_k11_0 := fun _ => .inr ⟨_, _, _, w_EVENTS_k11_0, rfl, rfl, len_line (Nat.le_of_ble_eq_true rfl), (.cons ⟨_, rfl⟩ (.cons rfl .nil))⟩, w_EVENTS_k11_0_1 := fun _ => .inr ⟨_, _, _, w_EVENTS_k11_0_1, rfl, rfl, len_line (Nat.le_of_ble_eq_true rfl), (.cons ⟨_, rfl⟩ (.cons ⟨_, rfl⟩ .nil))⟩, w_EVENTS_k11_1 := fun _ => .inr ⟨_, _, _, w_EVENTS_k11_1, rfl, rfl, len_line (Nat.le_of_ble_eq_true rfl), (.cons ⟨_, rfl⟩ (.cons rfl .nil))⟩, w_EVENTS_k11_1_1 := fun _ => .inr ⟨_, _, _, w_EVENTS_k11_1_1, rfl, rfl, len_line (Nat.le_of_ble_eq_true rfl), .nil⟩, w_EVENTS_k11_2 := fun _ => .inr ⟨_, _, _, w_EVENTS_k11_2, rfl, rfl, len_line (Nat.le_of_ble_eq_true rfl), (.cons ⟨_, rfl⟩ (.cons rfl .nil))⟩, w_EVENTS_k11_2_1 := fun _ => .inr ⟨_, _, _, w_EVENTS_k11_2_1, rfl, rfl, len_line (Nat.le_of_ble_eq_true rfl), (.cons ⟨_, rfl⟩ (.cons ⟨_, rfl⟩ .nil))⟩, w_EVENTS_k12 := fun _ => .inr ⟨_, _, _, w_EVENTS_k12, rfl, rfl, len_line (Nat.le_of_ble_eq_true rfl), (.cons rfl (.cons rfl (.cons rfl .nil)))⟩, w_EVENTS_k12_0 := fun _ => .inr ⟨_, _, _, w_EVENTS_k12_0, rfl, rfl, len_line (Nat.le_of_ble_eq_true rfl), (.cons ⟨_, rfl⟩ (.cons rfl .nil))⟩, w_EVENTS_k12_0_1 := fun _ => .inr ⟨_, _, _, w_EVENTS_k12_0_1, rfl, rfl, len_line (Nat.le_of_ble_eq_true rfl), (.cons ⟨_, rfl⟩ .nil)⟩, w_EVENTS_k12_1 := fun _ => .inr ⟨_, _, _, w_EVENTS_k12_1, rfl, rfl, len_line (Nat.le_of_ble_eq_true rfl), (.cons ⟨_, rfl⟩ (.cons rfl .nil))⟩, w_EVENTS_k12_1_1 := fun _ => .inr ⟨_, _, _, w_EVENTS_k12_1_1, rfl, rfl, len_line (Nat.le_of_ble_eq_true rfl), .nil⟩, w_EVENTS_k12_2 := fun _ => .inr ⟨_, _, _, w_EVENTS_k12_2, rfl, rfl, len_line (Nat.le_of_ble_eq_true rfl), (.cons ⟨_, rfl⟩ (.cons rfl .nil))⟩, w_EVENTS_k12_2_1 := fun _ => .inr ⟨_, _, _, w_EVENTS_k12_2_1, rfl, rfl, len_line (Nat.le_of_ble_eq_true rfl), (.cons ⟨_, rfl⟩ (.cons ⟨_, rfl⟩ .nil))⟩, w_EVENTS_k13 := fun _ => .inr ⟨_, _, _, w_EVENTS_k13, rfl, rfl, len_line (Nat.le_of_ble_eq_true rfl), (.cons rfl (.cons rfl .nil))⟩, w_EVENTS_k13_0 := fun _ => .inr ⟨_, _, _, w_EVENTS_k13_0, rfl, rfl, len_line (Nat.le_of_ble_eq_true rfl), (.cons ⟨_, rfl⟩ (.cons rfl .nil))⟩, w_EVENTS_k13_0_1 := fun _ => .inr ⟨_, _, _, w_EVENTS_k13_0_1, rfl, rfl, len_line (Nat.le_of_ble_eq_true rfl), .nil⟩, w_EVENTS_k13_1 := fun _ => .inr ⟨_, _, _, w_EVENTS_k13_1, rfl, rfl, len_line (Nat.le_of_ble_eq_true rfl), (.cons ⟨_, rfl⟩ (.cons rfl .nil))⟩, w_EVENTS_k13_1_1 := fun _ => .inr ⟨_, _, _, w_EVENTS_k13_1_1, rfl, rfl, len_line (Nat.le_of_ble_eq_true rfl), .nil⟩, gBadMessage := PySem.W.mg_of X G uBadMessage, xBadMessage := xBadMessage, kBadMessage := keBadMessage, bxBadMessage := bxBadMessage, txBadMessage := txBadMessage, exBadMessage := exm_self bxBadMessage ixBadMessage txBadMessage sxBadMessage, gMessageTooLong := PySem.W.mg_of X G uMessageTooLong, xMessageTooLong := xMessageTooLong, kMessageTooLong := keMessageTooLong, bxMessageTooLong := bxMessageTooLong, txMessageTooLong := txMessageTooLong, exMessageTooLong := exm_self bxMessageTooLong ixMessageTooLong txMessageTooLong sxMessageTooLong }, { kk_REQUESTS := ⟨_, _, _, dl_REQUESTS, dk_REQUESTS, dv_REQUESTS, (.cons ⟨_, rfl⟩ (.cons ⟨_, rfl⟩ (.cons ⟨_, rfl⟩ (.cons ⟨_, rfl⟩ (.cons ⟨_, rfl⟩ (.cons ⟨_, rfl⟩ (.cons ⟨_, rfl⟩ (.cons ⟨_, rfl⟩ (.cons ⟨_, rfl⟩ (.cons ⟨_, rfl⟩ (.cons ⟨_, rfl⟩ (.cons ⟨_, rfl⟩ (.cons ⟨_, rfl⟩ (.cons ⟨_, rfl⟩ (.cons ⟨_, rfl⟩ (.cons ⟨_, rfl⟩ (.cons ⟨_, rfl⟩ (.cons ⟨_, rfl⟩ (.cons ⟨_, rfl⟩ (.cons ⟨_, rfl⟩ (.cons ⟨_, rfl⟩ (.cons ⟨_, rfl⟩ (.cons ⟨_, rfl⟩ .nil))))))))))))))))))))))), dy_REQUESTS⟩, d_REQUESTS_k0 := ⟨_, _, _, dl_REQUESTS, dk_REQUESTS, de_REQUESTS_k0, rfl⟩, d_REQUESTS_k1 := ⟨_, _, _, dl_REQUESTS, dk_REQUESTS, de_REQUESTS_k1, rfl⟩, d_REQUESTS_k2 := ⟨_, _, _, dl_REQUESTS, dk_REQUESTS, de_REQUESTS_k2, rfl⟩, d_REQUESTS_k3 := ⟨_, _, _, dl_REQUESTS, dk_REQUESTS, de_REQUESTS_k3, rfl⟩, d_REQUESTS_k4 := ⟨_, _, _, dl_REQUESTS, dk_REQUESTS, de_REQUESTS_k4, rfl⟩, d_REQUESTS_k5 := ⟨_, _, _, dl_REQUESTS, dk_REQUESTS, de_REQUESTS_k5, rfl⟩, d_REQUESTS_k6 := ⟨_, _, _, dl_REQUESTS, dk_REQUESTS, de_REQUESTS_k6, rfl⟩, d_REQUESTS_k7 := ⟨_, _, _, dl_REQUESTS, dk_REQUESTS, de_REQUESTS_k7, rfl⟩, d_REQUESTS_k8 := ⟨_, _, _, dl_REQUESTS, dk_REQUESTS, de_REQUESTS_k8, rfl⟩, d_REQUESTS_k9 := ⟨_, _, _, dl_REQUESTS, dk_REQUESTS, de_REQUESTS_k9, rfl⟩, d_REQUESTS_k10 := ⟨_, _, _, dl_REQUESTS, dk_REQUESTS, de_REQUESTS_k10, rfl⟩, d_REQUESTS_k11 := ⟨_, _, _, dl_REQUESTS, dk_REQUESTS, de_REQUESTS_k11, rfl⟩, d_REQUESTS_k12 := ⟨_, _, _, dl_REQUESTS, dk_REQUESTS, de_REQUESTS_k12, rfl⟩, d_REQUESTS_k13 := ⟨_, _, _, dl_REQUESTS, dk_REQUESTS, de_REQUESTS_k13, rfl⟩, d_REQUESTS_k14 := ⟨_, _, _, dl_REQUESTS, dk_REQUESTS, de_REQUESTS_k14, rfl⟩, d_REQUESTS_k15 := ⟨_, _, _, dl_REQUESTS, dk_REQUESTS, de_REQUESTS_k15, rfl⟩, d_REQUESTS_k16 := ⟨_, _, _, dl_REQUESTS, dk_REQUESTS, de_REQUESTS_k16, rfl⟩, d_REQUESTS_k17 := ⟨_, _, _, dl_REQUESTS, dk_REQUESTS, de_REQUESTS_k17, rfl⟩, d_REQUESTS_k18 := ⟨_, _, _, dl_REQUESTS, dk_REQUESTS, de_REQUESTS_k18, rfl⟩, d_REQUESTS_k19 := ⟨_, _, _, dl_REQUESTS, dk_REQUESTS, de_REQUESTS_k19, rfl⟩, d_REQUESTS_k20 := ⟨_, _, _, dl_REQUESTS, dk_REQUESTS, de_REQUESTS_k20, rfl⟩, d_REQUESTS_k21 := ⟨_, _, _, dl_REQUESTS, dk_REQUESTS, de_REQUESTS_k21, rfl⟩, d_REQUESTS_k22 := ⟨_, _, _, dl_REQUESTS, dk_REQUESTS, de_REQUESTS_k22, rfl⟩, kk_EVENTS := ⟨_, _, _, dl_EVENTS, dk_EVENTS, dv_EVENTS, (.cons ⟨_, rfl⟩ (.cons ⟨_, rfl⟩ (.cons ⟨_, rfl⟩ (.cons ⟨_, rfl⟩ (.cons ⟨_, rfl⟩ (.cons ⟨_, rfl⟩ (.cons ⟨_, rfl⟩ (.cons ⟨_, rfl⟩ (.cons ⟨_, rfl⟩ (.cons ⟨_, rfl⟩ (.cons ⟨_, rfl⟩ (.cons ⟨_, rfl⟩ (.cons ⟨_, rfl⟩ (.cons ⟨_, rfl⟩ .nil)))))))))))))), dy_EVENTS⟩, d_EVENTS_k0 := ⟨_, _, _, dl_EVENTS, dk_EVENTS, de_EVENTS_k0, rfl⟩, d_EVENTS_k1 := ⟨_, _, _, dl_EVENTS, dk_EVENTS, de_EVENTS_k1, rfl⟩, d_EVENTS_k2 := ⟨_, _, _, dl_EVENTS, dk_EVENTS, de_EVENTS_k2, rfl⟩, d_EVENTS_k3 := ⟨_, _, _, dl_EVENTS, dk_EVENTS, de_EVENTS_k3, rfl⟩, d_EVENTS_k4 := ⟨_, _, _, dl_EVENTS, dk_EVENTS, de_EVENTS_k4, rfl⟩, d_EVENTS_k5 := ⟨_, _, _, dl_EVENTS, dk_EVENTS, de_EVENTS_k5, rfl⟩, d_EVENTS_k6 := ⟨_, _, _, dl_EVENTS, dk_EVENTS, de_EVENTS_k6, rfl⟩, d_EVENTS_k7 := ⟨_, _, _, dl_EVENTS, dk_EVENTS, de_EVENTS_k7, rfl⟩, d_EVENTS_k8 := ⟨_, _, _, dl_EVENTS, dk_EVENTS, de_EVENTS_k8, rfl⟩, d_EVENTS_k9 := ⟨_, _, _, dl_EVENTS, dk_EVENTS, de_EVENTS_k9, rfl⟩, d_EVENTS_k10 := ⟨_, _, _, dl_EVENTS, dk_EVENTS, de_EVENTS_k10, rfl⟩, d_EVENTS_k11 := ⟨_, _, _, dl_EVENTS, dk_EVENTS, de_EVENTS_k11, rfl⟩, d_EVENTS_k12 := ⟨_, _, _, dl_EVENTS, dk_EVENTS, de_EVENTS_k12, rfl⟩, d_EVENTS_k13 := ⟨_, _, _, dl_EVENTS, dk_EVENTS, de_EVENTS_k13, rfl⟩ }, fun s v => .of_eq rfl⟩
theorem walk {l : PySem.W.OpenLaw} {q : Program} {loose : List Str} {XP : (Str → Option Value) → Heap → Prop} {YP : World → Heap → Prop} {d : DefRec} {K : Params → PySem.W.Frag} (hn : l.most = some 63) (hdf : d.params.defaults = [])
    (hY : ∀ (w : World) (h : Heap), YP w h → (K w.params).In h)
    (F : ∀ (w : World) (mg : Str → Option Value) (fa : Addr) (h : Heap), (K w.params).In h → h.Ns mainGlobals mg → mg d.name = some (.ref fa) →
      ∃ A : Adr, A.flaw = fa ∧ Txt (K w.params) mg A ∧ Dic w (K w.params) A ∧ (∀ (s : Shared) (v : Value), BindsTo s A.dlaw ⟨[v], []⟩ [("script", v)])) :
    PySem.W.WalkO q loose XP YP l.row.toRowW d [] (fun f vs => PySem.call f vs) :=
  L2.walk_of (n := 63) (k := 10) (x := "script") (CX := fun _ => CX0) (sp := fun w => sp_law (K w.params)) hn (by decide) hdf ⟨rfl, by decide, by decide⟩ hY (fun w mg fa h X G hfa => by
    obtain ⟨A, rfl, T, D, b⟩ := F w mg fa h X G hfa
    exact ⟨A.dlaw, b, fun base _ _ => ok_law T D⟩) (fun _ _ a ns hl _ hS => ⟨a, ns, rfl, hS, hl, fun _ => rfl⟩) fun _ _ _ _ _ z => z
end My
open PySem PySem.W PyProof.Rows
set_option maxRecDepth 100000 in
set_option maxHeartbeats 0 in
theorem PySem.Challenge.cw_sillwatch_k11_interface_table_holds : PySem.Challenge.rw_sillwatch_k11_interface_table.Holds := by
  w_on; o_law; k_head; (case hw => w_witness2)
  k_fill
  refine My.walk (l := PySem.Challenge.rw_sillwatch_k11_interface_table) rfl rfl (fun w h Y => PySem.W.kIn_of Y) ?F
  case F =>
    intro w mg fa h KX G hmg
    refine' My.all_mk KX G hmg ?a1 ?l1 ?c1 ?k1 ?a2 ?l2 ?c2 ?k2 ?a3 ?l3 ?c3 ?k3 ?a4 ?l4 ?c4 ?k4 ?a5 ?l5 ?c5 ?k5 ?a6 ?l6 ?c6 ?k6 ?a7 ?l7 ?c7 ?k7 ?a8 ?l8 ?c8 ?k8 ?a9 ?l9 ?c9 ?k9 ?a10 ?l10 ?c10 ?k10 ?a11 ?l11 ?c11 ?k11 ?a12 ?l12 ?c12 ?k12 ?a13 ?l13 ?c13 ?k13 ?a14 ?l14 ?c14 ?k14 ?a15 ?l15 ?c15 ?k15 ?a16 ?l16 ?c16 ?k16 ?a17 ?l17 ?c17 ?k17 ?a18 ?l18 ?c18 ?k18 ?a19 ?l19 ?c19 ?k19 ?a20 ?l20 ?c20 ?k20 ?a21 ?l21 ?c21 ?k21 ?a22 ?l22 ?c22 ?k22 ?a23 ?l23 ?c23 ?k23 ?a24 ?l24 ?c24 ?k24 ?a25 ?l25 ?c25 ?k25 ?a26 ?l26 ?c26 ?k26 ?a27 ?l27 ?c27 ?k27 ?a28 ?l28 ?c28 ?k28 ?a29 ?l29 ?c29 ?k29 ?a30 ?l30 ?c30 ?k30 ?a31 ?l31 ?c31 ?k31 ?z_all ?z_bool ?z_int ?z_isinstance ?z_len ?z_list ?z_max ?z_min ?z_ord ?z_range ?z_str ?z_tuple ?z_zip ?q_GREATEST_NUMBER ?q_LEAST_INT ?q_GREATEST_INT ?q_LONGEST_TEXT ?q_MOST_OCTETS ?q__FIRST_CODE ?q__LAST_CODE ?q__PERCENT_CODE ?q_HEADER_SIZE ?q_GREATEST_SIZE ?q_GREATEST_OPCODE ?q_MOST_ARGUMENTS ?q__REQUESTS ?dl_REQUESTS ?dk_REQUESTS ?dv_REQUESTS ?dy_REQUESTS ?de_REQUESTS_k0 ?de_REQUESTS_k1 ?de_REQUESTS_k2 ?de_REQUESTS_k3 ?de_REQUESTS_k4 ?de_REQUESTS_k5 ?de_REQUESTS_k6 ?de_REQUESTS_k7 ?de_REQUESTS_k8 ?de_REQUESTS_k9 ?de_REQUESTS_k10 ?de_REQUESTS_k11 ?de_REQUESTS_k12 ?de_REQUESTS_k13 ?de_REQUESTS_k14 ?de_REQUESTS_k15 ?de_REQUESTS_k16 ?de_REQUESTS_k17 ?de_REQUESTS_k18 ?de_REQUESTS_k19 ?de_REQUESTS_k20 ?de_REQUESTS_k21 ?de_REQUESTS_k22 ?w_REQUESTS_k0 ?w_REQUESTS_k0_0 ?w_REQUESTS_k0_0_1 ?w_REQUESTS_k0_1 ?w_REQUESTS_k0_1_1 ?w_REQUESTS_k1 ?w_REQUESTS_k2 ?w_REQUESTS_k2_0 ?w_REQUESTS_k2_0_1 ?w_REQUESTS_k3 ?w_REQUESTS_k3_0 ?w_REQUESTS_k3_0_1 ?w_REQUESTS_k3_1 ?w_REQUESTS_k3_1_1 ?w_REQUESTS_k4 ?w_REQUESTS_k4_0 ?w_REQUESTS_k4_0_1 ?w_REQUESTS_k4_1 ?w_REQUESTS_k4_1_1 ?w_REQUESTS_k4_2 ?w_REQUESTS_k4_2_1 ?w_REQUESTS_k5 ?w_REQUESTS_k5_0 ?w_REQUESTS_k5_0_1 ?w_REQUESTS_k5_1 ?w_REQUESTS_k5_1_1 ?w_REQUESTS_k5_2 ?w_REQUESTS_k5_2_1 ?w_REQUESTS_k6 ?w_REQUESTS_k6_0 ?w_REQUESTS_k6_0_1 ?w_REQUESTS_k6_1 ?w_REQUESTS_k6_1_1 ?w_REQUESTS_k6_2 ?w_REQUESTS_k6_2_1 ?w_REQUESTS_k7 ?w_REQUESTS_k7_0 ?w_REQUESTS_k7_0_1 ?w_REQUESTS_k7_1 ?w_REQUESTS_k7_1_1 ?w_REQUESTS_k7_2 ?w_REQUESTS_k7_2_1 ?w_REQUESTS_k7_3 ?w_REQUESTS_k7_3_1 ?w_REQUESTS_k7_4 ?w_REQUESTS_k7_4_1 ?w_REQUESTS_k7_5 ?w_REQUESTS_k7_5_1 ?w_REQUESTS_k7_6 ?w_REQUESTS_k7_6_1 ?w_REQUESTS_k8 ?w_REQUESTS_k8_0 ?w_REQUESTS_k8_0_1 ?w_REQUESTS_k8_1 ?w_REQUESTS_k8_1_1 ?w_REQUESTS_k9 ?w_REQUESTS_k9_0 ?w_REQUESTS_k9_0_1 ?w_REQUESTS_k9_1 ?w_REQUESTS_k9_1_1 ?w_REQUESTS_k9_2 ?w_REQUESTS_k9_2_1 ?w_REQUESTS_k9_3 ?w_REQUESTS_k9_3_1 ?w_REQUESTS_k9_4 ?w_REQUESTS_k9_4_1 ?w_REQUESTS_k9_5 ?w_REQUESTS_k9_5_1 ?w_REQUESTS_k10 ?w_REQUESTS_k10_0 ?w_REQUESTS_k10_0_1 ?w_REQUESTS_k11 ?w_REQUESTS_k11_0 ?w_REQUESTS_k11_0_1 ?w_REQUESTS_k11_1 ?w_REQUESTS_k11_1_1 ?w_REQUESTS_k12 ?w_REQUESTS_k12_0 ?w_REQUESTS_k12_0_1 ?w_REQUESTS_k12_1 ?w_REQUESTS_k12_1_1 ?w_REQUESTS_k12_2 ?w_REQUESTS_k12_2_1 ?w_REQUESTS_k12_3 ?w_REQUESTS_k12_3_1 ?w_REQUESTS_k12_4 ?w_REQUESTS_k12_4_1 ?w_REQUESTS_k12_5 ?w_REQUESTS_k12_5_1 ?w_REQUESTS_k12_6 ?w_REQUESTS_k12_6_1 ?w_REQUESTS_k12_7 ?w_REQUESTS_k12_7_1 ?w_REQUESTS_k12_8 ?w_REQUESTS_k12_8_1 ?w_REQUESTS_k12_9 ?w_REQUESTS_k12_9_1 ?w_REQUESTS_k12_10 ?w_REQUESTS_k12_10_1 ?w_REQUESTS_k12_11 ?w_REQUESTS_k12_11_1 ?w_REQUESTS_k13 ?w_REQUESTS_k13_0 ?w_REQUESTS_k13_0_1 ?w_REQUESTS_k13_1 ?w_REQUESTS_k13_1_1 ?w_REQUESTS_k14 ?w_REQUESTS_k14_0 ?w_REQUESTS_k14_0_1 ?w_REQUESTS_k14_1 ?w_REQUESTS_k14_1_1 ?w_REQUESTS_k15 ?w_REQUESTS_k15_0 ?w_REQUESTS_k15_0_1 ?w_REQUESTS_k15_1 ?w_REQUESTS_k15_1_1 ?w_REQUESTS_k16 ?w_REQUESTS_k16_0 ?w_REQUESTS_k16_0_1 ?w_REQUESTS_k17 ?w_REQUESTS_k17_0 ?w_REQUESTS_k17_0_1 ?w_REQUESTS_k17_1 ?w_REQUESTS_k17_1_1 ?w_REQUESTS_k17_2 ?w_REQUESTS_k17_2_1 ?w_REQUESTS_k17_3 ?w_REQUESTS_k17_3_1 ?w_REQUESTS_k17_4 ?w_REQUESTS_k17_4_1 ?w_REQUESTS_k17_5 ?w_REQUESTS_k17_5_1 ?w_REQUESTS_k17_6 ?w_REQUESTS_k17_6_1 ?w_REQUESTS_k17_7 ?w_REQUESTS_k17_7_1 ?w_REQUESTS_k17_8 ?w_REQUESTS_k17_8_1 ?w_REQUESTS_k18 ?w_REQUESTS_k18_0 ?w_REQUESTS_k18_0_1 ?w_REQUESTS_k18_1 ?w_REQUESTS_k18_1_1 ?w_REQUESTS_k19 ?w_REQUESTS_k19_0 ?w_REQUESTS_k19_0_1 ?w_REQUESTS_k19_1 ?w_REQUESTS_k19_1_1 ?w_REQUESTS_k20 ?w_REQUESTS_k20_0 ?w_REQUESTS_k20_0_1 ?w_REQUESTS_k20_1 ?w_REQUESTS_k20_1_1 ?w_REQUESTS_k21 ?w_REQUESTS_k21_0 ?w_REQUESTS_k21_0_1 ?w_REQUESTS_k21_1 ?w_REQUESTS_k21_1_1 ?w_REQUESTS_k22 ?w_REQUESTS_k22_0 ?w_REQUESTS_k22_0_1 ?q__EVENTS ?dl_EVENTS ?dk_EVENTS ?dv_EVENTS ?dy_EVENTS ?de_EVENTS_k0 ?de_EVENTS_k1 ?de_EVENTS_k2 ?de_EVENTS_k3 ?de_EVENTS_k4 ?de_EVENTS_k5 ?de_EVENTS_k6 ?de_EVENTS_k7 ?de_EVENTS_k8 ?de_EVENTS_k9 ?de_EVENTS_k10 ?de_EVENTS_k11 ?de_EVENTS_k12 ?de_EVENTS_k13 ?w_EVENTS_k0 ?w_EVENTS_k0_0 ?w_EVENTS_k0_0_1 ?w_EVENTS_k0_1 ?w_EVENTS_k0_1_1 ?w_EVENTS_k1 ?w_EVENTS_k1_0 ?w_EVENTS_k1_0_1 ?w_EVENTS_k2 ?w_EVENTS_k2_0 ?w_EVENTS_k2_0_1 ?w_EVENTS_k2_1 ?w_EVENTS_k2_1_1 ?w_EVENTS_k3 ?w_EVENTS_k3_0 ?w_EVENTS_k3_0_1 ?w_EVENTS_k4 ?w_EVENTS_k4_0 ?w_EVENTS_k4_0_1 ?w_EVENTS_k5 ?w_EVENTS_k5_0 ?w_EVENTS_k5_0_1 ?w_EVENTS_k5_1 ?w_EVENTS_k5_1_1 ?w_EVENTS_k5_2 ?w_EVENTS_k5_2_1 ?w_EVENTS_k5_3 ?w_EVENTS_k5_3_1 ?w_EVENTS_k6 ?w_EVENTS_k6_0 ?w_EVENTS_k6_0_1 ?w_EVENTS_k6_1 ?w_EVENTS_k6_1_1 ?w_EVENTS_k7 ?w_EVENTS_k7_0 ?w_EVENTS_k7_0_1 ?w_EVENTS_k7_1 ?w_EVENTS_k7_1_1 ?w_EVENTS_k7_2 ?w_EVENTS_k7_2_1 ?w_EVENTS_k7_3 ?w_EVENTS_k7_3_1 ?w_EVENTS_k7_4 ?w_EVENTS_k7_4_1 ?w_EVENTS_k8 ?w_EVENTS_k8_0 ?w_EVENTS_k8_0_1 ?w_EVENTS_k8_1 ?w_EVENTS_k8_1_1 ?w_EVENTS_k8_2 ?w_EVENTS_k8_2_1 ?w_EVENTS_k8_3 ?w_EVENTS_k8_3_1 ?w_EVENTS_k8_4 ?w_EVENTS_k8_4_1 ?w_EVENTS_k9 ?w_EVENTS_k9_0 ?w_EVENTS_k9_0_1 ?w_EVENTS_k9_1 ?w_EVENTS_k9_1_1 ?w_EVENTS_k9_2 ?w_EVENTS_k9_2_1 ?w_EVENTS_k9_3 ?w_EVENTS_k9_3_1 ?w_EVENTS_k9_4 ?w_EVENTS_k9_4_1 ?w_EVENTS_k9_5 ?w_EVENTS_k9_5_1 ?w_EVENTS_k10 ?w_EVENTS_k10_0 ?w_EVENTS_k10_0_1 ?w_EVENTS_k10_1 ?w_EVENTS_k10_1_1 ?w_EVENTS_k11 ?w_EVENTS_k11_0 ?w_EVENTS_k11_0_1 ?w_EVENTS_k11_1 ?w_EVENTS_k11_1_1 ?w_EVENTS_k11_2 ?w_EVENTS_k11_2_1 ?w_EVENTS_k12 ?w_EVENTS_k12_0 ?w_EVENTS_k12_0_1 ?w_EVENTS_k12_1 ?w_EVENTS_k12_1_1 ?w_EVENTS_k12_2 ?w_EVENTS_k12_2_1 ?w_EVENTS_k13 ?w_EVENTS_k13_0 ?w_EVENTS_k13_0_1 ?w_EVENTS_k13_1 ?w_EVENTS_k13_1_1 ?uBadMessage ?xBadMessage ?keBadMessage ?bxBadMessage ?txBadMessage ?ixBadMessage ?sxBadMessage ?uMessageTooLong ?xMessageTooLong ?keMessageTooLong ?bxMessageTooLong ?txMessageTooLong ?ixMessageTooLong ?sxMessageTooLong
    (case uBadMessage => k_is)
    (case uMessageTooLong => k_is)
    (case a1 => k_is)
    (case l1 => k_is)
    (case c1 => k_is)
    (case k1 => k_is)
    (case a2 => k_is)
    (case l2 => k_is)
    (case c2 => k_is)
    (case k2 => k_is)
    (case a3 => k_is)
    (case l3 => k_is)
    (case c3 => k_is)
    (case k3 => k_is)
    (case a4 => k_is)
    (case l4 => k_is)
    (case c4 => k_is)
    (case k4 => k_is)
    (case a5 => k_is)
    (case l5 => k_is)
    (case c5 => k_is)
    (case k5 => k_is)
    (case a6 => k_is)
    (case l6 => k_is)
    (case c6 => k_is)
    (case k6 => k_is)
    (case a7 => k_is)
    (case l7 => k_is)
    (case c7 => k_is)
    (case k7 => k_is)
    (case a8 => k_is)
    (case l8 => k_is)
    (case c8 => k_is)
    (case k8 => k_is)
    (case a9 => k_is)
    (case l9 => k_is)
    (case c9 => k_is)
    (case k9 => k_is)
    (case a10 => k_is)
    (case l10 => k_is)
    (case c10 => k_is)
    (case k10 => k_is)
    (case a11 => k_is)
    (case l11 => k_is)
    (case c11 => k_is)
    (case k11 => k_is)
    (case a12 => k_is)
    (case l12 => k_is)
    (case c12 => k_is)
    (case k12 => k_is)
    (case a13 => k_is)
    (case l13 => k_is)
    (case c13 => k_is)
    (case k13 => k_is)
    (case a14 => k_is)
    (case l14 => k_is)
    (case c14 => k_is)
    (case k14 => k_is)
    (case a15 => k_is)
    (case l15 => k_is)
    (case c15 => k_is)
    (case k15 => k_is)
    (case a16 => k_is)
    (case l16 => k_is)
    (case c16 => k_is)
    (case k16 => k_is)
    (case a17 => k_is)
    (case l17 => k_is)
    (case c17 => k_is)
    (case k17 => k_is)
    (case a18 => k_is)
    (case l18 => k_is)
    (case c18 => k_is)
    (case k18 => k_is)
    (case a19 => k_is)
    (case l19 => k_is)
    (case c19 => k_is)
    (case k19 => k_is)
    (case a20 => k_is)
    (case l20 => k_is)
    (case c20 => k_is)
    (case k20 => k_is)
    (case a21 => k_is)
    (case l21 => k_is)
    (case c21 => k_is)
    (case k21 => k_is)
    (case a22 => k_is)
    (case l22 => k_is)
    (case c22 => k_is)
    (case k22 => k_is)
    (case a23 => k_is)
    (case l23 => k_is)
    (case c23 => k_is)
    (case k23 => k_is)
    (case a24 => k_is)
    (case l24 => k_is)
    (case c24 => k_is)
    (case k24 => k_is)
    (case a25 => k_is)
    (case l25 => k_is)
    (case c25 => k_is)
    (case k25 => k_is)
    (case a26 => k_is)
    (case l26 => k_is)
    (case c26 => k_is)
    (case k26 => k_is)
    (case a27 => k_is)
    (case l27 => k_is)
    (case c27 => k_is)
    (case k27 => k_is)
    (case a28 => k_is)
    (case l28 => k_is)
    (case c28 => k_is)
    (case k28 => k_is)
    (case a29 => k_is)
    (case l29 => k_is)
    (case c29 => k_is)
    (case k29 => k_is)
    (case a30 => k_is)
    (case l30 => k_is)
    (case c30 => k_is)
    (case k30 => k_is)
    (case a31 => k_is)
    (case l31 => k_is)
    (case c31 => k_is)
    (case k31 => k_is)
    (case z_all => k_is)
    (case z_bool => k_is)
    (case z_int => k_is)
    (case z_isinstance => k_is)
    (case z_len => k_is)
    (case z_list => k_is)
    (case z_max => k_is)
    (case z_min => k_is)
    (case z_ord => k_is)
    (case z_range => k_is)
    (case z_str => k_is)
    (case z_tuple => k_is)
    (case z_zip => k_is)
    (case q_GREATEST_NUMBER => k_is)
    (case q_LEAST_INT => k_is)
    (case q_GREATEST_INT => k_is)
    (case q_LONGEST_TEXT => k_is)
    (case q_MOST_OCTETS => k_is)
    (case q__FIRST_CODE => k_is)
    (case q__LAST_CODE => k_is)
    (case q__PERCENT_CODE => k_is)
    (case q_HEADER_SIZE => k_is)
    (case q_GREATEST_SIZE => k_is)
    (case q_GREATEST_OPCODE => k_is)
    (case q_MOST_ARGUMENTS => k_is)
    (case q__REQUESTS => k_is)
    (case dl_REQUESTS => k_is)
    (case dk_REQUESTS => k_keys)
    (case dv_REQUESTS => first | rfl | decide +kernel)
    (case dy_REQUESTS => first | rfl | decide +kernel)
    (case de_REQUESTS_k0 => k_is)
    (case de_REQUESTS_k1 => k_is)
    (case de_REQUESTS_k2 => k_is)
    (case de_REQUESTS_k3 => k_is)
    (case de_REQUESTS_k4 => k_is)
    (case de_REQUESTS_k5 => k_is)
    (case de_REQUESTS_k6 => k_is)
    (case de_REQUESTS_k7 => k_is)
    (case de_REQUESTS_k8 => k_is)
    (case de_REQUESTS_k9 => k_is)
    (case de_REQUESTS_k10 => k_is)
    (case de_REQUESTS_k11 => k_is)
    (case de_REQUESTS_k12 => k_is)
    (case de_REQUESTS_k13 => k_is)
    (case de_REQUESTS_k14 => k_is)
    (case de_REQUESTS_k15 => k_is)
    (case de_REQUESTS_k16 => k_is)
    (case de_REQUESTS_k17 => k_is)
    (case de_REQUESTS_k18 => k_is)
    (case de_REQUESTS_k19 => k_is)
    (case de_REQUESTS_k20 => k_is)
    (case de_REQUESTS_k21 => k_is)
    (case de_REQUESTS_k22 => k_is)
    (case w_REQUESTS_k0 => k_is)
    (case w_REQUESTS_k0_0 => k_is)
    (case w_REQUESTS_k0_0_1 => k_is)
    (case w_REQUESTS_k0_1 => k_is)
    (case w_REQUESTS_k0_1_1 => k_is)
    (case w_REQUESTS_k1 => k_is)
    (case w_REQUESTS_k2 => k_is)
    (case w_REQUESTS_k2_0 => k_is)
    (case w_REQUESTS_k2_0_1 => k_is)
    (case w_REQUESTS_k3 => k_is)
    (case w_REQUESTS_k3_0 => k_is)
    (case w_REQUESTS_k3_0_1 => k_is)
    (case w_REQUESTS_k3_1 => k_is)
    (case w_REQUESTS_k3_1_1 => k_is)
    (case w_REQUESTS_k4 => k_is)
    (case w_REQUESTS_k4_0 => k_is)
    (case w_REQUESTS_k4_0_1 => k_is)
    (case w_REQUESTS_k4_1 => k_is)
    (case w_REQUESTS_k4_1_1 => k_is)
    (case w_REQUESTS_k4_2 => k_is)
    (case w_REQUESTS_k4_2_1 => k_is)
    (case w_REQUESTS_k5 => k_is)
    (case w_REQUESTS_k5_0 => k_is)
    (case w_REQUESTS_k5_0_1 => k_is)
    (case w_REQUESTS_k5_1 => k_is)
    (case w_REQUESTS_k5_1_1 => k_is)
    (case w_REQUESTS_k5_2 => k_is)
    (case w_REQUESTS_k5_2_1 => k_is)
    (case w_REQUESTS_k6 => k_is)
    (case w_REQUESTS_k6_0 => k_is)
    (case w_REQUESTS_k6_0_1 => k_is)
    (case w_REQUESTS_k6_1 => k_is)
    (case w_REQUESTS_k6_1_1 => k_is)
    (case w_REQUESTS_k6_2 => k_is)
    (case w_REQUESTS_k6_2_1 => k_is)
    (case w_REQUESTS_k7 => k_is)
    (case w_REQUESTS_k7_0 => k_is)
    (case w_REQUESTS_k7_0_1 => k_is)
    (case w_REQUESTS_k7_1 => k_is)
    (case w_REQUESTS_k7_1_1 => k_is)
    (case w_REQUESTS_k7_2 => k_is)
    (case w_REQUESTS_k7_2_1 => k_is)
    (case w_REQUESTS_k7_3 => k_is)
    (case w_REQUESTS_k7_3_1 => k_is)
    (case w_REQUESTS_k7_4 => k_is)
    (case w_REQUESTS_k7_4_1 => k_is)
    (case w_REQUESTS_k7_5 => k_is)
    (case w_REQUESTS_k7_5_1 => k_is)
    (case w_REQUESTS_k7_6 => k_is)
    (case w_REQUESTS_k7_6_1 => k_is)
    (case w_REQUESTS_k8 => k_is)
    (case w_REQUESTS_k8_0 => k_is)
    (case w_REQUESTS_k8_0_1 => k_is)
    (case w_REQUESTS_k8_1 => k_is)
    (case w_REQUESTS_k8_1_1 => k_is)
    (case w_REQUESTS_k9 => k_is)
    (case w_REQUESTS_k9_0 => k_is)
    (case w_REQUESTS_k9_0_1 => k_is)
    (case w_REQUESTS_k9_1 => k_is)
    (case w_REQUESTS_k9_1_1 => k_is)
    (case w_REQUESTS_k9_2 => k_is)
    (case w_REQUESTS_k9_2_1 => k_is)
    (case w_REQUESTS_k9_3 => k_is)
    (case w_REQUESTS_k9_3_1 => k_is)
    (case w_REQUESTS_k9_4 => k_is)
    (case w_REQUESTS_k9_4_1 => k_is)
    (case w_REQUESTS_k9_5 => k_is)
    (case w_REQUESTS_k9_5_1 => k_is)
    (case w_REQUESTS_k10 => k_is)
    (case w_REQUESTS_k10_0 => k_is)
    (case w_REQUESTS_k10_0_1 => k_is)
    (case w_REQUESTS_k11 => k_is)
    (case w_REQUESTS_k11_0 => k_is)
    (case w_REQUESTS_k11_0_1 => k_is)
    (case w_REQUESTS_k11_1 => k_is)
    (case w_REQUESTS_k11_1_1 => k_is)
    (case w_REQUESTS_k12 => k_is)
    (case w_REQUESTS_k12_0 => k_is)
    (case w_REQUESTS_k12_0_1 => k_is)
    (case w_REQUESTS_k12_1 => k_is)
    (case w_REQUESTS_k12_1_1 => k_is)
    (case w_REQUESTS_k12_2 => k_is)
    (case w_REQUESTS_k12_2_1 => k_is)
    (case w_REQUESTS_k12_3 => k_is)
    (case w_REQUESTS_k12_3_1 => k_is)
    (case w_REQUESTS_k12_4 => k_is)
    (case w_REQUESTS_k12_4_1 => k_is)
    (case w_REQUESTS_k12_5 => k_is)
    (case w_REQUESTS_k12_5_1 => k_is)
    (case w_REQUESTS_k12_6 => k_is)
    (case w_REQUESTS_k12_6_1 => k_is)
    (case w_REQUESTS_k12_7 => k_is)
    (case w_REQUESTS_k12_7_1 => k_is)
    (case w_REQUESTS_k12_8 => k_is)
    (case w_REQUESTS_k12_8_1 => k_is)
    (case w_REQUESTS_k12_9 => k_is)
    (case w_REQUESTS_k12_9_1 => k_is)
    (case w_REQUESTS_k12_10 => k_is)
    (case w_REQUESTS_k12_10_1 => k_is)
    (case w_REQUESTS_k12_11 => k_is)
    (case w_REQUESTS_k12_11_1 => k_is)
    (case w_REQUESTS_k13 => k_is)
    (case w_REQUESTS_k13_0 => k_is)
    (case w_REQUESTS_k13_0_1 => k_is)
    (case w_REQUESTS_k13_1 => k_is)
    (case w_REQUESTS_k13_1_1 => k_is)
    (case w_REQUESTS_k14 => k_is)
    (case w_REQUESTS_k14_0 => k_is)
    (case w_REQUESTS_k14_0_1 => k_is)
    (case w_REQUESTS_k14_1 => k_is)
    (case w_REQUESTS_k14_1_1 => k_is)
    (case w_REQUESTS_k15 => k_is)
    (case w_REQUESTS_k15_0 => k_is)
    (case w_REQUESTS_k15_0_1 => k_is)
    (case w_REQUESTS_k15_1 => k_is)
    (case w_REQUESTS_k15_1_1 => k_is)
    (case w_REQUESTS_k16 => k_is)
    (case w_REQUESTS_k16_0 => k_is)
    (case w_REQUESTS_k16_0_1 => k_is)
    (case w_REQUESTS_k17 => k_is)
    (case w_REQUESTS_k17_0 => k_is)
    (case w_REQUESTS_k17_0_1 => k_is)
    (case w_REQUESTS_k17_1 => k_is)
    (case w_REQUESTS_k17_1_1 => k_is)
    (case w_REQUESTS_k17_2 => k_is)
    (case w_REQUESTS_k17_2_1 => k_is)
    (case w_REQUESTS_k17_3 => k_is)
    (case w_REQUESTS_k17_3_1 => k_is)
    (case w_REQUESTS_k17_4 => k_is)
    (case w_REQUESTS_k17_4_1 => k_is)
    (case w_REQUESTS_k17_5 => k_is)
    (case w_REQUESTS_k17_5_1 => k_is)
    (case w_REQUESTS_k17_6 => k_is)
    (case w_REQUESTS_k17_6_1 => k_is)
    (case w_REQUESTS_k17_7 => k_is)
    (case w_REQUESTS_k17_7_1 => k_is)
    (case w_REQUESTS_k17_8 => k_is)
    (case w_REQUESTS_k17_8_1 => k_is)
    (case w_REQUESTS_k18 => k_is)
    (case w_REQUESTS_k18_0 => k_is)
    (case w_REQUESTS_k18_0_1 => k_is)
    (case w_REQUESTS_k18_1 => k_is)
    (case w_REQUESTS_k18_1_1 => k_is)
    (case w_REQUESTS_k19 => k_is)
    (case w_REQUESTS_k19_0 => k_is)
    (case w_REQUESTS_k19_0_1 => k_is)
    (case w_REQUESTS_k19_1 => k_is)
    (case w_REQUESTS_k19_1_1 => k_is)
    (case w_REQUESTS_k20 => k_is)
    (case w_REQUESTS_k20_0 => k_is)
    (case w_REQUESTS_k20_0_1 => k_is)
    (case w_REQUESTS_k20_1 => k_is)
    (case w_REQUESTS_k20_1_1 => k_is)
    (case w_REQUESTS_k21 => k_is)
    (case w_REQUESTS_k21_0 => k_is)
    (case w_REQUESTS_k21_0_1 => k_is)
    (case w_REQUESTS_k21_1 => k_is)
    (case w_REQUESTS_k21_1_1 => k_is)
    (case w_REQUESTS_k22 => k_is)
    (case w_REQUESTS_k22_0 => k_is)
    (case w_REQUESTS_k22_0_1 => k_is)
    (case q__EVENTS => k_is)
    (case dl_EVENTS => k_is)
    (case dk_EVENTS => k_keys)
    (case dv_EVENTS => first | rfl | decide +kernel)
    (case dy_EVENTS => first | rfl | decide +kernel)
    (case de_EVENTS_k0 => k_is)
    (case de_EVENTS_k1 => k_is)
    (case de_EVENTS_k2 => k_is)
    (case de_EVENTS_k3 => k_is)
    (case de_EVENTS_k4 => k_is)
    (case de_EVENTS_k5 => k_is)
    (case de_EVENTS_k6 => k_is)
    (case de_EVENTS_k7 => k_is)
    (case de_EVENTS_k8 => k_is)
    (case de_EVENTS_k9 => k_is)
    (case de_EVENTS_k10 => k_is)
    (case de_EVENTS_k11 => k_is)
    (case de_EVENTS_k12 => k_is)
    (case de_EVENTS_k13 => k_is)
    (case w_EVENTS_k0 => k_is)
    (case w_EVENTS_k0_0 => k_is)
    (case w_EVENTS_k0_0_1 => k_is)
    (case w_EVENTS_k0_1 => k_is)
    (case w_EVENTS_k0_1_1 => k_is)
    (case w_EVENTS_k1 => k_is)
    (case w_EVENTS_k1_0 => k_is)
    (case w_EVENTS_k1_0_1 => k_is)
    (case w_EVENTS_k2 => k_is)
    (case w_EVENTS_k2_0 => k_is)
    (case w_EVENTS_k2_0_1 => k_is)
    (case w_EVENTS_k2_1 => k_is)
    (case w_EVENTS_k2_1_1 => k_is)
    (case w_EVENTS_k3 => k_is)
    (case w_EVENTS_k3_0 => k_is)
    (case w_EVENTS_k3_0_1 => k_is)
    (case w_EVENTS_k4 => k_is)
    (case w_EVENTS_k4_0 => k_is)
    (case w_EVENTS_k4_0_1 => k_is)
    (case w_EVENTS_k5 => k_is)
    (case w_EVENTS_k5_0 => k_is)
    (case w_EVENTS_k5_0_1 => k_is)
    (case w_EVENTS_k5_1 => k_is)
    (case w_EVENTS_k5_1_1 => k_is)
    (case w_EVENTS_k5_2 => k_is)
    (case w_EVENTS_k5_2_1 => k_is)
    (case w_EVENTS_k5_3 => k_is)
    (case w_EVENTS_k5_3_1 => k_is)
    (case w_EVENTS_k6 => k_is)
    (case w_EVENTS_k6_0 => k_is)
    (case w_EVENTS_k6_0_1 => k_is)
    (case w_EVENTS_k6_1 => k_is)
    (case w_EVENTS_k6_1_1 => k_is)
    (case w_EVENTS_k7 => k_is)
    (case w_EVENTS_k7_0 => k_is)
    (case w_EVENTS_k7_0_1 => k_is)
    (case w_EVENTS_k7_1 => k_is)
    (case w_EVENTS_k7_1_1 => k_is)
    (case w_EVENTS_k7_2 => k_is)
    (case w_EVENTS_k7_2_1 => k_is)
    (case w_EVENTS_k7_3 => k_is)
    (case w_EVENTS_k7_3_1 => k_is)
    (case w_EVENTS_k7_4 => k_is)
    (case w_EVENTS_k7_4_1 => k_is)
    (case w_EVENTS_k8 => k_is)
    (case w_EVENTS_k8_0 => k_is)
    (case w_EVENTS_k8_0_1 => k_is)
    (case w_EVENTS_k8_1 => k_is)
    (case w_EVENTS_k8_1_1 => k_is)
    (case w_EVENTS_k8_2 => k_is)
    (case w_EVENTS_k8_2_1 => k_is)
    (case w_EVENTS_k8_3 => k_is)
    (case w_EVENTS_k8_3_1 => k_is)
    (case w_EVENTS_k8_4 => k_is)
    (case w_EVENTS_k8_4_1 => k_is)
    (case w_EVENTS_k9 => k_is)
    (case w_EVENTS_k9_0 => k_is)
    (case w_EVENTS_k9_0_1 => k_is)
    (case w_EVENTS_k9_1 => k_is)
    (case w_EVENTS_k9_1_1 => k_is)
    (case w_EVENTS_k9_2 => k_is)
    (case w_EVENTS_k9_2_1 => k_is)
    (case w_EVENTS_k9_3 => k_is)
    (case w_EVENTS_k9_3_1 => k_is)
    (case w_EVENTS_k9_4 => k_is)
    (case w_EVENTS_k9_4_1 => k_is)
    (case w_EVENTS_k9_5 => k_is)
    (case w_EVENTS_k9_5_1 => k_is)
    (case w_EVENTS_k10 => k_is)
    (case w_EVENTS_k10_0 => k_is)
    (case w_EVENTS_k10_0_1 => k_is)
    (case w_EVENTS_k10_1 => k_is)
    (case w_EVENTS_k10_1_1 => k_is)
    (case w_EVENTS_k11 => k_is)
    (case w_EVENTS_k11_0 => k_is)
    (case w_EVENTS_k11_0_1 => k_is)
    (case w_EVENTS_k11_1 => k_is)
    (case w_EVENTS_k11_1_1 => k_is)
    (case w_EVENTS_k11_2 => k_is)
    (case w_EVENTS_k11_2_1 => k_is)
    (case w_EVENTS_k12 => k_is)
    (case w_EVENTS_k12_0 => k_is)
    (case w_EVENTS_k12_0_1 => k_is)
    (case w_EVENTS_k12_1 => k_is)
    (case w_EVENTS_k12_1_1 => k_is)
    (case w_EVENTS_k12_2 => k_is)
    (case w_EVENTS_k12_2_1 => k_is)
    (case w_EVENTS_k13 => k_is)
    (case w_EVENTS_k13_0 => k_is)
    (case w_EVENTS_k13_0_1 => k_is)
    (case w_EVENTS_k13_1 => k_is)
    (case w_EVENTS_k13_1_1 => k_is)
    (case xBadMessage => k_exc)
    (case keBadMessage => k_is)
    (case bxBadMessage => k_is)
    (case txBadMessage => k_is)
    (case ixBadMessage => k_is)
    (case sxBadMessage => first | rfl | k_is)
    (case xMessageTooLong => k_exc)
    (case keMessageTooLong => k_is)
    (case bxMessageTooLong => k_is)
    (case txMessageTooLong => k_is)
    (case ixMessageTooLong => k_is)
    (case sxMessageTooLong => first | rfl | k_is)
