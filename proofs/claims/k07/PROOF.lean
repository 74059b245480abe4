import PyProof.Rows.All
import Wide.All
import OpenK.AllK
import Wide.FinOn
import HandS.ForMost
import HandS.Exc
import HandS.TryOnly
import HandS.ExcOwn
import HandS.WordsExc
import HandS.IsInst
import HandS.Wide
import HandS.Flow
import HandS.More
import HandS.Codes
import HandS.Walk
import HandS.TupLe
import HandS.WordsDict
import HandS.Conv
import HandS.TryMany
import HandS.ExcIs
import KE.KBits
import HandS.CallLocal
import HandS.Strs
import HandS.SetFor
import HandS.Set
import HandS.Property
import PySem.Challenge.RW_sillwatch_k07_cut_messages
set_option Elab.async false
set_option linter.all false
set_option maxRecDepth 100000
set_option maxHeartbeats 4000000
namespace My
open PySem L2
def topS (i : Nat) : Stmt := PySem.Challenge.pw_sillwatch_k07_cut_messages.main.body.getD i (.Pass ⟨0, 0, 0, 0⟩)
abbrev s_number_at : Stmt := topS 1
abbrev s_cut_messages : Stmt := topS 5
abbrev s_is_message_size : Stmt := topS 6
abbrev s__cut : Stmt := topS 7
abbrev s__law_cell : Stmt := topS 9
abbrev s__law_row : Stmt := topS 10
abbrev s__law_message : Stmt := topS 11
abbrev s__law_stream : Stmt := topS 12
abbrev s__law_cut : Stmt := topS 13
abbrev s_law : Stmt := topS 14
structure Adr where
  fnumber_at : Addr
  dnumber_at : FuncData
  fcut_messages : Addr
  dcut_messages : FuncData
  fis_message_size : Addr
  dis_message_size : FuncData
  f_cut : Addr
  d_cut : FuncData
  f_law_cell : Addr
  d_law_cell : FuncData
  f_law_row : Addr
  d_law_row : FuncData
  f_law_message : Addr
  d_law_message : FuncData
  f_law_stream : Addr
  d_law_stream : FuncData
  f_law_cut : Addr
  d_law_cut : FuncData
  flaw : Addr
  dlaw : FuncData
  tHEADER_SIZE : Tok
  tGREATEST_SIZE : Tok
structure Txt (K : PySem.W.Frag) (mg : Str → Option Value) (A : Adr) : Prop where
  Fnumber_at : Fun K "number_at" "number_at" s_number_at A.fnumber_at A.dnumber_at
  bnumber_at : Binds K A.dnumber_at ["octets", "at", "count"] []
  gnumber_at : mg "number_at" = some (.ref A.fnumber_at)
  knumber_at : PySem.W.keepIn K (.ref A.fnumber_at) = true
  Fcut_messages : Fun K "cut_messages" "cut_messages" s_cut_messages A.fcut_messages A.dcut_messages
  bcut_messages : Binds K A.dcut_messages ["octets"] []
  gcut_messages : mg "cut_messages" = some (.ref A.fcut_messages)
  kcut_messages : PySem.W.keepIn K (.ref A.fcut_messages) = true
  Fis_message_size : Fun K "is_message_size" "is_message_size" s_is_message_size A.fis_message_size A.dis_message_size
  bis_message_size : Binds K A.dis_message_size ["size"] []
  gis_message_size : mg "is_message_size" = some (.ref A.fis_message_size)
  kis_message_size : PySem.W.keepIn K (.ref A.fis_message_size) = true
  F_cut : Fun K "_cut" "_cut" s__cut A.f_cut A.d_cut
  b_cut : Binds K A.d_cut ["octets"] []
  g_cut : mg "_cut" = some (.ref A.f_cut)
  k_cut : PySem.W.keepIn K (.ref A.f_cut) = true
  F_law_cell : Fun K "_law_cell" "_law_cell" s__law_cell A.f_law_cell A.d_law_cell
  b_law_cell : Binds K A.d_law_cell ["script", "k"] []
  g_law_cell : mg "_law_cell" = some (.ref A.f_law_cell)
  k_law_cell : PySem.W.keepIn K (.ref A.f_law_cell) = true
  F_law_row : Fun K "_law_row" "_law_row" s__law_row A.f_law_row A.d_law_row
  b_law_row : Binds K A.d_law_row ["script", "k"] []
  g_law_row : mg "_law_row" = some (.ref A.f_law_row)
  k_law_row : PySem.W.keepIn K (.ref A.f_law_row) = true
  F_law_message : Fun K "_law_message" "_law_message" s__law_message A.f_law_message A.d_law_message
  b_law_message : Binds K A.d_law_message ["row"] []
  g_law_message : mg "_law_message" = some (.ref A.f_law_message)
  k_law_message : PySem.W.keepIn K (.ref A.f_law_message) = true
  F_law_stream : Fun K "_law_stream" "_law_stream" s__law_stream A.f_law_stream A.d_law_stream
  b_law_stream : Binds K A.d_law_stream ["script", "count"] []
  g_law_stream : mg "_law_stream" = some (.ref A.f_law_stream)
  k_law_stream : PySem.W.keepIn K (.ref A.f_law_stream) = true
  F_law_cut : Fun K "_law_cut" "_law_cut" s__law_cut A.f_law_cut A.d_law_cut
  b_law_cut : Binds K A.d_law_cut ["octets"] []
  g_law_cut : mg "_law_cut" = some (.ref A.f_law_cut)
  k_law_cut : PySem.W.keepIn K (.ref A.f_law_cut) = true
  Flaw : Fun K "law" "law" s_law A.flaw A.dlaw
  blaw : Binds K A.dlaw ["script"] []
  glaw : mg "law" = some (.ref A.flaw)
  klaw : PySem.W.keepIn K (.ref A.flaw) = true
  bool : mg "bool" = none
  int : mg "int" = none
  isinstance : mg "isinstance" = none
  len : mg "len" = none
  list : mg "list" = none
  min : mg "min" = none
  range : mg "range" = none
  sum : mg "sum" = none
  tuple : mg "tuple" = none
  gHEADER_SIZE : mg "HEADER_SIZE" = some (.int (8) A.tHEADER_SIZE)
  gGREATEST_SIZE : mg "GREATEST_SIZE" = some (.int (20480) A.tGREATEST_SIZE)
section
variable {P : Program} {w : World} {K : PySem.W.Frag} {mg : Str → Option Value} {base : Heap} {A : Adr}
/-! ### common: tests, errors, small words -/
theorem exm_self {K : PySem.W.Frag} {S : Addr} (h1 : PySem.W.subIn K (.ref S) (.type "BaseException") = some true) (h2 : PySem.W.isClsIn K S = true) (h3 : PySem.W.typeIn K (.ref S) = some (.type "type")) (h4 : PySem.W.subIn K (.ref S) (.ref S) = some true) :
    PySem.W.exmOne K (.ref S) (.ref S) = some true := by
  have g1 : (PySem.W.subIn K (.ref S) (.type "BaseException") == some true) = true := by rw [h1]; rfl
  have g0 : (PySem.W.clsIn K S).isSome = true := h2
  have g2 : ((PySem.W.clsIn K S).isSome && PySem.W.typeIn K (.ref S) == some (.type "type")) = true := by rw [g0, h3]; rfl
  show (if (PySem.W.subIn K (.ref S) (.type "BaseException") == some true) = true then (if ((PySem.W.clsIn K S).isSome && PySem.W.typeIn K (.ref S) == some (.type "type")) = true then PySem.W.subIn K (.ref S) (.ref S) else none) else none) = some true
  rw [if_pos g1, if_pos g2]
  exact h4
theorem exm_cross {K : PySem.W.Frag} {S R : Addr} {b : Bool} (h1 : PySem.W.subIn K (.ref S) (.type "BaseException") = some true) (h2 : PySem.W.isClsIn K S = true) (h3 : PySem.W.typeIn K (.ref S) = some (.type "type")) (h4 : PySem.W.subIn K (.ref R) (.ref S) = some b) :
    PySem.W.exmOne K (.ref R) (.ref S) = some b := by
  have g1 : (PySem.W.subIn K (.ref S) (.type "BaseException") == some true) = true := by rw [h1]; rfl
  have g0 : (PySem.W.clsIn K S).isSome = true := h2
  have g2 : ((PySem.W.clsIn K S).isSome && PySem.W.typeIn K (.ref S) == some (.type "type")) = true := by rw [g0, h3]; rfl
  show (if (PySem.W.subIn K (.ref S) (.type "BaseException") == some true) = true then (if ((PySem.W.clsIn K S).isSome && PySem.W.typeIn K (.ref S) == some (.type "type")) = true then PySem.W.subIn K (.ref R) (.ref S) else none) else none) = some b
  rw [if_pos g1, if_pos g2]
  exact h4
/-- the law's own promise -/
def sp_law (K : PySem.W.Frag) : Sp := fun vs H Q _ => ∃ (a : Addr) (ns : List Int), vs = [.ref a] ∧ SqL K H a (ns.map V.int) ∧ ns.length ≤ 63 ∧ ∀ H', Q (.bl true) H'
theorem iteP {p A B : Prop} [Decidable p] (h1 : p → A) (h2 : ¬ p → B) : if decide p = true then A else B := by
  by_cases h : p
  · rw [decide_eq_true h]; exact iteT (h1 h)
  · rw [decide_eq_false h]; exact iteF (h2 h)
theorem iteN {p A B : Prop} [Decidable p] (h1 : ¬ p → A) (h2 : p → B) : if (!decide p) = true then A else B := by
  by_cases h : p
  · rw [decide_eq_true h]; exact iteF (h2 h)
  · rw [decide_eq_false h]; exact iteT (h1 h)
theorem iteEq {i j : Int} {A B : Prop} (h1 : i = j → A) (h2 : i ≠ j → B) : if decide (V.int i = V.int j) = true then A else B :=
  iteP (fun h => h1 (V.int.inj h)) (fun h => h2 fun e => h (congrArg V.int e))
theorem iteNe {i j : Int} {A B : Prop} (h1 : i ≠ j → A) (h2 : i = j → B) : if (!decide (V.int i = V.int j)) = true then A else B :=
  iteN (fun h => h1 fun e => h (congrArg V.int e)) (fun h => h2 (V.int.inj h))
theorem if_t {b : Bool} {A B : Prop} (e : b = true) (h : A) : if b = true then A else B := by rw [if_pos e]; exact h
theorem if_f {b : Bool} {A B : Prop} (e : b = false) (h : B) : if b = true then A else B := by rw [e]; exact iteF h
theorem if_b {b : Bool} {A B : Prop} (h1 : b = true → A) (h2 : b = false → B) : if b = true then A else B := by
  cases b with
  | true => exact iteT (h1 rfl)
  | false => exact iteF (h2 rfl)
theorem same_upd {H : Hp} {p : Addr} {o : HO} (h : H p = none) : Same H (upd H p o) := fun b x e => by
  rw [upd_ne (ne_of_none e h)]
  exact e
theorem len_line {n : Nat} (h : n ≤ 100000) : n ≤ sizeLine := Nat.le_trans h (by decide)
theorem lt_line {n : Nat} (h : n < 100000) : n < sizeLine := Nat.lt_of_lt_of_le h (by decide)
local macro_rules | `(tactic| walk_at "rd") => `(tactic| repeat (first
  | refine ⟨_, rfl, ?_⟩
  | refine ⟨_, _, rfl, rfl, ?_⟩
  | refine ⟨rfl, ?_⟩
  | refine Or.inl ⟨_, rfl, ?_⟩
  | refine ⟨(by show (0 : Int) < _; decide), ?_⟩
  | refine ⟨(⟨by decide, by decide⟩ : CDiv _ _), ?_⟩
  | refine ⟨(Or.inl ⟨by decide, by decide⟩ : CMul _ _), ?_⟩
  | refine ⟨(Or.inr ⟨by decide, by decide⟩ : CMul _ _), ?_⟩))
/-! ### data that are compared -/
def Sh (n : Nat) (d : PyData) : Prop := d.canLay0 = true ∧ d.depth ≤ n
theorem Sh.mono {n m : Nat} {d : PyData} (h : Sh n d) (l : n ≤ m) : Sh m d := ⟨h.1, Nat.le_trans h.2 l⟩
theorem sh_all : ∀ {n : Nat} {ds : List PyData}, (∀ d ∈ ds, Sh n d) → PyData.canLayAll0 ds = true ∧ PyData.depthAll ds ≤ n
  | n, [], _ => ⟨by simp [PyData.canLayAll0], by simp [PyData.depthAll]⟩
  | n, d :: ds, h => by
    have h1 := h d List.mem_cons_self
    have h2 := sh_all fun e he => h e (List.mem_cons_of_mem _ he)
    refine ⟨?_, ?_⟩
    · simp only [PyData.canLayAll0, Bool.and_eq_true]; exact ⟨h1.1, h2.1⟩
    · simp only [PyData.depthAll]; exact Nat.max_le.mpr ⟨h1.2, h2.2⟩
theorem sh_list {n : Nat} {ds : List PyData} (h : ∀ d ∈ ds, Sh n d) : Sh (n + 1) (.list ds) := by
  have q := sh_all h
  exact ⟨by simp only [PyData.canLay0]; exact q.1, by simp only [PyData.depth]; exact Nat.succ_le_succ q.2⟩
theorem sh_tuple {n : Nat} {ds : List PyData} (h : ∀ d ∈ ds, Sh n d) : Sh (n + 1) (.tuple ds) := by
  have q := sh_all h
  exact ⟨by simp only [PyData.canLay0]; exact q.1, by simp only [PyData.depth]; exact Nat.succ_le_succ q.2⟩
theorem sh_int (i : Int) : Sh 0 (.int i) := ⟨by simp [PyData.canLay0], by simp [PyData.depth]⟩
theorem sh_bool (i : Bool) : Sh 0 (.bool i) := ⟨by simp [PyData.canLay0], by simp [PyData.depth]⟩
theorem sh_none : Sh 0 .none := ⟨by simp [PyData.canLay0], by simp [PyData.depth]⟩
theorem sh_str {s : Str} (h : PyData.strOk s = true) : Sh 0 (.str s) := ⟨by simp only [PyData.canLay0]; exact h, by simp [PyData.depth]⟩
theorem Sh.shaped {n : Nat} {d : PyData} (h : Sh n d) (l : n ≤ 64 := by decide) : SeqAt.shaped d = true := by
  show (d.canLay0 && decide (d.depth ≤ 64)) = true
  rw [h.1, decide_eq_true (Nat.le_trans h.2 l)]
  rfl
theorem Sh.self {n : Nat} {d : PyData} (h : Sh n d) : PyData.eqv d d = true := SeqAt.eqv_refl d h.1
def pInts (xs : List Int) : PyData := .list (xs.map PyData.int)
theorem sh_ints (xs : List Int) : Sh 1 (pInts xs) := sh_list fun d hd => by
  obtain ⟨i, _, rfl⟩ := List.mem_map.mp hd
  exact sh_int i
theorem dpall_ints {K : PySem.W.Frag} {H : Hp} : ∀ xs : List Int, DpAll K H (xs.map V.int) (xs.map PyData.int)
  | [] => .nil
  | x :: r => .cons (.int x) (dpall_ints r)
theorem dp_ints {K : PySem.W.Frag} {H : Hp} {p : Addr} {xs : List Int} (h : SqL K H p (xs.map V.int)) : Dp K H (.ref p) (pInts xs) := .lst h (dpall_ints xs)
/-! ### views: what is new, what stands -/
structure Ext (V H V' H' : Hp) : Prop where
  vv : Same V V'
  vh : Same V' H'
  hh : Same H H'
  nw : ∀ a, V' a ≠ none → V a ≠ none ∨ H a = none
theorem Ext.refl {V H : Hp} (h : Same V H) : Ext V H V H := ⟨Same.refl V, h, Same.refl H, fun _ h => Or.inl h⟩
theorem Ext.trans {V H V1 H1 V2 H2 : Hp} (a : Ext V H V1 H1) (b : Ext V1 H1 V2 H2) : Ext V H V2 H2 :=
  ⟨a.vv.trans b.vv, b.vh, a.hh.trans b.hh, fun x h => by
    rcases b.nw x h with q | q
    · exact a.nw x q
    · exact Or.inr (a.hh.free q)⟩
theorem none_of_same {V H : Hp} {p : Addr} (s : Same V H) (h : H p = none) : V p = none := s.free h
theorem Ext.new {V H : Hp} {p : Addr} {o : HO} (s : Same V H) (h : H p = none) : Ext V H (upd V p o) (upd H p o) :=
  ⟨same_upd (s.free h), fun b u e => by
    by_cases hb : b = p
    · subst hb; rw [upd_same] at e ⊢; exact e
    · rw [upd_ne hb] at e ⊢; exact s b u e, same_upd h, fun a e => by
    by_cases ha : a = p
    · subst ha; exact Or.inr h
    · rw [upd_ne ha] at e; exact Or.inl e⟩
/-- a new object that the view does not take in -/
theorem Ext.skip {V H : Hp} {p : Addr} {o : HO} (s : Same V H) (h : H p = none) : Ext V H V (upd H p o) :=
  ⟨Same.refl V, s.trans (same_upd h), same_upd h, fun _ e => Or.inl e⟩
theorem Ext.keepOut {V H V' H' : Hp} (x : Ext V H V' H') {D : Addr} (h : V D = none) (hd : H D ≠ none) : V' D = none := by
  cases e : V' D with
  | none => rfl
  | some o =>
    rcases x.nw D (by rw [e]; exact fun z => by cases z) with q | q
    · exact absurd h q
    · exact absurd q hd
/-- an object outside of the view changes -/
theorem Ext.poke {V H V' H' : Hp} (x : Ext V H V' H') {D : Addr} {o : HO} (hd : H D = none) (h : V' D = none) : Ext V H V' (upd H' D o) :=
  ⟨x.vv, fun b u e => by
    have hb : b ≠ D := fun z => by rw [z, h] at e; cases e
    rw [upd_ne hb]; exact x.vh b u e, fun b u e => by
    have hb : b ≠ D := ne_of_none e hd
    rw [upd_ne hb]; exact x.hh b u e, x.nw⟩
/-- the object at D, done, is taken in -/
theorem Ext.take {V H V' H' : Hp} (x : Ext V H V' H') {D : Addr} {o : HO} (hd : H D = none) (h : V' D = none) (e : H' D = some o) : Ext V H (upd V' D o) H' :=
  ⟨x.vv.trans (same_upd h), fun b u q => by
    by_cases hb : b = D
    · subst hb; rw [upd_same] at q; rw [e]; exact q
    · rw [upd_ne hb] at q; exact x.vh b u q, x.hh, fun a q => by
    by_cases ha : a = D
    · subst ha; exact Or.inr hd
    · rw [upd_ne ha] at q; exact x.nw a q⟩
theorem _root_.L2.Same.sqt {K : PySem.W.Frag} {H H' : Hp} {a : Addr} {xs : List V} (e : Same H H') (h : SqT K H a xs) : SqT K H' a xs := by
  rcases h with (h | ⟨o, h⟩) | h
  · exact .inl (.inl (e _ _ h))
  · exact .inl (.inr ⟨o, e _ _ h⟩)
  · exact .inr h
mutual
theorem dp_same {K : PySem.W.Frag} {H H' : Hp} (s : Same H H') : ∀ (d : PyData) (v : V), Dp K H v d → Dp K H' v d
  | .none, _, h => by cases h; exact .non
  | .bool b, _, h => by cases h; exact .bl b
  | .int i, _, h => by cases h; exact .int i
  | .str x, _, h => by cases h; exact .str x
  | .list ds, _, h => by
    cases h with
    | lst q r => exact .lst (s.seq q) (dpall_same s ds _ r)
  | .tuple ds, _, h => by
    cases h with
    | tup q r => exact .tup (s.sqt q) (dpall_same s ds _ r)
  | .dict _, _, h => by cases h
theorem dpall_same {K : PySem.W.Frag} {H H' : Hp} (s : Same H H') : ∀ (ds : List PyData) (vs : List V), DpAll K H vs ds → DpAll K H' vs ds
  | [], _, h => by cases h; exact .nil
  | d :: ds, _, h => by
    cases h with
    | cons q r => exact .cons (dp_same s d _ q) (dpall_same s ds _ r)
end
theorem _root_.L2.Dp.to {K : PySem.W.Frag} {H H' : Hp} {v : V} {d : PyData} (h : Dp K H v d) (s : Same H H') : Dp K H' v d := dp_same s d v h
theorem _root_.L2.DpAll.to {K : PySem.W.Frag} {H H' : Hp} {v : List V} {d : List PyData} (h : DpAll K H v d) (s : Same H H') : DpAll K H' v d := dpall_same s d v h
theorem dpall_len {K : PySem.W.Frag} {H : Hp} : ∀ {vs : List V} {ds : List PyData}, DpAll K H vs ds → vs.length = ds.length
  | _, [], h => by cases h; rfl
  | _, d :: ds, h => by
    cases h with
    | cons q r => exact congrArg (· + 1) (dpall_len r)
theorem dpall_get {K : PySem.W.Frag} {H : Hp} : ∀ {vs : List V} {ds : List PyData} {i : Nat} {v : V}, DpAll K H vs ds → vs[i]? = some v → ∃ d, ds[i]? = some d ∧ Dp K H v d
  | _, [], i, v, h, e => by cases h; cases e
  | _, d :: ds, i, v, h, e => by
    cases h with
    | cons q r =>
      match i, e with
      | 0, e => cases e; exact ⟨d, rfl, q⟩
      | i + 1, e => exact dpall_get (i := i) r e
theorem dpall_get' {K : PySem.W.Frag} {H : Hp} : ∀ {vs : List V} {ds : List PyData} {i : Nat} {d : PyData}, DpAll K H vs ds → ds[i]? = some d → ∃ v, vs[i]? = some v ∧ Dp K H v d
  | _, [], i, d, h, e => by cases e
  | _, d :: ds, i, d', h, e => by
    cases h with
    | cons q r =>
      match i, e with
      | 0, e => cases e; exact ⟨_, rfl, q⟩
      | i + 1, e => exact dpall_get' (i := i) r e
theorem dpall_app {K : PySem.W.Frag} {H : Hp} : ∀ {vs ws : List V} {ds es : List PyData}, DpAll K H vs ds → DpAll K H ws es → DpAll K H (vs ++ ws) (ds ++ es)
  | _, _, [], _, h, g => by cases h; exact g
  | _, _, d :: ds, _, h, g => by
    cases h with
    | cons q r => exact .cons q (dpall_app r g)
theorem dp_list {K : PySem.W.Frag} {H : Hp} {v : V} {ds : List PyData} (h : Dp K H v (.list ds)) : ∃ a xs, v = .ref a ∧ SqL K H a xs ∧ DpAll K H xs ds := by
  cases h with
  | lst q r => exact ⟨_, _, rfl, q, r⟩
theorem dp_tuple {K : PySem.W.Frag} {H : Hp} {v : V} {ds : List PyData} (h : Dp K H v (.tuple ds)) : ∃ a xs, v = .ref a ∧ SqT K H a xs ∧ DpAll K H xs ds := by
  cases h with
  | tup q r => exact ⟨_, _, rfl, q, r⟩
theorem dp_int {K : PySem.W.Frag} {H : Hp} {v : V} {i : Int} (h : Dp K H v (.int i)) : v = .int i := by cases h; rfl
theorem dp_str {K : PySem.W.Frag} {H : Hp} {v : V} {i : Str} (h : Dp K H v (.str i)) : v = .str i := by cases h; rfl
theorem dp_bool {K : PySem.W.Frag} {H : Hp} {v : V} {i : Bool} (h : Dp K H v (.bool i)) : v = .bl i := by cases h; rfl
/-! ### comprehensions over any walk -/
def fm {α : Type} (f : Nat → Option α) (n : Nat) : List α := (List.range n).filterMap f
theorem fm_succ {α : Type} (f : Nat → Option α) (n : Nat) : fm f (n + 1) = fm f n ++ (f n).toList := by
  unfold fm
  rw [List.range_succ, List.filterMap_append]
  congr 1
theorem fm_len {α : Type} (f : Nat → Option α) (n : Nat) : (fm f n).length ≤ n := by
  have h := List.length_filterMap_le f (List.range n)
  rw [List.length_range] at h
  exact h
structure LcInv (K : PySem.W.Frag) (V0 H0 : Hp) (D : Addr) (acc : List PyData) (H : Hp) : Prop where
  ex : ∃ V xs, Ext V0 H0 V H ∧ V D = none ∧ H D = some (.lst xs) ∧ DpAll K V xs acc
theorem LcInv.start {K : PySem.W.Frag} {V0 H0 : Hp} {D : Addr} (s : Same V0 H0) (hD : H0 D = none) : LcInv K V0 H0 D [] (upd H0 D (.lst [])) :=
  ⟨V0, [], Ext.skip s hD, s.free hD, upd_same, .nil⟩
theorem LcInv.done {K : PySem.W.Frag} {V0 H0 H : Hp} {D : Addr} {acc : List PyData} (hD : H0 D = none) (i : LcInv K V0 H0 D acc H) : ∃ U xs, Ext V0 H0 U H ∧ U D = some (.lst xs) ∧ DpAll K U xs acc ∧ Dp K U (.ref D) (.list acc) := by
  obtain ⟨V, xs, x, hv, hd, dp⟩ := i.ex
  exact ⟨_, xs, x.take hD hv hd, upd_same, dp.to (same_upd hv), .lst (SqL.of upd_same) (dp.to (same_upd hv))⟩
/-- one more item -/
theorem LcInv.push {K : PySem.W.Frag} {V0 H0 U H U' H' : Hp} {D : Addr} {acc : List PyData} {xs : List V} {y : V} {d : PyData} (hD : H0 D = none) (x : Ext V0 H0 U H) (hv : U D = none) (hd : H D = some (.lst xs)) (dp : DpAll K U xs acc)
    (x2 : Ext U H U' H') (e : Dp K U' y d) (hl : acc.length < 100000) :
    ∃ acc', H' D = some (.lst acc') ∧ acc'.length < sizeLine ∧ LcInv K V0 H0 D (acc ++ [d]) (upd H' D (.lst (acc' ++ [y]))) := by
  have hv' : U' D = none := x2.keepOut hv (by rw [hd]; exact fun z => by cases z)
  refine ⟨xs, x2.hh _ _ hd, lt_line (by rw [dpall_len dp]; exact hl), U', xs ++ [y], (x.trans x2).poke hD hv', hv', upd_same, dpall_app (dp.to x2.vv) (.cons e .nil)⟩
/-- a comprehension's reading over a walk that leaves the heap as it is: at turn i the item x, then f i: the data of what is put in, or none -/
theorem lc_dp0 {J : It} {n : Nat} {G : Hp → Prop} {Y : Nat → Hp → V → Hp → Prop} (wk : Walk J n G Y) {K : PySem.W.Frag} {V0 H0 : Hp} {D : Addr} {g : TG} {tt : TT} {te : TE} {vs : List Nat} {σ : St} {Qd : Hp → Prop} (f : Nat → Option PyData) (σ0 : St) (hσ : wipe σ vs = σ0) (s0 : Same V0 H0) (hD : H0 D = none) (hn : n < 100000)
    (hG : ∀ H, Same H0 H → G H) (hY : ∀ i H x H', Y i H x H' → H' = H)
    (hs : ∀ i x V H, i < n → Ext V0 H0 V H → Y i H x H → ∀ (Qy : VK) (Qn : Hp → Prop), (∀ d y V' H', f i = some d → Ext V H V' H' → Dp K V' y d → Qy y H') → (f i = none → ∀ V' H', Ext V H V' H' → Qn H') →
      g x σ0 H fun σ2 H2 => wipe σ2 vs = σ0 ∧ tt σ2 H2 fun b H3 => if b = true then te σ2 H3 Qy else Qn H3)
    (hd : ∀ (U H : Hp) (xs : List V), Ext V0 H0 U H → U D = none → H D = some (.lst xs) → DpAll K U xs (fm f n) → Qd H) :
    ∃ W : Nat → Nat → Hp → Prop, (∃ m, W 0 m (upd H0 D (.lst []))) ∧ ∀ i m H, W i m H →
      (J.stop i H ∧ Qd H) ∨ (J.go i H ∧ ∃ Nx : Hp → Prop, (∀ H', Nx H' → ∃ m', m' < m ∧ W (i + 1) m' H') ∧ ∀ x H', J.yld i H x H' → g x (wipe σ vs) H' fun σ2 H2 => wipe σ2 vs = wipe σ vs ∧ tt σ2 H2 fun b H3 =>
        if b = true then te σ2 H3 fun y H4 => ∃ acc, H4 D = some (.lst acc) ∧ acc.length < sizeLine ∧ Nx (upd H4 D (.lst (acc ++ [y]))) else Nx H3) := by
  subst hσ
  refine lc_it wk (fun i H => LcInv K V0 H0 D (fm f i) H) (LcInv.start s0 hD) (fun i H _ p => ?_) (fun i x H H' hi p y => ?_) (fun H p => ?_)
  · obtain ⟨V, xs, x, _⟩ := p.ex
    exact hG H x.hh
  · obtain ⟨V, xs, x0, hv, hdd, dp⟩ := p.ex
    obtain rfl := hY i H x H' y
    refine hs i x V H' hi x0 y _ _ (fun d y' V' H4 e x2 dy => ?_) (fun e V' H4 x2 => ?_)
    · have hl : (fm f i).length < 100000 := Nat.lt_of_le_of_lt (fm_len f i) (Nat.lt_trans hi hn)
      obtain ⟨acc', a1, a2, a3⟩ := LcInv.push hD x0 hv hdd dp x2 dy hl
      refine ⟨acc', a1, a2, ?_⟩
      rw [fm_succ, e]
      exact a3
    · have hv' : V' D = none := x2.keepOut hv (by rw [hdd]; exact fun z => by cases z)
      rw [fm_succ, e]
      show LcInv K V0 H0 D (fm f i ++ []) H4
      rw [List.append_nil]
      exact ⟨V', xs, x0.trans x2, hv', x2.hh _ _ hdd, dp.to x2.vv⟩
  · obtain ⟨U, xs, x, hv, hdd, dp⟩ := p.ex
    exact hd U H xs x hv hdd dp
/-- a comprehension's reading over a walk that leaves the heap as it is: at turn i the item x, then f i: the data of what is put in, or none -/
theorem lc_dp {J : It} {n : Nat} {G : Hp → Prop} {Y : Nat → Hp → V → Hp → Prop} (wk : Walk J n G Y) {K : PySem.W.Frag} {V0 H0 : Hp} {D : Addr} {g : TG} {tt : TT} {te : TE} {vs : List Nat} {σ : St} {Qd : Hp → Prop} (f : Nat → Option PyData) (σ0 : St) (hσ : wipe σ vs = σ0) (s0 : Same V0 H0) (hD : H0 D = none) (hn : n < 100000)
    (hG : ∀ H, Same H0 H → G H) (hY : ∀ i H x H', Y i H x H' → H' = H)
    (hs : ∀ i x V H, i < n → Ext V0 H0 V H → Y i H x H → ∀ (Qy : VK) (Qn : Hp → Prop), (∀ d y V' H', f i = some d → Ext V H V' H' → Dp K V' y d → Qy y H') → (f i = none → ∀ V' H', Ext V H V' H' → Qn H') →
      g x σ0 H fun σ2 H2 => wipe σ2 vs = σ0 ∧ tt σ2 H2 fun b H3 => if b = true then te σ2 H3 Qy else Qn H3)
    (hd : ∀ (U H : Hp) (xs : List V), Ext V0 H0 U H → U D = some (.lst xs) → DpAll K U xs (fm f n) → Dp K U (.ref D) (.list (fm f n)) → Qd H) :
    ∃ W : Nat → Nat → Hp → Prop, (∃ m, W 0 m (upd H0 D (.lst []))) ∧ ∀ i m H, W i m H →
      (J.stop i H ∧ Qd H) ∨ (J.go i H ∧ ∃ Nx : Hp → Prop, (∀ H', Nx H' → ∃ m', m' < m ∧ W (i + 1) m' H') ∧ ∀ x H', J.yld i H x H' → g x (wipe σ vs) H' fun σ2 H2 => wipe σ2 vs = wipe σ vs ∧ tt σ2 H2 fun b H3 =>
        if b = true then te σ2 H3 fun y H4 => ∃ acc, H4 D = some (.lst acc) ∧ acc.length < sizeLine ∧ Nx (upd H4 D (.lst (acc ++ [y]))) else Nx H3) := by
  refine lc_dp0 wk f σ0 hσ s0 hD hn hG hY hs fun U H xs x hv hdd dp => ?_
  exact hd _ H xs (x.take hD hv hdd) upd_same (dp.to (same_upd hv)) (.lst (SqL.of upd_same) (dp.to (same_upd hv)))
theorem fm_map {α β : Type} (f : α → β) : ∀ (xs : List α), fm (fun i => (xs[i]?).map f) xs.length = xs.map f := by
  intro xs
  have h : ∀ n, n ≤ xs.length → fm (fun i => (xs[i]?).map f) n = (xs.take n).map f := by
    intro n
    induction n with
    | zero => intro _; rfl
    | succ n ih =>
      intro hn
      rw [fm_succ, ih (by omega), List.getElem?_eq_getElem (by omega), List.take_succ_eq_append_getElem (by omega), List.map_append]
      rfl
  rw [h _ (Nat.le_refl _), List.take_length]

theorem lc2_outer {J : It} {n : Nat} {G : Hp → Prop} {Y : Nat → Hp → V → Hp → Prop} (wk : Walk J n G Y) {K : PySem.W.Frag} {V0 H0 : Hp} {D : Addr} {g : TG} {vs : List Nat} {σ : St} {body : St → Hp → (Hp → Prop) → Prop} {Qd : Hp → Prop} (F : Nat → List PyData) (σ0 : St) (hσ : wipe σ vs = σ0) (s0 : Same V0 H0) (hD : H0 D = none) (hF : F 0 = [])
    (hG : ∀ H, Same H0 H → G H) (hY : ∀ i H x H', Y i H x H' → H' = H)
    (hs : ∀ i x H, i < n → LcInv K V0 H0 D (F i) H → Y i H x H → ∀ Nx : Hp → Prop, (∀ H', LcInv K V0 H0 D (F (i + 1)) H' → Nx H') → g x σ0 H fun σ2 H2 => wipe σ2 vs = σ0 ∧ body σ2 H2 Nx)
    (hd : ∀ (U H : Hp) (xs : List V), Ext V0 H0 U H → U D = some (.lst xs) → DpAll K U xs (F n) → Dp K U (.ref D) (.list (F n)) → Qd H) :
    ∃ W : Nat → Nat → Hp → Prop, (∃ m, W 0 m (upd H0 D (.lst []))) ∧ ∀ i m H, W i m H →
      (J.stop i H ∧ Qd H) ∨ (J.go i H ∧ ∃ Nx : Hp → Prop, (∀ H', Nx H' → ∃ m', m' < m ∧ W (i + 1) m' H') ∧ ∀ x H', J.yld i H x H' → g x (wipe σ vs) H' fun σ2 H2 => wipe σ2 vs = wipe σ vs ∧ body σ2 H2 Nx) := by
  subst hσ
  refine ⟨fun i m H => m = n - i ∧ i ≤ n ∧ LcInv K V0 H0 D (F i) H, ⟨n, by simp, Nat.zero_le _, by rw [hF]; exact LcInv.start s0 hD⟩, ?_⟩
  rintro i m H ⟨rfl, hi, p⟩
  have sH : Same H0 H := by obtain ⟨_, _, x, _⟩ := p.ex; exact x.hh
  by_cases hlt : i < n
  · refine .inr ⟨wk.goes i H hlt (hG H sH), fun H' => LcInv K V0 H0 D (F (i + 1)) H', fun H' p' => ⟨n - (i + 1), by omega, rfl, hlt, p'⟩, fun x H' y => ?_⟩
    have y' := wk.yields i H x H' hlt (hG H sH) y
    obtain rfl := hY i H x H' y'
    exact hs i x H' hlt p y' _ fun _ h => h
  · have e : i = n := by omega
    subst e
    obtain ⟨U, xs, x, e1, e2, e3⟩ := p.done hD
    exact .inl ⟨wk.stops H (hG H sH), hd U H xs x e1 e2 e3⟩
theorem lc2_inner {J : It} {n : Nat} {G : Hp → Prop} {Y : Nat → Hp → V → Hp → Prop} (wk : Walk J n G Y) {K : PySem.W.Frag} {V0 H0 H4 : Hp} {D : Addr} {acc0 : List PyData} {g : TG} {tt : TT} {te : TE} {vs : List Nat} {σ : St} {Nx : Hp → Prop} (f : Nat → Option PyData) (σ0 : St) (hσ : wipe σ vs = σ0) (hD : H0 D = none)
    (inv : LcInv K V0 H0 D acc0 H4) (hn : acc0.length + n < 100000) (hG : ∀ H, Same H0 H → G H) (hY : ∀ i H x H', Y i H x H' → H' = H)
    (hs : ∀ i x V H, i < n → Ext V0 H0 V H → Y i H x H → ∀ (Qy : VK) (Qn : Hp → Prop), (∀ d y V' H', f i = some d → Ext V H V' H' → Dp K V' y d → Qy y H') → (f i = none → ∀ V' H', Ext V H V' H' → Qn H') →
      g x σ0 H fun σ2 H2 => wipe σ2 vs = σ0 ∧ tt σ2 H2 fun b H3 => if b = true then te σ2 H3 Qy else Qn H3)
    (hd : ∀ H, LcInv K V0 H0 D (acc0 ++ fm f n) H → Nx H) :
    ∃ W : Nat → Nat → Hp → Prop, (∃ m, W 0 m H4) ∧ ∀ i m H, W i m H →
      (J.stop i H ∧ Nx H) ∨ (J.go i H ∧ ∃ Nx1 : Hp → Prop, (∀ H', Nx1 H' → ∃ m', m' < m ∧ W (i + 1) m' H') ∧ ∀ x H', J.yld i H x H' → g x (wipe σ vs) H' fun σ2 H2 => wipe σ2 vs = wipe σ vs ∧ tt σ2 H2 fun b H3 =>
        if b = true then te σ2 H3 fun y H4 => ∃ acc, H4 D = some (.lst acc) ∧ acc.length < sizeLine ∧ Nx1 (upd H4 D (.lst (acc ++ [y]))) else Nx1 H3) := by
  subst hσ
  refine ⟨fun i m H => m = n - i ∧ i ≤ n ∧ LcInv K V0 H0 D (acc0 ++ fm f i) H, ⟨n, by simp, Nat.zero_le _, by rw [show fm f 0 = [] from rfl, List.append_nil]; exact inv⟩, ?_⟩
  rintro i m H ⟨rfl, hi, p⟩
  have sH : Same H0 H := by obtain ⟨_, _, x, _⟩ := p.ex; exact x.hh
  by_cases hlt : i < n
  · refine .inr ⟨wk.goes i H hlt (hG H sH), fun H' => LcInv K V0 H0 D (acc0 ++ fm f (i + 1)) H', fun H' p' => ⟨n - (i + 1), by omega, rfl, hlt, p'⟩, fun x H' y => ?_⟩
    have y' := wk.yields i H x H' hlt (hG H sH) y
    obtain rfl := hY i H x H' y'
    obtain ⟨V, xs, x0, hv, hdd, dp⟩ := p.ex
    refine hs i x V H' hlt x0 y' _ _ (fun d y' V' H4 e x2 dy => ?_) (fun e V' H4 x2 => ?_)
    · have hl : (acc0 ++ fm f i).length < 100000 := by have := fm_len f i; rw [List.length_append]; omega
      obtain ⟨acc', a1, a2, a3⟩ := LcInv.push hD x0 hv hdd dp x2 dy hl
      refine ⟨acc', a1, a2, ?_⟩
      rw [fm_succ, e, ← List.append_assoc]
      exact a3
    · have hv' : V' D = none := x2.keepOut hv (by rw [hdd]; exact fun z => by cases z)
      rw [fm_succ, e]
      show LcInv K V0 H0 D (acc0 ++ (fm f i ++ [])) H4
      rw [List.append_nil]
      exact ⟨V', xs, x0.trans x2, hv', x2.hh _ _ hdd, dp.to x2.vv⟩
  · have e : i = n := by omega
    subst e
    exact .inl ⟨wk.stops H (hG H sH), hd H p⟩
theorem fm_some {α : Type} (f : Nat → α) (n : Nat) : fm (fun i => some (f i)) n = (List.range n).map f := by
  induction n with
  | zero => rfl
  | succ n ih => rw [fm_succ, ih, List.range_succ, List.map_append]; rfl
theorem fl_take' {α : Type} {β : Type} (f : α → List β) : ∀ (xs : List α) (i : Nat) (x : α), xs[i]? = some x → (xs.take (i + 1)).flatMap f = (xs.take i).flatMap f ++ f x := by
  intro xs i x h
  obtain ⟨hi, e⟩ := List.getElem?_eq_some_iff.mp h
  rw [List.take_succ_eq_append_getElem hi, List.flatMap_append, e]
  show _ ++ (f x ++ []) = _
  rw [List.append_nil]
theorem fl_le' {α : Type} {β : Type} (f : α → List β) (xs : List α) (i : Nat) : ((xs.take i).flatMap f).length ≤ (xs.flatMap f).length := by
  have : xs.flatMap f = (xs.take i).flatMap f ++ (xs.drop i).flatMap f := by rw [← List.flatMap_append, List.take_append_drop]
  rw [this, List.length_append]; omega
/-! ### lists of ints, texts -/
theorem tyL {K : PySem.W.Frag} {H : Hp} {a : Addr} {xs : List V} (h : SqL K H a xs) : TyX K H (.ref a) (.type "list") := by
  rcases h with (h | ⟨o, h⟩) | ⟨o, its, n, h, c, _⟩
  · exact .base (.lst h)
  · exact .base (.frz h)
  · exact .kList h c
theorem tyT {K : PySem.W.Frag} {H : Hp} {a : Addr} {xs : List V} (h : SqT K H a xs) : TyX K H (.ref a) (.type "tuple") := by
  rcases h with (h | ⟨o, h⟩) | ⟨o, its, n, h, c, _⟩
  · exact .base (.tup h)
  · exact .fTuple h
  · exact .kTuple h c
theorem dp_intsV {K : PySem.W.Frag} {H : Hp} : ∀ {xs : List V} {is : List Int}, DpAll K H xs (is.map PyData.int) → xs = is.map V.int
  | _, [], r => by cases r; rfl
  | _, i :: is, r => by
    cases r with
    | cons r1 r2 => cases r1; rw [dp_intsV r2]; rfl
theorem dp_intsL {K : PySem.W.Frag} {H : Hp} {a : Addr} {is : List Int} (h : Dp K H (.ref a) (.list (is.map PyData.int))) : SqL K H a (is.map V.int) := by
  obtain ⟨a', xs, e, q, r⟩ := dp_list h
  cases e
  rw [← dp_intsV r]; exact q
theorem dp_strsV {K : PySem.W.Frag} {H : Hp} : ∀ {xs : List V} {is : List Str}, DpAll K H xs (is.map PyData.str) → xs = is.map V.str
  | _, [], r => by cases r; rfl
  | _, i :: is, r => by
    cases r with
    | cons r1 r2 => cases r1; rw [dp_strsV r2]; rfl
theorem dp_boolsV {K : PySem.W.Frag} {H : Hp} : ∀ {xs : List V} {is : List Bool}, DpAll K H xs (is.map PyData.bool) → xs = is.map V.bl
  | _, [], r => by cases r; rfl
  | _, i :: is, r => by
    cases r with
    | cons r1 r2 => cases r1; rw [dp_boolsV r2]; rfl
theorem dp_boolsL {K : PySem.W.Frag} {H : Hp} {a : Addr} {is : List Bool} (h : Dp K H (.ref a) (.list (is.map PyData.bool))) : SqL K H a (is.map V.bl) := by
  obtain ⟨a', xs, e, q, r⟩ := dp_list h
  cases e
  rw [← dp_boolsV r]; exact q
theorem size_eq (z : Str) : z.cps.size = z.cps.toList.length := by simp
theorem cps_at (z : Str) (i : Nat) : z.cps[i]? = z.cps.toList[i]? := by simp
theorem fm_list {α β : Type} (f : α → β) (xs : List α) (n : Nat) (h : n = xs.length) (g : Nat → Option β) (hg : ∀ i x, xs[i]? = some x → g i = some (f x)) : fm g n = xs.map f := by
  subst h
  rw [← fm_map f xs]
  unfold fm
  have : ∀ l : List Nat, (∀ i ∈ l, i < xs.length) → l.filterMap g = l.filterMap fun i => (xs[i]?).map f := by
    intro l
    induction l with
    | nil => intro _; rfl
    | cons i l ih =>
      intro hl
      have hi' := hl i List.mem_cons_self
      rw [List.filterMap_cons, List.filterMap_cons, hg i _ (List.getElem?_eq_getElem hi'), List.getElem?_eq_getElem hi', ih fun j hj => hl j (List.mem_cons_of_mem _ hj)]
      rfl
  exact this _ fun i hi => List.mem_range.mp hi
theorem rep_flat {α : Type} (v : α) : ∀ n : Nat, (List.replicate n [v]).flatten = List.replicate n v
  | 0 => rfl
  | n + 1 => by rw [List.replicate_succ, List.replicate_succ, List.flatten_cons, rep_flat v n]; rfl
/-- a list's object that is tracked, at p, new -/
structure NewL (H H' : Hp) (p : Addr) (xs : List V) : Prop where
  new : H p = none
  same : Same H H'
  at_ : H' p = some (.lst xs)
theorem NewL.ext {U H H' : Hp} {p : Addr} {xs : List V} (n : NewL H H' p xs) (s : Same U H) : Ext U H (upd U p (.lst xs)) H' :=
  ⟨same_upd (s.free n.new), fun b u e => by
    by_cases hb : b = p
    · subst hb; rw [upd_same] at e; rw [n.at_]; exact e
    · rw [upd_ne hb] at e; exact n.same _ _ (s b u e), n.same, fun a e => by
    by_cases ha : a = p
    · subst ha; exact Or.inr n.new
    · rw [upd_ne ha] at e; exact Or.inl e⟩
theorem str_app (x y : Str) : (x ++ y).cps.toList = x.cps.toList ++ y.cps.toList := Array.toList_append
theorem str_len_app (x y : Str) : (x ++ y).length = x.length + y.length := by
  show (x ++ y).cps.size = x.cps.size + y.cps.size
  rw [size_eq, str_app, List.length_append, ← size_eq, ← size_eq]
/-! ### _law_cell, _law_row -/
def lawCell (ns : List Int) (k : Nat) : Int :=
  let c := if 0 < ns.length then ns.getD (k % ns.length) 0 else 0
  if c < 0 then 1 - 2 * c else c
theorem lawCell_nn (ns : List Int) (k : Nat) : 0 ≤ lawCell ns k := by
  unfold lawCell
  simp only
  split <;> omega
def lawOne (c : Int) (k : Nat) : Int := (c * 48271 + (k : Int) * 69621 + 12345) % 2147483647
def lawTwo (o : Int) (k : Nat) : Int := (o * o + 16807 * (k : Int) + 7) % 2147483629
def lawRow (ns : List Int) (k : Nat) : Int :=
  if k < ns.length ∧ 1000000000 ≤ lawCell ns k then lawCell ns k
  else (lawTwo (lawOne (lawCell ns k) k) k * lawTwo (lawOne (lawCell ns k) k) k + lawOne (lawCell ns k) k) % 4294967291 + 4294967296 * (lawOne (lawCell ns k) k + 1)
theorem lawOne_b (c : Int) (k : Nat) : 0 ≤ lawOne c k ∧ lawOne c k < 2147483647 := by unfold lawOne; omega
theorem lawTwo_b (c : Int) (k : Nat) : 0 ≤ lawTwo c k ∧ lawTwo c k < 2147483629 := by
  unfold lawTwo
  generalize c * c + 16807 * (k : Int) + 7 = x
  omega
theorem lawRow_nn (ns : List Int) (k : Nat) : 0 ≤ lawRow ns k := by
  unfold lawRow
  have h1 := lawOne_b (lawCell ns k) k
  split
  · exact lawCell_nn ns k
  · generalize lawTwo (lawOne (lawCell ns k) k) k * lawTwo (lawOne (lawCell ns k) k) k + lawOne (lawCell ns k) k = x
    omega
def sp__law_cell (K : PySem.W.Frag) : Sp := fun vs H Q _ => ∃ (a : Addr) (ns : List Int) (k : Nat), vs = [.ref a, .int (k : Int)] ∧ SqL K H a (ns.map V.int) ∧ Q (.int (lawCell ns k)) H
theorem sc__law_cell : FnScope ["script", "k", "cell"] ["script", "k"] (defScope s__law_cell) := ⟨rfl, rfl, rfl, by decide +kernel, rfl, by decide +kernel, by decide +kernel⟩
theorem ok__law_cell (T : Txt K mg A) : FnOk P w K mg base CX0 1 A.f_law_cell A.d_law_cell ["script", "k"] (sp__law_cell K) := by
  refine T.F_law_cell.ok sc__law_cell (fun vs H Q E h => ?_) (fun cdv Ar outer s H vs Q E hr h => ?_)
  · obtain ⟨a, ns, k, rfl, _⟩ := h
    rfl
  · obtain ⟨a, ns, k, rfl, hS, q⟩ := h
    refine ⟨_, (pss_cons (ps_set (i := 2) sc__law_cell.nd rfl (Or.inl rfl) pe_int)
      (pss_cons (ps_if (pt_cmpR op_gt (pe_callB call_len_seq (by rfl) T.len PySem.boot_len (pa_cons (pv 0) pa_nil)) pe_int (nomark _))
      (pss_one (ps_set (i := 2) sc__law_cell.nd rfl (Or.inl rfl) (pe_ix ix_list (pv 0) (pe_op op_mod (pe_callTy call_int1 (by rfl) T.int (by decide +kernel) (pa_cons (pv 1) pa_nil)) (pe_callB call_len_seq (by rfl) T.len PySem.boot_len (pa_cons (pv 0) pa_nil))) (fun _ _ => rfl))))
      pss_nil)
      (pss_cons (ps_if (pt_cmpR op_lt (pv 2) pe_int (nomark _))
      (pss_one (ps_set (i := 2) sc__law_cell.nd rfl (Or.inl rfl) (pe_op op_sub pe_int (pe_op op_mul pe_int (pv 2)))))
      pss_nil)
      (pss_one (ps_ret (pv 2)))))), ?_⟩
    have two : ∀ (c : Int), (if c < 0 then 1 - 2 * c else c) = lawCell ns k → tSeq (tIfS (tTest (tOp (rI0 fun i j => .bl (decide (i < j))) (tVar 2) (tC (.int 0)))) (tAsg (tOp (rI0 fun i j => .int (i - j)) (tC (.int 1)) (tOp (rI CMul fun i j => .int (i * j)) (tC (.int 2)) (tVar 2))) (gName 2)) tNext) (tRet (tVar 2))
        { nx := fun _ H' => Q .non H', rt := Q } [some (.ref a), some (.int (k : Int)), some (.int c)] H := by
      intro c hc
      walk_at "rd"
      refine iteP (fun h => ?_) (fun h => ?_)
      · rw [if_pos h] at hc
        walk_at "rd"
        rw [← hc] at q; exact q
      · rw [if_neg h] at hc
        walk_at "rd"
        rw [← hc] at q; exact q
    refine ⟨.ref a, rfl, a, _, rfl, .inl hS, _, _, rfl, rfl, _, rfl, iteP (fun h => ?_) (fun h => ?_)⟩
    · have h0 : 0 < ns.length := by rw [List.length_map] at h; omega
      refine ⟨_, rfl, _, rfl, Or.inl ⟨_, rfl, ?_⟩⟩
      refine ⟨_, rfl, a, _, rfl, .inl hS, _, _, rfl, rfl, by show (0 : Int) < _; omega, a, _, _, .int (ns.getD (k % ns.length) 0), rfl, rfl, hS, ?_, ?_⟩
      · refine at_of (j := k % ns.length) ?_ ?_
        · rw [List.length_map]; exact (Int.natCast_emod _ _).symm
        · rw [List.getElem?_map, List.getElem?_eq_getElem (Nat.mod_lt _ h0), List.getD_eq_getElem?_getD, List.getElem?_eq_getElem (Nat.mod_lt _ h0)]; rfl
      · refine two _ ?_
        unfold lawCell; rw [if_pos h0]
    · have h0 : ¬ 0 < ns.length := by rw [List.length_map] at h; omega
      refine two _ ?_
      unfold lawCell; rw [if_neg h0]
def sp__law_row (K : PySem.W.Frag) : Sp := fun vs H Q _ => ∃ (a : Addr) (ns : List Int) (k : Nat), vs = [.ref a, .int (k : Int)] ∧ SqL K H a (ns.map V.int) ∧ Q (.int (lawRow ns k)) H
theorem sc__law_row : FnScope ["script", "k", "cell", "one", "two"] ["script", "k"] (defScope s__law_row) := ⟨rfl, rfl, rfl, by decide +kernel, rfl, by decide +kernel, by decide +kernel⟩
theorem ok__law_row (T : Txt K mg A) : FnOk P w K mg base CX0 2 A.f_law_row A.d_law_row ["script", "k"] (sp__law_row K) := by
  refine T.F_law_row.ok sc__law_row (fun vs H Q E h => ?_) (fun cdv Ar outer s H vs Q E hr h => ?_)
  · obtain ⟨a, ns, k, rfl, _⟩ := h
    rfl
  · obtain ⟨a, ns, k, rfl, hS, q⟩ := h
    refine ⟨_, (pss_cons (ps_set (i := 2) sc__law_row.nd rfl (Or.inl rfl) (pe_call (ok__law_cell T) (hr.mono (by decide)) rfl T.g_law_cell T.k_law_cell T.b_law_cell .nil pass0 (pa_cons (pv 0) (pa_cons (pv 1) pa_nil))))
      (pss_cons (ps_if (PW.pt (pw_and (pt_cmpR op_lt (pv 1) (pe_callB call_len_seq (by rfl) T.len PySem.boot_len (pa_cons (pv 0) pa_nil)) (nomark _)) (pw_and1 (pt_cmpR op_ge (pv 2) pe_int (nomark _)))))
      (pss_one (ps_ret (pv 2)))
      pss_nil)
      (pss_cons (ps_set (i := 3) sc__law_row.nd rfl (Or.inl rfl) (pe_op op_mod (pe_callTy call_int1 (by rfl) T.int (by decide +kernel) (pa_cons (pe_op op_add (pe_op op_add (pe_op op_mul (pv 2) pe_int) (pe_op op_mul (pv 1) pe_int)) pe_int) pa_nil)) pe_int))
      (pss_cons (ps_set (i := 4) sc__law_row.nd rfl (Or.inl rfl) (pe_op op_mod (pe_callTy call_int1 (by rfl) T.int (by decide +kernel) (pa_cons (pe_op op_add (pe_op op_add (pe_op op_mul (pv 3) (pv 3)) (pe_op op_mul pe_int (pv 1))) pe_int) pa_nil)) pe_int))
      (pss_one (ps_ret (pe_op op_add (pe_op op_mod (pe_callTy call_int1 (by rfl) T.int (by decide +kernel) (pa_cons (pe_op op_add (pe_op op_mul (pv 4) (pv 4)) (pv 3)) pa_nil)) pe_int) (pe_op op_mul pe_int (pe_op op_add (pv 3) pe_int))))))))), ?_⟩
    have b1 := lawOne_b (lawCell ns k) k
    have b2 := lawTwo_b (lawOne (lawCell ns k) k) k
    have m1 : CMul (lawOne (lawCell ns k) k) (lawOne (lawCell ns k) k) := Or.inl ⟨by omega, by omega⟩
    have m2 : CMul (lawTwo (lawOne (lawCell ns k) k) k) (lawTwo (lawOne (lawCell ns k) k) k) := Or.inl ⟨by omega, by omega⟩
    refine ⟨_, rfl, _, rfl, a, ns, k, rfl, hS, ?_⟩
    refine ⟨_, rfl, _, rfl, a, _, rfl, .inl hS, _, _, rfl, rfl, _, rfl, ?_⟩
    refine iteP (fun h => ?_) (fun h => ?_)
    · refine ⟨_, rfl, _, _, rfl, rfl, _, rfl, iteP (fun h2 => ?_) (fun h2 => ?_)⟩
      · have e : lawRow ns k = lawCell ns k := by unfold lawRow; rw [if_pos ⟨by rw [List.length_map] at h; omega, h2⟩]
        rw [e] at q
        exact ⟨_, rfl, q⟩
      · unfold lawRow at q
        rw [if_neg fun z => h2 z.2] at q
        walk_at "rd"
        refine ⟨m1, ?_⟩
        walk_at "rd"
        refine ⟨m2, ?_⟩
        walk_at "rd"
        exact q
    · unfold lawRow at q
      rw [if_neg fun z => h (by rw [List.length_map]; omega)] at q
      walk_at "rd"
      refine ⟨m1, ?_⟩
      walk_at "rd"
      refine ⟨m2, ?_⟩
      walk_at "rd"
      exact q
/-! ### number_at, _cut, cut_messages -/
def numAt (xs : List Int) (at_ c : Nat) : Int := ((List.range c).map fun k => xs.getD (at_ + k) 0 * 2 ^ (8 * k)).sum
theorem numAt2 (xs : List Int) (p : Nat) : numAt xs p 2 = xs.getD p 0 + 256 * xs.getD (p + 1) 0 := by
  show xs.getD (p + 0) 0 * 2 ^ 0 + (xs.getD (p + 1) 0 * 2 ^ 8 + 0) = _
  rw [Nat.add_zero]; omega
theorem numAt4 (xs : List Int) (p : Nat) : numAt xs p 4 = xs.getD p 0 + 256 * xs.getD (p + 1) 0 + 65536 * xs.getD (p + 2) 0 + 16777216 * xs.getD (p + 3) 0 := by
  show xs.getD (p + 0) 0 * 2 ^ 0 + (xs.getD (p + 1) 0 * 2 ^ 8 + (xs.getD (p + 2) 0 * 2 ^ 16 + (xs.getD (p + 3) 0 * 2 ^ 24 + 0))) = _
  rw [Nat.add_zero]; omega
def okOcts (xs : List Int) : Prop := ∀ x ∈ xs, 0 ≤ x ∧ x ≤ 255
theorem getD_at {xs : List Int} {i : Nat} (h : i < xs.length) : (xs.map V.int)[i]? = some (.int (xs.getD i 0)) := by
  rw [List.getElem?_map, List.getElem?_eq_getElem h, List.getD_eq_getElem?_getD, List.getElem?_eq_getElem h]; rfl
theorem okOcts.get {xs : List Int} (h : okOcts xs) (i : Nat) : 0 ≤ xs.getD i 0 ∧ xs.getD i 0 ≤ 255 := by
  rw [List.getD_eq_getElem?_getD]
  cases e : xs[i]? with
  | none => decide
  | some x => exact h x (List.mem_of_getElem? e)
def sp_number_at (K : PySem.W.Frag) : Sp := fun vs H Q _ => ∃ (a : Addr) (xs : List Int) (p c : Nat), vs = [.ref a, .int (p : Int), .int (c : Int)] ∧ SqL K H a (xs.map V.int) ∧ okOcts xs ∧ p + c ≤ xs.length ∧ c ≤ 1000 ∧ ∀ H', Same H H' → Q (.int (numAt xs p c)) H'
theorem sc_number_at : FnScope ["octets", "at", "count", "place"] ["octets", "at", "count"] (defScope s_number_at) := ⟨rfl, rfl, rfl, by decide +kernel, rfl, by decide +kernel, by decide +kernel⟩
theorem ok_number_at (T : Txt K mg A) : FnOk P w K mg base CX0 1 A.fnumber_at A.dnumber_at ["octets", "at", "count"] (sp_number_at K) := by
  refine T.Fnumber_at.ok sc_number_at (fun vs H Q E h => ?_) (fun cdv Ar outer s H vs Q E hr h => ?_)
  · obtain ⟨a, xs, p, c, rfl, _⟩ := h
    rfl
  · obtain ⟨a, xs, p, c, rfl, hS, ho, hl, hc, q⟩ := h
    refine ⟨_, (pss_one (ps_ret (pe_callB (cr_sum rfl) (by rfl) T.sum (by decide +kernel) (pa_cons (pe_lc (own := [("place", 3)]) (g := (gName 3)) (tt := tYes) rfl sc_number_at.nd (pi_range1 (by rfl) T.range (pa_cons (pv 2) pa_nil)) (blkOk_by (own := [("place", 3)]) (N := ["octets", "at", "count", "place"]) (sc := defScope s_number_at) (by decide +kernel)) (fun _ _ _ _ _ => (pg_name (i := 3) sc_number_at.nd rfl (Or.inl rfl))) (fun _ _ _ _ _ => pts_nil) (fun _ _ _ _ _ => by exact (pe_op op_shl (pe_ix (r := rIxL K) ix_list (pv 0) (pe_op op_add (pv 1) (pv 3)) (fun _ _ => rfl)) (pe_op op_mul pe_int (pv 3))))) pa_nil)))), ?_⟩
    refine ⟨_, rfl, (c : Int), rfl, by omega, by omega, fun D hD => ?_⟩
    refine lc_dp (walk_range (lo := 0) (n := (c : Int).toNat)) (K := K) (V0 := H) (H0 := H) (fun k => some (PyData.int (xs.getD (p + k) 0 * 2 ^ (8 * k)))) [some (.ref a), some (.int (p : Int)), some (.int (c : Int)), none] rfl (Same.refl _) hD (by omega) (fun _ _ => trivial) (fun i x H H' y => y.1) ?_ ?_
    · rintro i x U H1 hi xx ⟨_, rfl⟩ Qy Qn hy _
      have hb := ho.get (p + i)
      have e1 : (8 * (0 + (i : Int))).toNat = 8 * i := by omega
      refine ⟨rfl, _, rfl, _, rfl, _, rfl, _, _, rfl, rfl, a, _, _, .int (xs.getD (p + i) 0), rfl, rfl, xx.hh.seq hS, at_of (j := p + i) (by omega) (getD_at (by omega)), ?_⟩
      refine ⟨_, rfl, _, _, rfl, rfl, Or.inl ⟨by decide, by decide⟩, _, _, rfl, rfl, ⟨?_, ?_, ?_⟩, ?_⟩
      · show (0 : Int) ≤ 8 * (0 + (i : Int)); omega
      · show 8 * (0 + (i : Int)) ≤ 1000000; omega
      · have : (xs.getD (p + i) 0).natAbs ≤ 255 := by omega
        exact Nat.lt_of_le_of_lt this (by decide)
      · dsimp only
        rw [e1]
        exact hy _ _ _ _ rfl (Ext.refl xx.vh) (.int _)
    · rintro U H1 ys xx hDU dl _
      rw [show (c : Int).toNat = c by omega, fm_some, show ((List.range c).map fun k => PyData.int (xs.getD (p + k) 0 * 2 ^ (8 * k))) = ((List.range c).map fun k => xs.getD (p + k) 0 * 2 ^ (8 * k)).map PyData.int from by rw [List.map_map]; rfl] at dl
      have e := dp_intsV dl
      subst e
      exact ⟨D, _, rfl, SqL.of (xx.vh _ _ hDU), q _ xx.hh⟩
theorem cutV_nat {xs : List V} {i j : Nat} (h : i ≤ j) (hj : j ≤ xs.length) : cutV xs (some (i : Int)) (some (j : Int)) = (xs.drop i).take (j - i) := by
  unfold cutV
  rw [HT.sIx_nat, HT.sIx_nat, Nat.min_eq_left (show i ≤ xs.length by omega), Nat.min_eq_left hj]
/-! ### _cut, cut_messages (behind number_at) -/
abbrev Msg := Int × Int × List Int
def msgD (m : Msg) : PyData := .tuple [.int m.1, .int m.2.1, pInts m.2.2]
theorem sh_msg (m : Msg) : Sh 2 (msgD m) := sh_tuple fun d hd => by
  simp only [List.mem_cons, List.not_mem_nil, or_false] at hd
  rcases hd with rfl | rfl | rfl
  · exact (sh_int _).mono (by decide)
  · exact (sh_int _).mono (by decide)
  · exact sh_ints _
def msgsD (ms : List Msg) : PyData := .list (ms.map msgD)
theorem sh_msgs (ms : List Msg) : Sh 3 (msgsD ms) := sh_list fun d hd => by
  obtain ⟨m, _, rfl⟩ := List.mem_map.mp hd
  exact sh_msg m
def isSize (s : Int) : Bool := decide (8 ≤ s ∧ s ≤ 20480 ∧ s % 4 = 0)
def msgAt (xs : List Int) (p : Nat) (s : Int) : Msg := (numAt xs p 4, numAt xs (p + 4) 2, (xs.drop (p + 8)).take (s.toNat - 8))
def cutF (xs : List Int) : Nat → Nat → List Msg × Nat × Bool
  | 0, p => ([], p, false)
  | f + 1, p => if xs.length < p + 8 then ([], p, false)
    else if isSize (numAt xs (p + 6) 2) = false then ([], p, true)
    else if (xs.length : Int) < p + numAt xs (p + 6) 2 then ([], p, false)
    else (msgAt xs p (numAt xs (p + 6) 2) :: (cutF xs f (p + (numAt xs (p + 6) 2).toNat)).1, (cutF xs f (p + (numAt xs (p + 6) 2).toNat)).2)
def cutR (xs : List Int) : List Msg × Nat × Bool := cutF xs (xs.length + 1) 0
theorem cutF_le (xs : List Int) : ∀ f p, p ≤ xs.length → (cutF xs f p).2.1 ≤ xs.length
  | 0, p, h => h
  | f + 1, p, h => by
    unfold cutF
    split
    · exact h
    · split
      · exact h
      · split
        · exact h
        · refine cutF_le xs f _ ?_
          rename_i h1 h2 h3
          have : isSize (numAt xs (p + 6) 2) = true := by simpa using h2
          have := of_decide_eq_true this
          omega
theorem cutR_le (xs : List Int) : (cutR xs).2.1 ≤ xs.length := cutF_le xs _ 0 (Nat.zero_le _)
theorem cutV_from {xs : List V} {i : Nat} (h : i ≤ xs.length) : cutV xs (some (i : Int)) none = xs.drop i := by
  unfold cutV
  rw [HT.sIx_nat, HT.sIx_none, Nat.min_eq_left h]
  exact List.take_of_length_le (by rw [List.length_drop]; exact Nat.le_refl _)
theorem cutV_to {xs : List V} {j : Nat} (h : j ≤ xs.length) : cutV xs none (some (j : Int)) = xs.take j := by
  unfold cutV
  rw [HT.sIx_nat, HT.sIx_none, Nat.min_eq_left h]; rfl
def sp_is_message_size (K : PySem.W.Frag) : Sp := fun vs H Q _ => ∃ (s : Int), vs = [.int s] ∧ Q (.bl (isSize s)) H
theorem sc_is_message_size : FnScope ["size"] ["size"] (defScope s_is_message_size) := ⟨rfl, rfl, rfl, by decide +kernel, rfl, by decide +kernel, by decide +kernel⟩
theorem ok_is_message_size (T : Txt K mg A) : FnOk P w K mg base CX0 1 A.fis_message_size A.dis_message_size ["size"] (sp_is_message_size K) := by
  refine T.Fis_message_size.ok sc_is_message_size (fun vs H Q E h => ?_) (fun cdv Ar outer s H vs Q E hr h => ?_)
  · obtain ⟨c, rfl, _⟩ := h
    rfl
  · obtain ⟨c, rfl, q⟩ := h
    refine ⟨_, (pss_one (ps_ret (pe_and (pe_chain op_le op_le (pe_glob (v := .int (8)) rfl T.gHEADER_SIZE ⟨_, rfl⟩) (pv 0) (pe_glob (v := .int (20480)) rfl T.gGREATEST_SIZE ⟨_, rfl⟩)) (pe_one (pe_cmpR op_eq (pe_op op_mod (pv 0) pe_int) pe_int (nomark _)))))), ?_⟩
    unfold isSize at q
    refine ⟨_, rfl, _, _, rfl, rfl, _, rfl, iteP (fun h1 => ?_) (fun h1 => ?_)⟩
    · refine ⟨_, _, rfl, rfl, _, rfl, iteP (fun h2 => ?_) (fun h2 => ?_)⟩
      · refine ⟨_, rfl, _, _, rfl, rfl, by show (0 : Int) < 4; decide, rfl, ?_⟩
        by_cases h3 : c % 4 = 0
        · rw [decide_eq_true ⟨h1, h2, h3⟩] at q
          dsimp only
          rw [decide_eq_true (by rw [h3])]; exact q
        · rw [decide_eq_false fun z => h3 z.2.2] at q
          dsimp only
          rw [decide_eq_false fun z => h3 (V.int.inj z)]; exact q
      · rw [decide_eq_false fun z => h2 z.2.1] at q; exact q
    · refine ⟨_, rfl, if_f rfl ?_⟩
      rw [decide_eq_false fun z => h1 z.1] at q; exact q
/-- _cut: a new tuple of a new list of messages, the place, the fault -/
def sp__cut (K : PySem.W.Frag) : Sp := fun vs H Q _ => ∃ (a : Addr) (xs : List Int) (U : Hp), vs = [.ref a] ∧ Same U H ∧ SqL K H a (xs.map V.int) ∧ okOcts xs ∧ xs.length < 80000 ∧
  ∀ (p m : Addr) (U' H' : Hp), Ext U H U' H' → U' p = some (.tup [.ref m, .int ((cutR xs).2.1 : Int), .bl (cutR xs).2.2]) → Dp K U' (.ref m) (msgsD (cutR xs).1) → (∃ ys, U' m = some (.lst ys) ∧ DpAll K U' ys ((cutR xs).1.map msgD)) → Q (.ref p) H'
theorem sc__cut : FnScope ["octets", "messages", "at", "size", "body"] ["octets"] (defScope s__cut) := ⟨rfl, rfl, rfl, by decide +kernel, rfl, by decide +kernel, by decide +kernel⟩
theorem ok__cut (T : Txt K mg A) : FnOk P w K mg base CX0 2 A.f_cut A.d_cut ["octets"] (sp__cut K) := by
  refine T.F_cut.ok sc__cut (fun vs H Q E h => ?_) (fun cdv Ar outer s H vs Q E hr h => ?_)
  · obtain ⟨a, xs, U, rfl, _⟩ := h
    rfl
  · obtain ⟨a, xs, U, rfl, hU, hS, ho, hl, q⟩ := h
    refine ⟨_, (pss_cons (ps_set (i := 1) sc__cut.nd rfl (Or.inl rfl) (pe_lst pa_nil))
      (pss_cons (ps_set (i := 2) sc__cut.nd rfl (Or.inl rfl) pe_int)
      (pss_cons (ps_while PassesOwn.never (pt_cmpR op_le (pe_op op_add (pv 2) (pe_glob (v := .int (8)) rfl T.gHEADER_SIZE ⟨_, rfl⟩)) (pe_callB call_len_seq (by rfl) T.len PySem.boot_len (pa_cons (pv 0) pa_nil)) (nomark _))
      (pss_cons (ps_set (i := 3) sc__cut.nd rfl (Or.inl rfl) (pe_call (ok_number_at T) (hr.mono (by decide)) rfl T.gnumber_at T.knumber_at T.bnumber_at .nil pass0 (pa_cons (pv 0) (pa_cons (pe_op op_add (pv 2) pe_int) (pa_cons pe_int pa_nil)))))
      (pss_cons (ps_if (pt_not (pt_val (pe_call (ok_is_message_size T) (hr.mono (by decide)) rfl T.gis_message_size T.kis_message_size T.bis_message_size .nil pass0 (pa_cons (pv 3) pa_nil))))
      (pss_one (ps_ret (pe_tup (pa_cons (pv 1) (pa_cons (pv 2) (pa_cons pe_bl pa_nil))))))
      pss_nil)
      (pss_cons (ps_if (pt_cmpR op_gt (pe_op op_add (pv 2) (pv 3)) (pe_callB call_len_seq (by rfl) T.len PySem.boot_len (pa_cons (pv 0) pa_nil)) (nomark _))
      (pss_one ps_break)
      pss_nil)
      (pss_cons (ps_set (i := 4) sc__cut.nd rfl (Or.inl rfl) (pe_slice (r := rSlL K) sl_list (pv 0) (po_some (pe_op op_add (pv 2) (pe_glob (v := .int (8)) rfl T.gHEADER_SIZE ⟨_, rfl⟩))) (po_some (pe_op op_add (pv 2) (pv 3)))))
      (pss_cons (ps_expr (pe_bm PySem.F.plainAttrs_list PySem.F.slot_list_append PySem.F.type_list_append mt_append (pv 1) (pa_cons (pe_tup (pa_cons (pe_call (ok_number_at T) (hr.mono (by decide)) rfl T.gnumber_at T.knumber_at T.bnumber_at .nil pass0 (pa_cons (pv 0) (pa_cons (pv 2) (pa_cons pe_int pa_nil)))) (pa_cons (pe_call (ok_number_at T) (hr.mono (by decide)) rfl T.gnumber_at T.knumber_at T.bnumber_at .nil pass0 (pa_cons (pv 0) (pa_cons (pe_op op_add (pv 2) pe_int) (pa_cons pe_int pa_nil)))) (pa_cons (pv 4) pa_nil)))) pa_nil)))
      (pss_one (ps_aug (i := 2) sc__cut.nd rfl (Or.inl rfl) (pv 3) ip_add))))))))
      (pss_one (ps_ret (pe_tup (pa_cons (pv 1) (pa_cons (pv 2) (pa_cons pe_bl pa_nil))))))))), ?_⟩
    refine ⟨by decide, fun m hm => ?_⟩
    -- the end: the tuple
    have fin : ∀ (H' : Hp) (ms : List Msg) (pl : Nat) (ft : Bool), LcInv K U H m (ms.map msgD) H' → cutR xs = (ms, pl, ft) → ∀ p, H' p = none → Q (.ref p) (upd H' p (.tup [.ref m, .int (pl : Int), .bl ft])) := by
      intro H' ms pl ft inv e p hp
      obtain ⟨U1, ys, x1, e1, e2, e3⟩ := inv.done hm
      have x2 := x1.trans (Ext.new (o := .tup [.ref m, .int (pl : Int), .bl ft]) x1.vh hp)
      refine q p m _ _ x2 ?_ ?_ ⟨ys, same_upd (none_of_same x1.vh hp) _ _ e1, by rw [e]; exact e2.to (same_upd (none_of_same x1.vh hp))⟩
      · rw [e]; exact upd_same
      · rw [e]; exact e3.to (same_upd (none_of_same x1.vh hp))
    refine ⟨fun f σ H' => ∃ (acc : List Msg) (pl : Nat) (v3 v4 : Option V), LcInv K U H m (acc.map msgD) H' ∧ σ = [some (.ref a), some (.ref m), some (.int (pl : Int)), v3, v4] ∧ pl ≤ xs.length ∧ acc.length ≤ pl ∧ xs.length < pl + f ∧ cutR xs = (acc ++ (cutF xs f pl).1, (cutF xs f pl).2),
      ⟨xs.length + 1, [], 0, none, none, LcInv.start hU hm, rfl, Nat.zero_le _, Nat.zero_le _, by omega, rfl⟩, ?_⟩
    rintro f σ H1 ⟨acc, pl, v3, v4, inv, rfl, hp, hac, hf, hR⟩
    have sH : Same H H1 := by obtain ⟨_, _, x, _⟩ := inv.ex; exact x.hh
    have hS1 := sH.seq hS
    obtain ⟨f, rfl⟩ : ∃ g, f = g + 1 := ⟨f - 1, by omega⟩
    unfold cutF at hR
    refine ⟨_, rfl, _, _, rfl, rfl, _, rfl, a, _, rfl, .inl hS1, _, _, rfl, rfl, _, rfl, ?_⟩
    rw [List.length_map]
    refine iteP (fun h => ?_) (fun h => ?_)
    · rw [if_neg (show ¬ xs.length < pl + 8 by omega)] at hR
      refine ⟨fun σ' H' => ∃ (acc : List Msg) (pl : Nat) (v3 v4 : Option V), LcInv K U H m (acc.map msgD) H' ∧ σ' = [some (.ref a), some (.ref m), some (.int (pl : Int)), v3, v4] ∧ pl ≤ xs.length ∧ acc.length ≤ pl ∧ xs.length < pl + f ∧ cutR xs = (acc ++ (cutF xs f pl).1, (cutF xs f pl).2), fun σ' H' hN => ⟨f, Nat.lt_succ_self f, hN⟩, ?_⟩
      -- size
      refine ⟨_, rfl, _, rfl, _, _, rfl, rfl, a, xs, pl + 6, 2, ?_, hS1, ho, by omega, by decide, fun H2 s2 => ?_⟩
      · show [V.ref a, V.int ((pl : Int) + 6), V.int 2] = [V.ref a, V.int ((pl + 6 : Nat) : Int), V.int 2]
        rw [Int.natCast_add]; rfl
      have inv2 : LcInv K U H m (acc.map msgD) H2 := by
        obtain ⟨U1, ys, x, e1, e2, e3⟩ := inv.ex
        exact ⟨U1, ys, ⟨x.vv, x.vh.trans s2, x.hh.trans s2, x.nw⟩, e1, s2 _ _ e2, e3⟩
      have hS2 := s2.seq hS1
      generalize numAt xs (pl + 6) 2 = sz at hR ⊢
      refine ⟨_, rfl, sz, rfl, _, rfl, if_b (fun c => ?_) (fun c => ?_)⟩
      · have c' : isSize sz = false := by
          cases e : isSize sz
          · rfl
          · rw [e] at c; cases c
        rw [if_pos c'] at hR
        rw [List.append_nil] at hR
        exact ⟨_, rfl, _, rfl, len_line (by show 3 ≤ 100000; decide), fun p hp => fin _ _ _ _ inv2 hR p hp⟩
      · have c' : isSize sz = true := by
          cases e : isSize sz
          · rw [e] at c; cases c
          · rfl
        have hsz := of_decide_eq_true c'
        rw [if_neg (by rw [c']; decide)] at hR
        refine ⟨_, rfl, _, rfl, _, _, rfl, rfl, _, rfl, a, _, rfl, .inl hS2, _, _, rfl, rfl, _, rfl, ?_⟩
        rw [List.length_map]
        refine iteP (fun h2 => ?_) (fun h2 => ?_)
        · rw [if_pos (by omega), List.append_nil] at hR
          exact ⟨_, rfl, _, rfl, len_line (by show 3 ≤ 100000; decide), fun p hp => fin _ _ _ _ inv2 hR p hp⟩
        · rw [if_neg (by omega)] at hR
          obtain ⟨k, rfl⟩ : ∃ k : Nat, sz = k := ⟨sz.toNat, by omega⟩
          refine ⟨_, rfl, _, rfl, _, _, rfl, rfl, _, rfl, _, rfl, _, rfl, _, _, rfl, rfl, _, rfl, a, _, rfl, hS2, fun b hb => ?_⟩
          have e1 : cutV (xs.map V.int) (some ((pl : Int) + 8)) (some ((pl : Int) + (k : Int))) = ((xs.drop (pl + 8)).take (k - 8)).map V.int := by
            have := cutV_nat (xs := xs.map V.int) (i := pl + 8) (j := pl + k) (by omega) (by rw [List.length_map]; omega)
            rw [Int.natCast_add, Int.natCast_add] at this
            rw [List.map_take, List.map_drop]
            rw [show pl + k - (pl + 8) = k - 8 by omega] at this
            exact this
          dsimp only
          rw [e1]
          obtain ⟨U1, ys, x, i1, i2, i3⟩ := inv2.ex
          have hmb : m ≠ b := ne_of_none i2 hb
          have xb := Ext.new (o := .lst (((xs.drop (pl + 8)).take (k - 8)).map V.int)) x.vh hb
          have hS3 := xb.hh.seq hS2
          refine ⟨_, rfl, .inl ⟨rfl, _, SqL.of (xb.hh _ _ i2)⟩, ?_⟩
          refine ⟨_, rfl, _, rfl, a, xs, pl, 4, rfl, hS3, ho, by omega, by decide, fun H4 s4 => ?_⟩
          refine ⟨_, rfl, _, rfl, _, _, rfl, rfl, a, xs, pl + 4, 2, ?_, s4.seq hS3, ho, by omega, by decide, fun H5 s5 => ?_⟩
          · show [V.ref a, V.int ((pl : Int) + 4), V.int 2] = [V.ref a, V.int ((pl + 4 : Nat) : Int), V.int 2]
            rw [Int.natCast_add]; rfl
          refine ⟨_, rfl, len_line (by show 3 ≤ 100000; decide), fun t ht => ?_⟩
          have xb2 : Ext U1 H2 (upd U1 b (.lst (((xs.drop (pl + 8)).take (k - 8)).map V.int))) H5 := ⟨xb.vv, (xb.vh.trans s4).trans s5, (xb.hh.trans s4).trans s5, xb.nw⟩
          have xt := xb2.trans (Ext.new (o := .tup [.int (numAt xs pl 4), .int (numAt xs (pl + 4) 2), .ref b]) xb2.vh ht)
          obtain ⟨acc', j1, j2, j3⟩ := LcInv.push (d := msgD (msgAt xs pl k)) (y := .ref t) hm x i1 i2 i3 xt
            (.tup (SqT.of upd_same) (.cons (.int _) (.cons (.int _) (.cons ((dp_ints (xs := (xs.drop (pl + 8)).take (k - 8)) (SqL.of upd_same)).to (same_upd (none_of_same xb2.vh ht))) .nil)))) (by rw [List.length_map]; omega)
          refine ⟨m, _, _, rfl, rfl, j1, j2, ?_⟩
          refine ⟨_, rfl, _, rfl, _, _, rfl, rfl, ?_⟩
          refine ⟨acc ++ [msgAt xs pl k], pl + k, some (.int (k : Int)), some (.ref b), ?_, ?_, by omega, by rw [List.length_append]; show acc.length + 1 ≤ _; omega, by omega, ?_⟩
          · rw [List.map_append]; exact j3
          · show [some (V.ref a), some (V.ref m), some (V.int ((pl : Int) + (k : Int))), _, _] = [some (V.ref a), some (V.ref m), some (V.int ((pl + k : Nat) : Int)), _, _]
            rw [Int.natCast_add]
          · rw [hR, List.append_assoc]; rfl
    · rw [if_pos (by omega), List.append_nil] at hR
      exact ⟨_, rfl, _, rfl, len_line (by show 3 ≤ 100000; decide), fun p hp => fin _ _ _ _ inv hR p hp⟩
def cutD (xs : List Int) : PyData := .tuple [msgsD (cutR xs).1, pInts (xs.drop (cutR xs).2.1), .bool (cutR xs).2.2]
theorem sh_cut (xs : List Int) : Sh 4 (cutD xs) := sh_tuple fun d hd => by
  simp only [List.mem_cons, List.not_mem_nil, or_false] at hd
  rcases hd with rfl | rfl | rfl
  · exact sh_msgs _
  · exact (sh_ints _).mono (by decide)
  · exact (sh_bool _).mono (by decide)
def sp_cut_messages (K : PySem.W.Frag) : Sp := fun vs H Q _ => ∃ (a : Addr) (xs : List Int) (U : Hp), vs = [.ref a] ∧ Same U H ∧ SqL K H a (xs.map V.int) ∧ okOcts xs ∧ xs.length < 80000 ∧
  ∀ (p m b : Addr) (U' H' : Hp), Ext U H U' H' → U' p = some (.tup [.ref m, .ref b, .bl (cutR xs).2.2]) → Dp K U' (.ref p) (cutD xs) → Dp K U' (.ref m) (msgsD (cutR xs).1) → U' b = some (.lst ((xs.drop (cutR xs).2.1).map V.int)) → Q (.ref p) H'
theorem sc_cut_messages : FnScope ["octets", "messages", "at", "fault"] ["octets"] (defScope s_cut_messages) := ⟨rfl, rfl, rfl, by decide +kernel, rfl, by decide +kernel, by decide +kernel⟩
theorem ok_cut_messages (T : Txt K mg A) : FnOk P w K mg base CX0 3 A.fcut_messages A.dcut_messages ["octets"] (sp_cut_messages K) := by
  refine T.Fcut_messages.ok sc_cut_messages (fun vs H Q E h => ?_) (fun cdv Ar outer s H vs Q E hr h => ?_)
  · obtain ⟨a, xs, U, rfl, _⟩ := h
    rfl
  · obtain ⟨a, xs, U, rfl, hU, hS, ho, hl, q⟩ := h
    refine ⟨_, (pss_cons (ps_asg (pe_call (ok__cut T) (hr.mono (by decide)) rfl T.g_cut T.k_cut T.b_cut .nil pass0 (pa_cons (pv 0) pa_nil)) (pg_tup rfl (pgs_cons (pg_name (i := 1) sc_cut_messages.nd rfl (Or.inl rfl)) (pgs_cons (pg_name (i := 2) sc_cut_messages.nd rfl (Or.inl rfl)) (pgs_cons (pg_name (i := 3) sc_cut_messages.nd rfl (Or.inl rfl)) pgs_nil)))))
      (pss_one (ps_ret (pe_tup (pa_cons (pv 1) (pa_cons (pe_slice (r := rSlL K) sl_list (pv 0) (po_some (pv 2)) po_none) (pa_cons (pv 3) pa_nil))))))), ?_⟩
    refine ⟨_, rfl, a, xs, U, rfl, hU, hS, ho, hl, fun p m U1 H1 x1 e1 d1 _ => ?_⟩
    have hle := cutR_le xs
    refine ⟨p, _, rfl, SqT.of (x1.vh _ _ e1), rfl, _, _, rfl, _, _, rfl, _, _, rfl, rfl, ?_⟩
    refine ⟨_, rfl, _, rfl, _, rfl, _, rfl, a, _, rfl, x1.hh.seq hS, fun b hb => ?_⟩
    rw [cutV_from (by rw [List.length_map]; exact hle), ← List.map_drop]
    refine ⟨_, rfl, len_line (by show 3 ≤ 100000; decide), fun t ht => ?_⟩
    have x2 := x1.trans (Ext.new (o := .lst ((xs.drop (cutR xs).2.1).map V.int)) x1.vh hb)
    have x3 := x2.trans (Ext.new (o := .tup [.ref m, .ref b, .bl (cutR xs).2.2]) x2.vh ht)
    have st := same_upd (o := .tup [.ref m, .ref b, .bl (cutR xs).2.2]) (none_of_same x2.vh ht)
    have sb := same_upd (o := .lst ((xs.drop (cutR xs).2.1).map V.int)) (none_of_same x1.vh hb)
    have dm := (d1.to sb).to st
    have eb := st _ _ (upd_same : (upd U1 b (.lst ((xs.drop (cutR xs).2.1).map V.int))) b = some (.lst ((xs.drop (cutR xs).2.1).map V.int)))
    exact q t m b _ _ x3 upd_same (.tup (SqT.of upd_same) (.cons dm (.cons (dp_ints (SqL.of eb)) (.cons (.bl _) .nil)))) dm eb
/-! ### the law's stream -/
theorem okOcts_app {xs ys : List Int} (h : okOcts xs) (g : okOcts ys) : okOcts (xs ++ ys) := fun x hx => by
  rcases List.mem_append.mp hx with h1 | h1
  · exact h x h1
  · exact g x h1
theorem okOcts_take {xs : List Int} (h : okOcts xs) (n : Nat) : okOcts (xs.take n) := fun x hx => h x (List.mem_of_mem_take hx)
theorem okOcts_drop {xs : List Int} (h : okOcts xs) (n : Nat) : okOcts (xs.drop n) := fun x hx => h x (List.mem_of_mem_drop hx)
def sp__law_message (K : PySem.W.Frag) : Sp := fun vs H Q _ => ∃ (r : Int), vs = [.int r] ∧ ∀ (p : Addr) (H' : Hp) (xs : List Int), NewL H H' p (xs.map V.int) → okOcts xs → xs.length ≤ 28 → Q (.ref p) H'
theorem sc__law_message : FnScope ["row", "number", "body", "j", "size"] ["row"] (defScope s__law_message) := ⟨rfl, rfl, rfl, by decide +kernel, rfl, by decide +kernel, by decide +kernel⟩
theorem ok__law_message (T : Txt K mg A) : FnOk P w K mg base CX0 1 A.f_law_message A.d_law_message ["row"] (sp__law_message K) := by
  refine T.F_law_message.ok sc__law_message (fun vs H Q E h => ?_) (fun cdv Ar outer s H vs Q E hr h => ?_)
  · obtain ⟨r, rfl, _⟩ := h
    rfl
  · obtain ⟨r, rfl, q⟩ := h
    refine ⟨_, (pss_cons (ps_set (i := 1) sc__law_message.nd rfl (Or.inl rfl) (pe_op op_add pe_int (pe_op op_mod (pe_callTy call_int1 (by rfl) T.int (by decide +kernel) (pa_cons (pv 0) pa_nil)) pe_int)))
      (pss_cons (ps_setLc (i := 2) (own := [("j", 3)]) (g := (gName 3)) (tt := tYes) rfl sc__law_message.nd rfl rfl (sw_true rfl rfl rfl (by decide +kernel)) (pi_range1 (by rfl) T.range (pa_cons (pe_op op_mul pe_int (pe_op op_mod (pe_callTy call_int1 (by rfl) T.int (by decide +kernel) (pa_cons (pe_op op_fdiv (pv 0) pe_int) pa_nil)) pe_int)) pa_nil)) (blkOk_by (own := [("j", 3)]) (N := ["row", "number", "body", "j", "size"]) (sc := defScope s__law_message) (by decide +kernel)) (fun _ _ _ _ _ => (pg_name (i := 3) sc__law_message.nd rfl (Or.inl rfl))) (fun _ _ _ _ _ => pts_nil) (fun _ _ _ _ _ => by exact (pe_op op_mod (pe_callTy call_int1 (by rfl) T.int (by decide +kernel) (pa_cons (pe_op op_fdiv (pv 0) (pe_op op_add (pv 3) pe_int)) pa_nil)) pe_int)))
      (pss_cons (ps_set (i := 4) sc__law_message.nd rfl (Or.inl rfl) (pe_op op_add (pe_callB call_len_seq (by rfl) T.len PySem.boot_len (pa_cons (pv 2) pa_nil)) pe_int))
      (pss_one (ps_ret (pe_op op_cat (pe_lst (pa_cons (pv 1) (pa_cons pe_int (pa_cons pe_int (pa_cons pe_int (pa_cons (pe_op op_mod (pe_callTy call_int1 (by rfl) T.int (by decide +kernel) (pa_cons (pe_op op_fdiv (pv 0) pe_int) pa_nil)) pe_int) (pa_cons pe_int (pa_cons (pv 4) (pa_cons pe_int pa_nil))))))))) (pv 2))))))), ?_⟩
    walk_at "rd"
    refine ⟨by show -(2 ^ 62) ≤ 4 * (r / 7 % 6); omega, by show 4 * (r / 7 % 6) < 2 ^ 62; omega, fun D hD => ?_⟩
    obtain ⟨n, hn⟩ : ∃ n : Nat, 4 * (r / 7 % 6) = n := ⟨(4 * (r / 7 % 6)).toNat, by omega⟩
    dsimp only
    rw [hn, show (n : Int).toNat = n by omega]
    refine lc_dp (walk_range (lo := 0) (n := n)) (K := K) (V0 := H) (H0 := H) (fun k => some (PyData.int (r / ((k : Int) + 2) % 256))) [some (.int r), some (.int (1 + r % 7)), none, none, none] rfl (Same.refl _) hD (by omega) (fun _ _ => trivial) (fun i x H H' y => y.1) ?_ ?_
    · rintro i x U H1 hi xx ⟨_, rfl⟩ Qy Qn hy _
      refine ⟨rfl, _, rfl, _, rfl, _, _, rfl, rfl, _, _, rfl, rfl, ⟨?_, ?_⟩, Or.inl ⟨_, rfl, ?_⟩⟩
      · show (0 : Int) < 0 + (i : Int) + 2; omega
      · show 0 + (i : Int) + 2 < 1073741824; omega
      refine ⟨_, _, rfl, rfl, by show (0 : Int) < 256; decide, ?_⟩
      rw [Int.zero_add]
      exact hy _ _ _ _ rfl (Ext.refl xx.vh) (.int _)
    · rintro U H1 ys xx hDU dl _
      have e0 : fm (fun k : Nat => some (PyData.int (r / ((k : Int) + 2) % 256))) n = ((List.range n).map fun k : Nat => r / ((k : Int) + 2) % 256).map PyData.int := by
        rw [fm_some, List.map_map]; rfl
      rw [e0] at dl
      have e := dp_intsV dl
      subst e
      have hb : okOcts ((List.range n).map fun k : Nat => r / ((k : Int) + 2) % 256) := fun x hx => by
        obtain ⟨k, _, rfl⟩ := List.mem_map.mp hx
        omega
      have hbl : ((List.range n).map fun k : Nat => r / ((k : Int) + 2) % 256).length = n := by rw [List.length_map, List.length_range]
      generalize ((List.range n).map fun k : Nat => r / ((k : Int) + 2) % 256) = body at hb hbl dl hDU
      have hDH := xx.vh _ _ hDU
      refine ⟨_, rfl, D, _, rfl, .inl (SqL.of hDH), ?_⟩
      rw [List.length_map, hbl]
      walk_at "rd"
      refine ⟨len_line (by show 8 ≤ 100000; decide), fun p hp => ?_⟩
      have hDp : D ≠ p := ne_of_none hDH hp
      refine ⟨_, rfl, p, D, _, _, rfl, rfl, upd_same, by rw [upd_ne hDp]; exact hDH, ?_, fun p2 hp2 => ?_⟩
      · rw [List.length_map, hbl]; exact len_line (by show 8 + n ≤ 100000; omega)
      refine q p2 _ ([1 + r % 7, 0, 0, 0, r / 5 % 9, 0, (n : Int) + 8, 0] ++ body) ⟨xx.hh.free ((same_upd hp).free hp2), xx.hh.trans ((same_upd hp).trans (same_upd hp2)), ?_⟩ ?_ ?_
      · rw [upd_same, List.map_append]; rfl
      · refine okOcts_app (fun x hx => ?_) hb
        simp only [List.mem_cons, List.not_mem_nil, or_false] at hx
        rcases hx with rfl | rfl | rfl | rfl | rfl | rfl | rfl | rfl <;> omega
      · rw [List.length_append, hbl]; show 8 + n ≤ 28; omega
def sp__law_stream (K : PySem.W.Frag) : Sp := fun vs H Q _ => ∃ (a : Addr) (ns : List Int) (c : Nat), vs = [.ref a, .int (c : Int)] ∧ SqL K H a (ns.map V.int) ∧ c ≤ 100 ∧ ∀ (p : Addr) (H' : Hp) (xs : List Int), NewL H H' p (xs.map V.int) → okOcts xs → xs.length ≤ 3000 → Q (.ref p) H'
theorem sc__law_stream : FnScope ["script", "count", "octets", "k", "row", "size"] ["script", "count"] (defScope s__law_stream) := ⟨rfl, rfl, rfl, by decide +kernel, rfl, by decide +kernel, by decide +kernel⟩
theorem ok__law_stream (T : Txt K mg A) : FnOk P w K mg base CX0 3 A.f_law_stream A.d_law_stream ["script", "count"] (sp__law_stream K) := by
  refine T.F_law_stream.ok sc__law_stream (fun vs H Q E h => ?_) (fun cdv Ar outer s H vs Q E hr h => ?_)
  · obtain ⟨a, ns, c, rfl, _⟩ := h
    rfl
  · obtain ⟨a, ns, c, rfl, hS, hc, q⟩ := h
    refine ⟨_, (pss_cons (ps_set (i := 2) sc__law_stream.nd rfl (Or.inl rfl) (pe_lst pa_nil))
      (pss_cons (ps_for PassesOwn.never rfl (pi_range1 (by rfl) T.range (pa_cons (pv 1) pa_nil)) (pg_name (i := 3) sc__law_stream.nd rfl (Or.inl rfl))
      (pss_cons (ps_set (i := 4) sc__law_stream.nd rfl (Or.inl rfl) (pe_call (ok__law_row T) (hr.mono (by decide)) rfl T.g_law_row T.k_law_row T.b_law_row .nil pass0 (pa_cons (pv 0) (pa_cons (pv 3) pa_nil))))
      (pss_one (ps_if (pt_cmpR op_eq (pe_op op_mod (pe_callTy call_int1 (by rfl) T.int (by decide +kernel) (pa_cons (pv 4) pa_nil)) pe_int) pe_int (nomark _))
      (pss_cons (ps_set (i := 5) sc__law_stream.nd rfl (Or.inl rfl) (pe_ix (r := rIxT K) ix_tup (pe_tup (pa_cons pe_int (pa_cons pe_int (pa_cons pe_int (pa_cons pe_int (pa_cons pe_int (pa_cons pe_int (pa_cons pe_int (pa_cons pe_int pa_nil))))))))) (pe_op op_mod (pe_callTy call_int1 (by rfl) T.int (by decide +kernel) (pa_cons (pe_op op_fdiv (pv 4) pe_int) pa_nil)) pe_int) (fun _ _ => rfl)))
      (pss_one (ps_set (i := 2) sc__law_stream.nd rfl (Or.inl rfl) (pe_op op_cat (pe_op op_cat (pv 2) (pe_lst (pa_cons pe_int (pa_cons pe_int (pa_cons pe_int (pa_cons pe_int (pa_cons pe_int (pa_cons pe_int (pa_cons (pe_op op_mod (pv 5) pe_int) (pa_cons (pe_op op_fdiv (pv 5) pe_int) pa_nil)))))))))) (pe_op op_rep (pe_lst (pa_cons pe_int pa_nil)) (pe_op op_mod (pe_callTy call_int1 (by rfl) T.int (by decide +kernel) (pa_cons (pe_op op_fdiv (pv 4) pe_int) pa_nil)) pe_int))))))
      (pss_one (ps_set (i := 2) sc__law_stream.nd rfl (Or.inl rfl) (pe_op op_cat (pv 2) (pe_call (ok__law_message T) (hr.mono (by decide)) rfl T.g_law_message T.k_law_message T.b_law_message .nil pass0 (pa_cons (pe_callTy call_int1 (by rfl) T.int (by decide +kernel) (pa_cons (pe_op op_fdiv (pv 4) pe_int) pa_nil)) pa_nil)))))))))
      (pss_cons (ps_set (i := 4) sc__law_stream.nd rfl (Or.inl rfl) (pe_call (ok__law_row T) (hr.mono (by decide)) rfl T.g_law_row T.k_law_row T.b_law_row .nil pass0 (pa_cons (pv 0) (pa_cons (pe_op op_add (pv 1) pe_int) pa_nil))))
      (pss_one (ps_ret (pe_op op_cat (pv 2) (pe_slice (r := rSlL K) sl_list (pe_lst (pa_cons pe_int (pa_cons pe_int (pa_cons pe_int (pa_cons pe_int (pa_cons pe_int (pa_cons pe_int (pa_cons pe_int (pa_cons pe_int (pa_cons pe_int (pa_cons pe_int (pa_cons pe_int pa_nil)))))))))))) po_none (po_some (pe_op op_mod (pe_callTy call_int1 (by rfl) T.int (by decide +kernel) (pa_cons (pv 4) pa_nil)) pe_int))))))))), ?_⟩
    refine ⟨by decide, fun p0 hp0 => ?_⟩
    refine ⟨_, rfl, (c : Int), rfl, by omega, by omega, for_range (lo := 0) (n := (c : Int).toNat) (fun i σ H' => ∃ (p : Addr) (xs : List Int) (v3 v4 v5 : Option V), σ = [some (.ref a), some (.int (c : Int)), some (.ref p), v3, v4, v5] ∧ Same H H' ∧ H' p = some (.lst (xs.map V.int)) ∧ okOcts xs ∧ xs.length ≤ 28 * i)
      ⟨p0, [], _, _, _, rfl, same_upd hp0, upd_same, (fun x hx => by cases hx), Nat.zero_le _⟩ ?_ ?_⟩
    · rintro i σ H1 hi ⟨p, xs, v3, v4, v5, rfl, hs, he, ho, hl⟩
      refine ⟨_, rfl, _, rfl, a, ns, i, ?_, hs.seq hS, ?_⟩
      · show [V.ref a, V.int (0 + (i : Int))] = [V.ref a, V.int (i : Int)]
        rw [Int.zero_add]
      have hr0 := lawRow_nn ns i
      generalize lawRow ns i = row at hr0 ⊢
      walk_at "rd"
      refine iteEq (fun h => ?_) (fun h => ?_)
      · refine ⟨len_line (by show 8 ≤ 100000; decide), fun p1 h1 => ?_⟩
        have h01 : p ≠ p1 := ne_of_none he h1
        walk_at "rd"
        obtain ⟨sz, hsz, hat⟩ : ∃ sz : Int, (0 ≤ sz ∧ sz ≤ 65535) ∧ atI [V.int 0, V.int 4, V.int 7, V.int 9, V.int 10, V.int 20481, V.int 20484, V.int 65532] (row / 17 % 8) = some (.int sz) := by
          have hb : 0 ≤ row / 17 % 8 ∧ row / 17 % 8 < 8 := by omega
          have hj : (row / 17 % 8).toNat < [(0 : Int), 4, 7, 9, 10, 20481, 20484, 65532].length := by show _ < 8; omega
          refine ⟨[(0 : Int), 4, 7, 9, 10, 20481, 20484, 65532][(row / 17 % 8).toNat], ?_, at_of (j := (row / 17 % 8).toNat) (by omega) ?_⟩
          · have := List.getElem_mem hj
            generalize [(0 : Int), 4, 7, 9, 10, 20481, 20484, 65532][(row / 17 % 8).toNat] = z at this
            simp only [List.mem_cons, List.not_mem_nil, or_false] at this
            omega
          · show ([(0 : Int), 4, 7, 9, 10, 20481, 20484, 65532].map V.int)[(row / 17 % 8).toNat]? = _
            rw [List.getElem?_map, List.getElem?_eq_getElem hj]; rfl
        refine ⟨p1, _, _, _, rfl, rfl, SqT.of upd_same, hat, ?_⟩
        have t1 := same_upd (o := .tup [V.int 0, V.int 4, V.int 7, V.int 9, V.int 10, V.int 20481, V.int 20484, V.int 65532]) h1
        have he1 := t1 _ _ he
        walk_at "rd"
        refine ⟨len_line (by show 8 ≤ 100000; decide), fun p2 h2 => ?_⟩
        have he2 := same_upd (o := .lst [.int 1, .int 0, .int 0, .int 0, .int 0, .int 0, .int (sz % 256), .int (sz / 256)]) h2 _ _ he1
        have hsl : ∀ {m : Nat}, xs.length ≤ 28 * m → m ≤ 100 → xs.length ≤ 2800 := fun h g => by omega
        refine ⟨p, p2, _, _, rfl, rfl, he2, upd_same, ?_, fun p3 h3 => ?_⟩
        · rw [List.length_map]; exact len_line (by show xs.length + 8 ≤ _; omega)
        refine ⟨by decide, fun p4 h4 => ?_⟩
        walk_at "rd"
        refine ⟨p4, _, _, rfl, rfl, upd_same, ?_, ?_, ?_, fun p5 h5 => ?_⟩
        · show -(2 ^ 63) ≤ row / 136 % 9; omega
        · show row / 136 % 9 < 2 ^ 63; omega
        · exact len_line (by show 1 * (row / 136 % 9).toNat ≤ _; omega)
        obtain ⟨k, hk⟩ : ∃ k : Nat, (row / 136 % 9).toNat = k := ⟨_, rfl⟩
        have hk9 : k < 9 := by omega
        dsimp only
        rw [hk]
        have n35 := ne_of_none (same_upd (o := .lst [.int 7]) h4 _ _ (upd_same (H := upd (upd H1 p1 (.tup [V.int 0, V.int 4, V.int 7, V.int 9, V.int 10, V.int 20481, V.int 20484, V.int 65532])) p2 (.lst [.int 1, .int 0, .int 0, .int 0, .int 0, .int 0, .int (sz % 256), .int (sz / 256)])) (a := p3) (o := .lst (xs.map V.int ++ [.int 1, .int 0, .int 0, .int 0, .int 0, .int 0, .int (sz % 256), .int (sz / 256)])))) h5
        refine ⟨p3, p5, xs.map V.int ++ [.int 1, .int 0, .int 0, .int 0, .int 0, .int 0, .int (sz % 256), .int (sz / 256)], _, rfl, rfl, ?_, upd_same, ?_, fun p6 h6 => ?_⟩
        · rw [upd_ne n35]
          exact same_upd h4 _ _ upd_same
        · rw [rep_flat, List.length_append, List.length_map, List.length_replicate]; exact len_line (by show xs.length + 8 + _ ≤ _; omega)
        refine ⟨p6, xs ++ [1, 0, 0, 0, 0, 0, sz % 256, sz / 256] ++ List.replicate k 7, _, _, _, rfl, ?_, ?_, ?_, ?_⟩
        · exact hs.trans (t1.trans ((same_upd h2).trans ((same_upd h3).trans ((same_upd h4).trans ((same_upd h5).trans (same_upd h6))))))
        · rw [upd_same, rep_flat, List.map_append, List.map_append, List.map_replicate]; rfl
        · refine okOcts_app (okOcts_app ho fun x hx => ?_) fun x hx => ?_
          · simp only [List.mem_cons, List.not_mem_nil, or_false] at hx
            rcases hx with rfl | rfl | rfl | rfl | rfl | rfl | rfl | rfl <;> omega
          · rw [List.eq_of_mem_replicate hx]; decide
        · rw [List.length_append, List.length_append, List.length_replicate]; show xs.length + 8 + k ≤ _; omega
      · refine ⟨_, rfl, _, rfl, _, _, rfl, rfl, ⟨by decide, by decide⟩, Or.inl ⟨_, rfl, _, rfl, fun p1 H2 ys n1 hy hyl => ?_⟩⟩
        refine ⟨p, p1, _, _, rfl, rfl, n1.same _ _ he, n1.at_, ?_, fun p2 h2 => ?_⟩
        · rw [List.length_map, List.length_map]; exact len_line (by omega)
        refine ⟨p2, xs ++ ys, _, _, _, rfl, hs.trans (n1.same.trans (same_upd h2)), ?_, okOcts_app ho hy, by rw [List.length_append]; omega⟩
        rw [upd_same, List.map_append]
    · rintro σ H1 ⟨p, xs, v3, v4, v5, rfl, hs, he, ho, hl⟩
      refine ⟨_, rfl, _, rfl, _, _, rfl, rfl, a, ns, c + 63, ?_, hs.seq hS, ?_⟩
      · show [V.ref a, V.int ((c : Int) + 63)] = [V.ref a, V.int ((c + 63 : Nat) : Int)]
        rw [Int.natCast_add]; rfl
      have hr0 := lawRow_nn ns (c + 63)
      generalize lawRow ns (c + 63) = row at hr0 ⊢
      refine ⟨_, rfl, len_line (by show 11 ≤ 100000; decide), fun p1 h1 => ?_⟩
      walk_at "rd"
      obtain ⟨k, hk⟩ : ∃ k : Nat, row % 12 = k := ⟨(row % 12).toNat, by omega⟩
      refine ⟨p1, _, rfl, SqL.of upd_same, fun p2 h2 => ?_⟩
      dsimp only
      rw [hk, cutV_to (show k ≤ 11 by omega)]
      have e2 := same_upd (o := .lst (([9, 0, 0, 0, 1, 0, 16, 0, 5, 5, 5] : List Int).map V.int)) h1 _ _ he
      refine ⟨p, p2, _, _, rfl, rfl, same_upd h2 _ _ e2, upd_same, ?_, fun p3 h3 => ?_⟩
      · rw [List.length_map, List.length_take]; exact len_line (by omega)
      refine q p3 _ (xs ++ ([9, 0, 0, 0, 1, 0, 16, 0, 5, 5, 5] : List Int).take k) ⟨hs.free ((same_upd h1).free ((same_upd h2).free h3)), hs.trans ((same_upd h1).trans ((same_upd h2).trans (same_upd h3))), ?_⟩ (okOcts_app ho (okOcts_take (fun x hx => ?_) k)) ?_
      · rw [upd_same, List.map_append, List.map_take]; rfl
      · simp only [List.mem_cons, List.not_mem_nil, or_false] at hx
        omega
      · rw [List.length_append, List.length_take]; omega
def sp__law_cut (K : PySem.W.Frag) : Sp := fun vs H Q _ => ∃ (a : Addr) (xs : List Int), vs = [.ref a] ∧ SqL K H a (xs.map V.int) ∧ okOcts xs ∧ xs.length < 80000 ∧
  ∀ (p : Addr) (H' : Hp), Same H H' → Dp K H' (.ref p) (cutD xs) → Q (.ref p) H'
theorem sc__law_cut : FnScope ["octets", "messages", "at", "fault", "size", "number"] ["octets"] (defScope s__law_cut) := ⟨rfl, rfl, rfl, by decide +kernel, rfl, by decide +kernel, by decide +kernel⟩
theorem ok__law_cut (T : Txt K mg A) : FnOk P w K mg base CX0 1 A.f_law_cut A.d_law_cut ["octets"] (sp__law_cut K) := by
  refine T.F_law_cut.ok sc__law_cut (fun vs H Q E h => ?_) (fun cdv Ar outer s H vs Q E hr h => ?_)
  · obtain ⟨a, xs, rfl, _⟩ := h
    rfl
  · obtain ⟨a, xs, rfl, hS, ho, hl, q⟩ := h
    refine ⟨_, (pss_cons (ps_set (i := 1) sc__law_cut.nd rfl (Or.inl rfl) (pe_lst pa_nil))
      (pss_cons (ps_set (i := 2) sc__law_cut.nd rfl (Or.inl rfl) pe_int)
      (pss_cons (ps_set (i := 3) sc__law_cut.nd rfl (Or.inl rfl) pe_bl)
      (pss_cons (ps_while PassesOwn.never (PW.pt (pw_and (pt_cmpR op_ge (pe_op op_sub (pe_callB call_len_seq (by rfl) T.len PySem.boot_len (pa_cons (pv 0) pa_nil)) (pv 2)) pe_int (nomark _)) (pw_and1 (pt_not (pt_val (pv 3))))))
      (pss_cons (ps_set (i := 4) sc__law_cut.nd rfl (Or.inl rfl) (pe_op op_add (pe_ix (r := rIxL K) ix_list (pv 0) (pe_op op_add (pv 2) pe_int) (fun _ _ => rfl)) (pe_op op_mul pe_int (pe_ix (r := rIxL K) ix_list (pv 0) (pe_op op_add (pv 2) pe_int) (fun _ _ => rfl)))))
      (pss_one (ps_if (PW.pt (pw_or (pt_cmpR op_lt (pv 4) pe_int (nomark _)) (pw_or (pt_cmpR op_gt (pv 4) pe_int (nomark _)) (pw_or1 (pt_cmpR op_ne (pe_op op_mod (pe_callTy call_int1 (by rfl) T.int (by decide +kernel) (pa_cons (pv 4) pa_nil)) pe_int) pe_int (nomark _))))))
      (pss_one (ps_set (i := 3) sc__law_cut.nd rfl (Or.inl rfl) pe_bl))
      (pss_one (ps_if (pt_cmpR op_lt (pe_op op_sub (pe_callB call_len_seq (by rfl) T.len PySem.boot_len (pa_cons (pv 0) pa_nil)) (pv 2)) (pv 4) (nomark _))
      (pss_one ps_break)
      (pss_cons (ps_set (i := 5) sc__law_cut.nd rfl (Or.inl rfl) (pe_op op_add (pe_op op_add (pe_op op_add (pe_ix (r := rIxL K) ix_list (pv 0) (pv 2) (fun _ _ => rfl)) (pe_op op_mul pe_int (pe_ix (r := rIxL K) ix_list (pv 0) (pe_op op_add (pv 2) pe_int) (fun _ _ => rfl)))) (pe_op op_mul pe_int (pe_ix (r := rIxL K) ix_list (pv 0) (pe_op op_add (pv 2) pe_int) (fun _ _ => rfl)))) (pe_op op_mul pe_int (pe_ix (r := rIxL K) ix_list (pv 0) (pe_op op_add (pv 2) pe_int) (fun _ _ => rfl)))))
      (pss_cons (ps_expr (pe_bm PySem.F.plainAttrs_list PySem.F.slot_list_append PySem.F.type_list_append mt_append (pv 1) (pa_cons (pe_tup (pa_cons (pv 5) (pa_cons (pe_op op_add (pe_ix (r := rIxL K) ix_list (pv 0) (pe_op op_add (pv 2) pe_int) (fun _ _ => rfl)) (pe_op op_mul pe_int (pe_ix (r := rIxL K) ix_list (pv 0) (pe_op op_add (pv 2) pe_int) (fun _ _ => rfl)))) (pa_cons (pe_slice (r := rSlL K) sl_list (pv 0) (po_some (pe_op op_add (pv 2) pe_int)) (po_some (pe_op op_add (pv 2) (pv 4)))) pa_nil)))) pa_nil)))
      (pss_one (ps_set (i := 2) sc__law_cut.nd rfl (Or.inl rfl) (pe_op op_add (pv 2) (pv 4))))))))))))
      (pss_one (ps_ret (pe_tup (pa_cons (pv 1) (pa_cons (pe_slice (r := rSlL K) sl_list (pv 0) (po_some (pv 2)) po_none) (pa_cons (pv 3) pa_nil)))))))))), ?_⟩
    refine ⟨by decide, fun m hm => ?_⟩
    refine ⟨fun f σ H' => ∃ (acc : List Msg) (pl : Nat) (ft : Bool) (v4 v5 : Option V), LcInv K H H m (acc.map msgD) H' ∧ σ = [some (.ref a), some (.ref m), some (.int (pl : Int)), some (.bl ft), v4, v5] ∧ pl ≤ xs.length ∧ acc.length ≤ pl ∧
        ((ft = false ∧ xs.length < pl + f ∧ cutR xs = (acc ++ (cutF xs f pl).1, (cutF xs f pl).2)) ∨ (ft = true ∧ cutR xs = (acc, pl, true))),
      ⟨xs.length + 1, [], 0, false, none, none, LcInv.start (Same.refl H) hm, rfl, Nat.zero_le _, Nat.zero_le _, Or.inl ⟨rfl, by omega, rfl⟩⟩, ?_⟩
    rintro f σ H1 ⟨acc, pl, ft, v4, v5, inv, rfl, hp, hac, hR⟩
    have sH : Same H H1 := by obtain ⟨_, _, x, _⟩ := inv.ex; exact x.hh
    have hS1 := sH.seq hS
    -- the end
    have fin : ∀ (ms : List Msg) (ft : Bool) (v4 v5 : Option V), LcInv K H H m (ms.map msgD) H1 → cutR xs = (ms, pl, ft) →
        tRet (tTup (tCons (tVar 1) (tCons (tSl (rSlL K) (tVar 0) (tPart (tVar 2)) tNoPart) (tCons (tVar 3) tNil)))) { nx := fun _ H' => Q .non H', rt := Q } [some (.ref a), some (.ref m), some (.int (pl : Int)), some (.bl ft), v4, v5] H1 := by
      intro ms ft v4 v5 inv e
      obtain ⟨U1, ys, x1, e1, e2, e3⟩ := inv.done hm
      refine ⟨_, rfl, _, rfl, _, rfl, _, rfl, a, _, rfl, hS1, fun b hb => ?_⟩
      dsimp only
      rw [cutV_from (by rw [List.length_map]; exact hp), ← List.map_drop]
      refine ⟨_, rfl, len_line (by show 3 ≤ 100000; decide), fun t ht => ?_⟩
      have sb := same_upd (o := .lst ((xs.drop pl).map V.int)) hb
      have st := same_upd (o := .tup [.ref m, .ref b, .bl ft]) ht
      refine q t _ (sH.trans (sb.trans st)) ?_
      unfold cutD
      rw [e]
      exact .tup (SqT.of upd_same) (.cons (((e3.to x1.vh).to sb).to st) (.cons ((dp_ints (SqL.of upd_same)).to st) (.cons (.bl _) .nil)))
    have size_at : ∀ (k : Int), k = (numAt xs (pl + 6) 2) → numAt xs (pl + 6) 2 = k := fun k e => e.symm
    refine ⟨_, rfl, a, _, rfl, .inl hS1, _, rfl, _, _, rfl, rfl, _, _, rfl, rfl, _, rfl, ?_⟩
    rw [List.length_map]
    rcases hR with ⟨rfl, hf, hR⟩ | ⟨rfl, hR⟩
    · obtain ⟨f, rfl⟩ : ∃ g, f = g + 1 := ⟨f - 1, by omega⟩
      unfold cutF at hR
      refine iteP (fun h => ?_) (fun h => ?_)
      · rw [if_neg (show ¬ xs.length < pl + 8 by omega)] at hR
        refine ⟨_, rfl, _, rfl, if_t rfl ?_⟩
        refine ⟨fun σ' H' => ∃ (acc : List Msg) (pl : Nat) (ft : Bool) (v4 v5 : Option V), LcInv K H H m (acc.map msgD) H' ∧ σ' = [some (.ref a), some (.ref m), some (.int (pl : Int)), some (.bl ft), v4, v5] ∧ pl ≤ xs.length ∧ acc.length ≤ pl ∧
            ((ft = false ∧ xs.length < pl + f ∧ cutR xs = (acc ++ (cutF xs f pl).1, (cutF xs f pl).2)) ∨ (ft = true ∧ cutR xs = (acc, pl, true))), fun σ' H' hN => ⟨f, Nat.lt_succ_self f, hN⟩, ?_⟩
        have n2 := numAt2 xs (pl + 6)
        refine ⟨_, rfl, _, rfl, _, _, rfl, rfl, a, _, _, .int (xs.getD (pl + 6) 0), rfl, rfl, hS1, at_of (j := pl + 6) (by omega) (getD_at (by omega)), ?_⟩
        refine ⟨_, rfl, _, rfl, _, _, rfl, rfl, a, _, _, .int (xs.getD (pl + 7) 0), rfl, rfl, hS1, at_of (j := pl + 7) (by omega) (getD_at (by omega)), ?_⟩
        refine ⟨_, _, rfl, rfl, Or.inl ⟨by decide, by decide⟩, _, _, rfl, rfl, ?_⟩
        have e67 : xs.getD (pl + 6) 0 + 256 * xs.getD (pl + 7) 0 = numAt xs (pl + 6) 2 := n2.symm
        dsimp only
        rw [e67]
        have bad : isSize (numAt xs (pl + 6) 2) = false → cutR xs = (acc, pl, true) := fun c => by
          rw [if_pos c, List.append_nil] at hR; exact hR
        have ok' : isSize (numAt xs (pl + 6) 2) = true → cutR xs = (acc ++ (if (xs.length : Int) < pl + numAt xs (pl + 6) 2 then ([], pl, false) else (msgAt xs pl (numAt xs (pl + 6) 2) :: (cutF xs f (pl + (numAt xs (pl + 6) 2).toNat)).1, (cutF xs f (pl + (numAt xs (pl + 6) 2).toNat)).2) : List Msg × Nat × Bool).1,
            (if (xs.length : Int) < pl + numAt xs (pl + 6) 2 then ([], pl, false) else (msgAt xs pl (numAt xs (pl + 6) 2) :: (cutF xs f (pl + (numAt xs (pl + 6) 2).toNat)).1, (cutF xs f (pl + (numAt xs (pl + 6) 2).toNat)).2) : List Msg × Nat × Bool).2) := fun c => by
          rw [if_neg (by rw [c]; decide)] at hR; exact hR
        clear hR n2 e67
        generalize numAt xs (pl + 6) 2 = sz at bad ok' ⊢
        have setF : (isSize sz = false) → ∃ (acc' : List Msg) (pl' : Nat) (ft : Bool) (v4 v5' : Option V), LcInv K H H m (acc'.map msgD) H1 ∧ ([some (V.ref a), some (V.ref m), some (V.int (pl : Int)), some (V.bl true), some (V.int sz), v5] : St) = [some (.ref a), some (.ref m), some (.int (pl' : Int)), some (.bl ft), v4, v5'] ∧ pl' ≤ xs.length ∧ acc'.length ≤ pl' ∧
            ((ft = false ∧ xs.length < pl' + f ∧ cutR xs = (acc' ++ (cutF xs f pl').1, (cutF xs f pl').2)) ∨ (ft = true ∧ cutR xs = (acc', pl', true))) := fun c =>
          ⟨acc, pl, true, _, _, inv, rfl, hp, hac, Or.inr ⟨rfl, bad c⟩⟩
        have nope : ∀ {c : Prop}, (¬ c) → isSize sz = true → True := fun _ _ => trivial
        refine ⟨_, rfl, _, _, rfl, rfl, _, rfl, iteP (fun c1 => ?_) (fun c1 => ?_)⟩
        · exact if_t rfl (setF (decide_eq_false fun z => by omega))
        refine ⟨_, rfl, _, _, rfl, rfl, _, rfl, iteP (fun c2 => ?_) (fun c2 => ?_)⟩
        · exact if_t rfl (setF (decide_eq_false fun z => by omega))
        refine ⟨_, rfl, Or.inl ⟨_, rfl, ?_⟩⟩
        refine ⟨_, _, rfl, rfl, by show (0 : Int) < 4; decide, rfl, _, rfl, iteNe (fun c3 => ?_) (fun c3 => ?_)⟩
        · exact setF (decide_eq_false fun z => c3 z.2.2)
        have c' : isSize sz = true := decide_eq_true ⟨by omega, by omega, c3⟩
        have hR := ok' c'
        obtain ⟨k, rfl⟩ : ∃ k : Nat, sz = k := ⟨sz.toNat, by omega⟩
        refine ⟨_, rfl, a, _, rfl, .inl hS1, _, rfl, _, _, rfl, rfl, _, rfl, _, _, rfl, rfl, _, rfl, ?_⟩
        rw [List.length_map]
        refine iteP (fun h2 => ?_) (fun h2 => ?_)
        · rw [if_pos (by omega), List.append_nil] at hR
          exact fin acc false _ _ inv hR
        rw [if_neg (by omega)] at hR
        have hlen : pl + k ≤ xs.length := by omega
        have g4 := numAt4 xs pl
        have g2 := numAt2 xs (pl + 4)
        have mul : ∀ (c y : Int), -(2 ^ 64) < c → c < 2 ^ 64 → CMul c y := fun c y h1 h2 => Or.inl ⟨h1, h2⟩
        refine ⟨_, rfl, _, rfl, a, _, _, .int (xs.getD pl 0), rfl, rfl, hS1, at_of (j := pl) rfl (getD_at (by omega)), ?_⟩
        refine ⟨_, rfl, _, rfl, _, _, rfl, rfl, a, _, _, .int (xs.getD (pl + 1) 0), rfl, rfl, hS1, at_of (j := pl + 1) (by omega) (getD_at (by omega)), ?_⟩
        refine ⟨_, _, rfl, rfl, mul _ _ (by decide) (by decide), _, _, rfl, rfl, ?_⟩
        refine ⟨_, rfl, _, rfl, _, _, rfl, rfl, a, _, _, .int (xs.getD (pl + 2) 0), rfl, rfl, hS1, at_of (j := pl + 2) (by omega) (getD_at (by omega)), ?_⟩
        refine ⟨_, _, rfl, rfl, mul _ _ (by decide) (by decide), _, _, rfl, rfl, ?_⟩
        refine ⟨_, rfl, _, rfl, _, _, rfl, rfl, a, _, _, .int (xs.getD (pl + 3) 0), rfl, rfl, hS1, at_of (j := pl + 3) (by omega) (getD_at (by omega)), ?_⟩
        refine ⟨_, _, rfl, rfl, mul _ _ (by decide) (by decide), _, _, rfl, rfl, ?_⟩
        dsimp only
        rw [← g4]
        obtain ⟨U1, ys, x, i1, i2, i3⟩ := inv.ex
        refine ⟨_, rfl, .inl ⟨rfl, _, SqL.of i2⟩, _, rfl, ?_⟩
        refine ⟨_, rfl, _, rfl, _, _, rfl, rfl, a, _, _, .int (xs.getD (pl + 4) 0), rfl, rfl, hS1, at_of (j := pl + 4) (by omega) (getD_at (by omega)), ?_⟩
        refine ⟨_, rfl, _, rfl, _, _, rfl, rfl, a, _, _, .int (xs.getD (pl + 5) 0), rfl, rfl, hS1, at_of (j := pl + 5) (by omega) (getD_at (by omega)), ?_⟩
        refine ⟨_, _, rfl, rfl, mul _ _ (by decide) (by decide), _, _, rfl, rfl, ?_⟩
        have e45 : xs.getD (pl + 4) 0 + 256 * xs.getD (pl + 5) 0 = numAt xs (pl + 4) 2 := g2.symm
        dsimp only
        rw [e45]
        refine ⟨_, rfl, _, rfl, _, _, rfl, rfl, _, rfl, _, rfl, _, rfl, _, _, rfl, rfl, _, rfl, a, _, rfl, hS1, fun b hb => ?_⟩
        have e1 : cutV (xs.map V.int) (some ((pl : Int) + 8)) (some ((pl : Int) + (k : Int))) = ((xs.drop (pl + 8)).take (k - 8)).map V.int := by
          have := cutV_nat (xs := xs.map V.int) (i := pl + 8) (j := pl + k) (by omega) (by rw [List.length_map]; omega)
          rw [Int.natCast_add, Int.natCast_add] at this
          rw [List.map_take, List.map_drop]
          rw [show pl + k - (pl + 8) = k - 8 by omega] at this
          exact this
        dsimp only
        rw [e1]
        have xb := Ext.new (o := .lst (((xs.drop (pl + 8)).take (k - 8)).map V.int)) x.vh hb
        refine ⟨len_line (by show 3 ≤ 100000; decide), fun t ht => ?_⟩
        have xt := xb.trans (Ext.new (o := .tup [.int (numAt xs pl 4), .int (numAt xs (pl + 4) 2), .ref b]) xb.vh ht)
        obtain ⟨acc', j1, j2, j3⟩ := LcInv.push (d := msgD (msgAt xs pl k)) (y := .ref t) hm x i1 i2 i3 xt
          (.tup (SqT.of upd_same) (.cons (.int _) (.cons (.int _) (.cons ((dp_ints (xs := (xs.drop (pl + 8)).take (k - 8)) (SqL.of upd_same)).to (same_upd (none_of_same xb.vh ht))) .nil)))) (by rw [List.length_map]; omega)
        refine ⟨m, _, _, rfl, rfl, j1, j2, ?_⟩
        refine ⟨_, rfl, _, rfl, _, _, rfl, rfl, ?_⟩
        refine ⟨acc ++ [msgAt xs pl k], pl + k, false, some (.int (k : Int)), some (.int (numAt xs pl 4)), ?_, ?_, by omega, by rw [List.length_append]; show acc.length + 1 ≤ _; omega, Or.inl ⟨rfl, by omega, ?_⟩⟩
        · rw [List.map_append]; exact j3
        · show [some (V.ref a), some (V.ref m), some (V.int ((pl : Int) + (k : Int))), _, _, _] = [some (V.ref a), some (V.ref m), some (V.int ((pl + k : Nat) : Int)), _, _, _]
          rw [Int.natCast_add]
        · rw [hR, List.append_assoc]; rfl
      · rw [if_pos (by omega), List.append_nil] at hR
        exact if_f rfl (fin acc false _ _ inv hR)
    · refine iteP (fun h => ?_) (fun h => ?_)
      · exact ⟨_, rfl, _, rfl, if_f rfl (fin acc true _ _ inv hR)⟩
      · exact if_f rfl (fin acc true _ _ inv hR)
theorem sc_law : FnScope ["script", "octets", "kept", "told"] ["script"] (defScope s_law) := ⟨rfl, rfl, rfl, by decide +kernel, rfl, by decide +kernel, by decide +kernel⟩
theorem ok_law (T : Txt K mg A) : FnOk P w K mg base CX0 4 A.flaw A.dlaw ["script"] (sp_law K) := by
  refine T.Flaw.ok sc_law (fun vs H Q E h => ?_) (fun cdv Ar outer s H vs Q E hr h => ?_)
  · obtain ⟨a, ns, rfl, _⟩ := h
    rfl
  · obtain ⟨a, ns, rfl, hS, hlen, q⟩ := h
    refine ⟨_, (pss_cons (ps_set (i := 1) sc_law.nd rfl (Or.inl rfl) (pe_call (ok__law_stream T) (hr.mono (by decide)) rfl T.g_law_stream T.k_law_stream T.b_law_stream .nil pass0 (pa_cons (pv 0) (pa_cons (pe_op op_add (pe_callB (call_min2 rfl) (by rfl) T.min (by decide +kernel) (pa_cons (pe_callB call_len_seq (by rfl) T.len PySem.boot_len (pa_cons (pv 0) pa_nil)) (pa_cons pe_int pa_nil))) pe_int) pa_nil))))
      (pss_cons (ps_set (i := 2) sc_law.nd rfl (Or.inl rfl) (pe_callTy call_list_of (by rfl) T.list (by decide +kernel) (pa_cons (pv 1) pa_nil)))
      (pss_cons (ps_set (i := 3) sc_law.nd rfl (Or.inl rfl) (pe_call (ok_cut_messages T) (hr.mono (by decide)) rfl T.gcut_messages T.kcut_messages T.bcut_messages .nil pass0 (pa_cons (pv 1) pa_nil)))
      (pss_cons (ps_if (PW.pt (pw_or (pt_not (pt_val (pe_callB call_isi (by rfl) T.isinstance (by decide +kernel) (pa_cons (pv 3) (pa_cons (pe_bltn (v := .ty "tuple") (by rfl) T.tuple (by decide +kernel) rfl) pa_nil))))) (pw_or (pt_cmpR op_ne (pe_callB call_len_seq (by rfl) T.len PySem.boot_len (pa_cons (pv 3) pa_nil)) pe_int (nomark _)) (pw_or1 (pt_cmpR (op_neD hr.units) (pv 1) (pv 2) (nomark _))))))
      (pss_one (ps_ret pe_bl))
      pss_nil)
      (pss_one (ps_ret (pe_and (pe_cmpR (op_eqD hr.units) (pv 3) (pe_call (ok__law_cut T) (hr.mono (by decide)) rfl T.g_law_cut T.k_law_cut T.b_law_cut .nil pass0 (pa_cons (pv 2) pa_nil)) (nomark _)) (pe_one (pe_callB call_isi (by rfl) T.isinstance (by decide +kernel) (pa_cons (pe_ix (r := rIxT K) ix_tup (pv 3) pe_int (fun _ _ => rfl)) (pa_cons (pe_bltn (v := .ty "bool") (by rfl) T.bool (by decide +kernel) rfl) pa_nil))))))))))), ?_⟩
    have hc : (if (60 : Int) < (ns.map V.int).length then (60 : Int) else ((ns.map V.int).length : Int)) + 2 = ((min ns.length 60 + 2 : Nat) : Int) := by
      rw [List.length_map]; split <;> omega
    refine ⟨_, rfl, _, rfl, a, _, rfl, .inl hS, _, _, rfl, _, _, rfl, rfl, a, ns, min ns.length 60 + 2, ?_, hS, by omega, fun p1 H1 xs n1 ho hl => ?_⟩
    · exact congrArg (fun z => [V.ref a, V.int z]) hc
    refine ⟨_, rfl, p1, _, rfl, .inl (SqL.of n1.at_), fun p2 h2 => ?_⟩
    have e1 := same_upd (o := .lst (xs.map V.int)) h2 _ _ n1.at_
    refine ⟨_, rfl, p1, xs, _, rfl, Same.refl _, SqL.of e1, ho, by omega, fun p3 m b U3 H3 x3 t3 d3 _ _ => ?_⟩
    have d3' := d3.to x3.vh
    have e1' := x3.hh _ _ e1
    have e2' := x3.hh _ _ (upd_same : (upd H1 p2 (.lst (xs.map V.int))) p2 = some (.lst (xs.map V.int)))
    have t3' := x3.vh _ _ t3
    refine ⟨_, rfl, .ref p3, .ty "tuple", .type "tuple", .type "tuple", true, rfl, .ty _, tyT (K := K) (SqT.of t3'), kit_ty (by decide +kernel), _, rfl, if_f rfl ?_⟩
    refine ⟨_, rfl, p3, _, rfl, .inr (SqT.of t3'), rfl, _, rfl, if_f rfl ?_⟩
    refine ⟨_, rfl, _, rfl, _, _, dp_ints (SqL.of e1'), dp_ints (SqL.of e2'), (sh_ints _).shaped, (sh_ints _).shaped, _, rfl, if_f (by rw [(sh_ints _).self]; rfl) ?_⟩
    refine ⟨_, rfl, _, rfl, p2, xs, rfl, SqL.of e2', ho, by omega, fun p4 H4 s4 d4 => ?_⟩
    refine ⟨_, _, d3'.to s4, d4, (sh_cut _).shaped, (sh_cut _).shaped, _, rfl, if_t (sh_cut _).self ?_⟩
    refine ⟨_, rfl, p3, _, 2, _, rfl, rfl, SqT.of (s4 _ _ t3'), atI_nat (j := 2) rfl, _, .ty "bool", .type "bool", .type "bool", true, rfl, .ty _, .base (.bl _), kit_ty (by decide +kernel), q _⟩
end
theorem all_mk {K : PySem.W.Frag} {h : Heap} {mg : Str → Option Value} {fa : Addr} (X : K.In h) (G : h.Ns mainGlobals mg) (hfa : mg "law" = some (.ref fa))
    {fnumber_at : Addr} {od1 an1 : Option Addr} {sl1 : Array (Option Value)} {oc1 kV1 dc1 pm1 cd1 ct1 : Value}
    {fcut_messages : Addr} {od2 an2 : Option Addr} {sl2 : Array (Option Value)} {oc2 kV2 dc2 pm2 cd2 ct2 : Value}
    {fis_message_size : Addr} {od3 an3 : Option Addr} {sl3 : Array (Option Value)} {oc3 kV3 dc3 pm3 cd3 ct3 : Value}
    {f_cut : Addr} {od4 an4 : Option Addr} {sl4 : Array (Option Value)} {oc4 kV4 dc4 pm4 cd4 ct4 : Value}
    {f_law_cell : Addr} {od5 an5 : Option Addr} {sl5 : Array (Option Value)} {oc5 kV5 dc5 pm5 cd5 ct5 : Value}
    {f_law_row : Addr} {od6 an6 : Option Addr} {sl6 : Array (Option Value)} {oc6 kV6 dc6 pm6 cd6 ct6 : Value}
    {f_law_message : Addr} {od7 an7 : Option Addr} {sl7 : Array (Option Value)} {oc7 kV7 dc7 pm7 cd7 ct7 : Value}
    {f_law_stream : Addr} {od8 an8 : Option Addr} {sl8 : Array (Option Value)} {oc8 kV8 dc8 pm8 cd8 ct8 : Value}
    {f_law_cut : Addr} {od9 an9 : Option Addr} {sl9 : Array (Option Value)} {oc9 kV9 dc9 pm9 cd9 ct9 : Value}
    {flaw : Addr} {od10 an10 : Option Addr} {sl10 : Array (Option Value)} {oc10 kV10 dc10 pm10 cd10 ct10 : Value}
    {tHEADER_SIZE : Tok}
    {tGREATEST_SIZE : Tok}
    (a1 : PySem.W.nsIn K mainGlobals "number_at" = some (some (.ref fnumber_at)))
    (l1 : K.lookup fnumber_at = some ⟨oc1, od1, .func (PySem.W.fnOf "number_at" "number_at" (defArgs s_number_at) (defBody s_number_at) (defScope s_number_at) .none kV1 dc1 pm1 an1 cd1 ct1), sl1⟩) (c1 : PySem.W.codeIn K cd1 "number_at" = true) (k1 : PySem.W.keepIn K (.ref fnumber_at) = true)
    (a2 : PySem.W.nsIn K mainGlobals "cut_messages" = some (some (.ref fcut_messages)))
    (l2 : K.lookup fcut_messages = some ⟨oc2, od2, .func (PySem.W.fnOf "cut_messages" "cut_messages" (defArgs s_cut_messages) (defBody s_cut_messages) (defScope s_cut_messages) .none kV2 dc2 pm2 an2 cd2 ct2), sl2⟩) (c2 : PySem.W.codeIn K cd2 "cut_messages" = true) (k2 : PySem.W.keepIn K (.ref fcut_messages) = true)
    (a3 : PySem.W.nsIn K mainGlobals "is_message_size" = some (some (.ref fis_message_size)))
    (l3 : K.lookup fis_message_size = some ⟨oc3, od3, .func (PySem.W.fnOf "is_message_size" "is_message_size" (defArgs s_is_message_size) (defBody s_is_message_size) (defScope s_is_message_size) .none kV3 dc3 pm3 an3 cd3 ct3), sl3⟩) (c3 : PySem.W.codeIn K cd3 "is_message_size" = true) (k3 : PySem.W.keepIn K (.ref fis_message_size) = true)
    (a4 : PySem.W.nsIn K mainGlobals "_cut" = some (some (.ref f_cut)))
    (l4 : K.lookup f_cut = some ⟨oc4, od4, .func (PySem.W.fnOf "_cut" "_cut" (defArgs s__cut) (defBody s__cut) (defScope s__cut) .none kV4 dc4 pm4 an4 cd4 ct4), sl4⟩) (c4 : PySem.W.codeIn K cd4 "_cut" = true) (k4 : PySem.W.keepIn K (.ref f_cut) = true)
    (a5 : PySem.W.nsIn K mainGlobals "_law_cell" = some (some (.ref f_law_cell)))
    (l5 : K.lookup f_law_cell = some ⟨oc5, od5, .func (PySem.W.fnOf "_law_cell" "_law_cell" (defArgs s__law_cell) (defBody s__law_cell) (defScope s__law_cell) .none kV5 dc5 pm5 an5 cd5 ct5), sl5⟩) (c5 : PySem.W.codeIn K cd5 "_law_cell" = true) (k5 : PySem.W.keepIn K (.ref f_law_cell) = true)
    (a6 : PySem.W.nsIn K mainGlobals "_law_row" = some (some (.ref f_law_row)))
    (l6 : K.lookup f_law_row = some ⟨oc6, od6, .func (PySem.W.fnOf "_law_row" "_law_row" (defArgs s__law_row) (defBody s__law_row) (defScope s__law_row) .none kV6 dc6 pm6 an6 cd6 ct6), sl6⟩) (c6 : PySem.W.codeIn K cd6 "_law_row" = true) (k6 : PySem.W.keepIn K (.ref f_law_row) = true)
    (a7 : PySem.W.nsIn K mainGlobals "_law_message" = some (some (.ref f_law_message)))
    (l7 : K.lookup f_law_message = some ⟨oc7, od7, .func (PySem.W.fnOf "_law_message" "_law_message" (defArgs s__law_message) (defBody s__law_message) (defScope s__law_message) .none kV7 dc7 pm7 an7 cd7 ct7), sl7⟩) (c7 : PySem.W.codeIn K cd7 "_law_message" = true) (k7 : PySem.W.keepIn K (.ref f_law_message) = true)
    (a8 : PySem.W.nsIn K mainGlobals "_law_stream" = some (some (.ref f_law_stream)))
    (l8 : K.lookup f_law_stream = some ⟨oc8, od8, .func (PySem.W.fnOf "_law_stream" "_law_stream" (defArgs s__law_stream) (defBody s__law_stream) (defScope s__law_stream) .none kV8 dc8 pm8 an8 cd8 ct8), sl8⟩) (c8 : PySem.W.codeIn K cd8 "_law_stream" = true) (k8 : PySem.W.keepIn K (.ref f_law_stream) = true)
    (a9 : PySem.W.nsIn K mainGlobals "_law_cut" = some (some (.ref f_law_cut)))
    (l9 : K.lookup f_law_cut = some ⟨oc9, od9, .func (PySem.W.fnOf "_law_cut" "_law_cut" (defArgs s__law_cut) (defBody s__law_cut) (defScope s__law_cut) .none kV9 dc9 pm9 an9 cd9 ct9), sl9⟩) (c9 : PySem.W.codeIn K cd9 "_law_cut" = true) (k9 : PySem.W.keepIn K (.ref f_law_cut) = true)
    (a10 : PySem.W.nsIn K mainGlobals "law" = some (some (.ref flaw)))
    (l10 : K.lookup flaw = some ⟨oc10, od10, .func (PySem.W.fnOf "law" "law" (defArgs s_law) (defBody s_law) (defScope s_law) .none kV10 dc10 pm10 an10 cd10 ct10), sl10⟩) (c10 : PySem.W.codeIn K cd10 "law" = true) (k10 : PySem.W.keepIn K (.ref flaw) = true)
    (z_bool : PySem.W.nsIn K mainGlobals "bool" = some none)
    (z_int : PySem.W.nsIn K mainGlobals "int" = some none)
    (z_isinstance : PySem.W.nsIn K mainGlobals "isinstance" = some none)
    (z_len : PySem.W.nsIn K mainGlobals "len" = some none)
    (z_list : PySem.W.nsIn K mainGlobals "list" = some none)
    (z_min : PySem.W.nsIn K mainGlobals "min" = some none)
    (z_range : PySem.W.nsIn K mainGlobals "range" = some none)
    (z_sum : PySem.W.nsIn K mainGlobals "sum" = some none)
    (z_tuple : PySem.W.nsIn K mainGlobals "tuple" = some none)
    (q_HEADER_SIZE : PySem.W.nsIn K mainGlobals "HEADER_SIZE" = some (some (.int (8) tHEADER_SIZE)))
    (q_GREATEST_SIZE : PySem.W.nsIn K mainGlobals "GREATEST_SIZE" = some (some (.int (20480) tGREATEST_SIZE)))
    : ∃ A : Adr, A.flaw = fa ∧ Txt K mg A ∧ (∀ (s : Shared) (v : Value), BindsTo s A.dlaw ⟨[v], []⟩ [("script", v)]) := by
  have e := hfa.symm.trans (PySem.W.mg_of X G a10)
  cases e
  have F1 := fun_mk (st := s_number_at) l1 c1 k1
  have b1 := F1.binds (ps := ["octets", "at", "count"]) fun _ _ _ _ _ _ us hl => match us, hl with | [_, _, _], _ => rfl
  have F2 := fun_mk (st := s_cut_messages) l2 c2 k2
  have b2 := F2.binds (ps := ["octets"]) fun _ _ _ _ _ _ us hl => match us, hl with | [_], _ => rfl
  have F3 := fun_mk (st := s_is_message_size) l3 c3 k3
  have b3 := F3.binds (ps := ["size"]) fun _ _ _ _ _ _ us hl => match us, hl with | [_], _ => rfl
  have F4 := fun_mk (st := s__cut) l4 c4 k4
  have b4 := F4.binds (ps := ["octets"]) fun _ _ _ _ _ _ us hl => match us, hl with | [_], _ => rfl
  have F5 := fun_mk (st := s__law_cell) l5 c5 k5
  have b5 := F5.binds (ps := ["script", "k"]) fun _ _ _ _ _ _ us hl => match us, hl with | [_, _], _ => rfl
  have F6 := fun_mk (st := s__law_row) l6 c6 k6
  have b6 := F6.binds (ps := ["script", "k"]) fun _ _ _ _ _ _ us hl => match us, hl with | [_, _], _ => rfl
  have F7 := fun_mk (st := s__law_message) l7 c7 k7
  have b7 := F7.binds (ps := ["row"]) fun _ _ _ _ _ _ us hl => match us, hl with | [_], _ => rfl
  have F8 := fun_mk (st := s__law_stream) l8 c8 k8
  have b8 := F8.binds (ps := ["script", "count"]) fun _ _ _ _ _ _ us hl => match us, hl with | [_, _], _ => rfl
  have F9 := fun_mk (st := s__law_cut) l9 c9 k9
  have b9 := F9.binds (ps := ["octets"]) fun _ _ _ _ _ _ us hl => match us, hl with | [_], _ => rfl
  have F10 := fun_mk (st := s_law) l10 c10 k10
  have b10 := F10.binds (ps := ["script"]) fun _ _ _ _ _ _ us hl => match us, hl with | [_], _ => rfl
  refine ⟨{ fnumber_at := fnumber_at, dnumber_at := (PySem.W.fnOf "number_at" "number_at" (defArgs s_number_at) (defBody s_number_at) (defScope s_number_at) .none kV1 dc1 pm1 an1 cd1 ct1), fcut_messages := fcut_messages, dcut_messages := (PySem.W.fnOf "cut_messages" "cut_messages" (defArgs s_cut_messages) (defBody s_cut_messages) (defScope s_cut_messages) .none kV2 dc2 pm2 an2 cd2 ct2), fis_message_size := fis_message_size, dis_message_size := (PySem.W.fnOf "is_message_size" "is_message_size" (defArgs s_is_message_size) (defBody s_is_message_size) (defScope s_is_message_size) .none kV3 dc3 pm3 an3 cd3 ct3), f_cut := f_cut, d_cut := (PySem.W.fnOf "_cut" "_cut" (defArgs s__cut) (defBody s__cut) (defScope s__cut) .none kV4 dc4 pm4 an4 cd4 ct4), f_law_cell := f_law_cell, d_law_cell := (PySem.W.fnOf "_law_cell" "_law_cell" (defArgs s__law_cell) (defBody s__law_cell) (defScope s__law_cell) .none kV5 dc5 pm5 an5 cd5 ct5), f_law_row := f_law_row, d_law_row := (PySem.W.fnOf "_law_row" "_law_row" (defArgs s__law_row) (defBody s__law_row) (defScope s__law_row) .none kV6 dc6 pm6 an6 cd6 ct6), f_law_message := f_law_message, d_law_message := (PySem.W.fnOf "_law_message" "_law_message" (defArgs s__law_message) (defBody s__law_message) (defScope s__law_message) .none kV7 dc7 pm7 an7 cd7 ct7), f_law_stream := f_law_stream, d_law_stream := (PySem.W.fnOf "_law_stream" "_law_stream" (defArgs s__law_stream) (defBody s__law_stream) (defScope s__law_stream) .none kV8 dc8 pm8 an8 cd8 ct8), f_law_cut := f_law_cut, d_law_cut := (PySem.W.fnOf "_law_cut" "_law_cut" (defArgs s__law_cut) (defBody s__law_cut) (defScope s__law_cut) .none kV9 dc9 pm9 an9 cd9 ct9), flaw := fa, dlaw := (PySem.W.fnOf "law" "law" (defArgs s_law) (defBody s_law) (defScope s_law) .none kV10 dc10 pm10 an10 cd10 ct10), tHEADER_SIZE := tHEADER_SIZE, tGREATEST_SIZE := tGREATEST_SIZE }, rfl, { Fnumber_at := F1, bnumber_at := b1, gnumber_at := PySem.W.mg_of X G a1, knumber_at := k1, Fcut_messages := F2, bcut_messages := b2, gcut_messages := PySem.W.mg_of X G a2, kcut_messages := k2, Fis_message_size := F3, bis_message_size := b3, gis_message_size := PySem.W.mg_of X G a3, kis_message_size := k3, F_cut := F4, b_cut := b4, g_cut := PySem.W.mg_of X G a4, k_cut := k4, F_law_cell := F5, b_law_cell := b5, g_law_cell := PySem.W.mg_of X G a5, k_law_cell := k5, F_law_row := F6, b_law_row := b6, g_law_row := PySem.W.mg_of X G a6, k_law_row := k6, F_law_message := F7, b_law_message := b7, g_law_message := PySem.W.mg_of X G a7, k_law_message := k7, F_law_stream := F8, b_law_stream := b8, g_law_stream := PySem.W.mg_of X G a8, k_law_stream := k8, F_law_cut := F9, b_law_cut := b9, g_law_cut := PySem.W.mg_of X G a9, k_law_cut := k9, Flaw := F10, blaw := b10, glaw := PySem.W.mg_of X G a10, klaw := k10, bool := PySem.W.mg_none_of X G z_bool, int := PySem.W.mg_none_of X G z_int, isinstance := PySem.W.mg_none_of X G z_isinstance, len := PySem.W.mg_none_of X G z_len, list := PySem.W.mg_none_of X G z_list, min := PySem.W.mg_none_of X G z_min, range := PySem.W.mg_none_of X G z_range, sum := PySem.W.mg_none_of X G z_sum, tuple := PySem.W.mg_none_of X G z_tuple, gHEADER_SIZE := PySem.W.mg_of X G q_HEADER_SIZE, gGREATEST_SIZE := PySem.W.mg_of X G q_GREATEST_SIZE }, fun s v => .of_eq rfl⟩
theorem walk {l : PySem.W.OpenLaw} {q : Program} {loose : List Str} {XP : (Str → Option Value) → Heap → Prop} {YP : World → Heap → Prop} {d : DefRec} {K : Params → PySem.W.Frag} (hn : l.most = some 63) (hdf : d.params.defaults = [])
    (hY : ∀ (w : World) (h : Heap), YP w h → (K w.params).In h)
    (F : ∀ (w : World) (mg : Str → Option Value) (fa : Addr) (h : Heap), (K w.params).In h → h.Ns mainGlobals mg → mg d.name = some (.ref fa) →
      ∃ A : Adr, A.flaw = fa ∧ Txt (K w.params) mg A ∧ (∀ (s : Shared) (v : Value), BindsTo s A.dlaw ⟨[v], []⟩ [("script", v)])) :
    PySem.W.WalkO q loose XP YP l.row.toRowW d [] (fun f vs => PySem.call f vs) :=
  L2.walk_of (n := 63) (k := 4) (x := "script") (CX := fun _ => CX0) (sp := fun w => sp_law (K w.params)) hn (by decide) hdf ⟨rfl, by decide, by decide⟩ hY (fun w mg fa h X G hfa => by
    obtain ⟨A, rfl, T, b⟩ := F w mg fa h X G hfa
    exact ⟨A.dlaw, b, fun base _ _ => ok_law T⟩) (fun _ _ a ns hl _ hS => ⟨a, ns, rfl, hS, hl, fun _ => rfl⟩) fun _ _ _ _ _ z => z
end My
open PySem PySem.W PyProof.Rows
set_option maxRecDepth 100000 in
set_option maxHeartbeats 0 in
theorem PySem.Challenge.cw_sillwatch_k07_cut_messages_holds : PySem.Challenge.rw_sillwatch_k07_cut_messages.Holds := by
  w_on; o_law; k_head; (case hw => w_witness2)
  k_fill
  refine My.walk (l := PySem.Challenge.rw_sillwatch_k07_cut_messages) rfl rfl (fun w h Y => PySem.W.kIn_of Y) ?F
  case F =>
    intro w mg fa h KX G hmg
    refine' My.all_mk KX G hmg ?a1 ?l1 ?c1 ?k1 ?a2 ?l2 ?c2 ?k2 ?a3 ?l3 ?c3 ?k3 ?a4 ?l4 ?c4 ?k4 ?a5 ?l5 ?c5 ?k5 ?a6 ?l6 ?c6 ?k6 ?a7 ?l7 ?c7 ?k7 ?a8 ?l8 ?c8 ?k8 ?a9 ?l9 ?c9 ?k9 ?a10 ?l10 ?c10 ?k10 ?z_bool ?z_int ?z_isinstance ?z_len ?z_list ?z_min ?z_range ?z_sum ?z_tuple ?q_HEADER_SIZE ?q_GREATEST_SIZE
    (case a1 => k_is)
    (case l1 => k_is)
    (case c1 => k_is)
    (case k1 => k_is)
    (case a2 => k_is)
    (case l2 => k_is)
    (case c2 => k_is)
    (case k2 => k_is)
    (case a3 => k_is)
    (case l3 => k_is)
    (case c3 => k_is)
    (case k3 => k_is)
    (case a4 => k_is)
    (case l4 => k_is)
    (case c4 => k_is)
    (case k4 => k_is)
    (case a5 => k_is)
    (case l5 => k_is)
    (case c5 => k_is)
    (case k5 => k_is)
    (case a6 => k_is)
    (case l6 => k_is)
    (case c6 => k_is)
    (case k6 => k_is)
    (case a7 => k_is)
    (case l7 => k_is)
    (case c7 => k_is)
    (case k7 => k_is)
    (case a8 => k_is)
    (case l8 => k_is)
    (case c8 => k_is)
    (case k8 => k_is)
    (case a9 => k_is)
    (case l9 => k_is)
    (case c9 => k_is)
    (case k9 => k_is)
    (case a10 => k_is)
    (case l10 => k_is)
    (case c10 => k_is)
    (case k10 => k_is)
    (case z_bool => k_is)
    (case z_int => k_is)
    (case z_isinstance => k_is)
    (case z_len => k_is)
    (case z_list => k_is)
    (case z_min => k_is)
    (case z_range => k_is)
    (case z_sum => k_is)
    (case z_tuple => k_is)
    (case q_HEADER_SIZE => k_is)
    (case q_GREATEST_SIZE => k_is)
