import PyProof.Rows.All
import Wide.All
import OpenK.AllK
import Wide.FinOn
import HandS.ForMost
import HandS.Exc
import HandS.TryOnly
import HandS.ExcOwn
import HandS.WordsExc
import HandS.IsInst
import HandS.Wide
import HandS.Flow
import HandS.More
import HandS.Codes
import HandS.Walk
import HandS.TupLe
import HandS.WordsDict
import HandS.Conv
import HandS.TryMany
import HandS.ExcIs
import KE.KBits
import HandS.CallLocal
import HandS.Strs
import HandS.SetFor
import HandS.Set
import HandS.Property
import PySem.Challenge.RW_sillwatch_k39_popup_places
set_option Elab.async false
set_option linter.all false
set_option maxRecDepth 100000
set_option maxHeartbeats 4000000
namespace My
open PySem L2
def topS (i : Nat) : Stmt := PySem.Challenge.pw_sillwatch_k39_popup_places.main.body.getD i (.Pass ⟨0, 0, 0, 0⟩)
abbrev s_overlap_axis : Stmt := topS 1
abbrev s_place_axis : Stmt := topS 3
abbrev s_place_popup : Stmt := topS 4
abbrev s__start : Stmt := topS 5
abbrev s__lies_in : Stmt := topS 6
abbrev s__slid : Stmt := topS 7
abbrev s__law_cell : Stmt := topS 9
abbrev s__law_row : Stmt := topS 10
abbrev s__law_point : Stmt := topS 11
abbrev s__law_begin : Stmt := topS 12
abbrev s__law_lies : Stmt := topS 13
abbrev s__law_slid : Stmt := topS 14
abbrev s__law_axis : Stmt := topS 15
abbrev s__law_numbers : Stmt := topS 16
abbrev s_law : Stmt := topS 17
structure Adr where
  foverlap_axis : Addr
  doverlap_axis : FuncData
  fplace_axis : Addr
  dplace_axis : FuncData
  fplace_popup : Addr
  dplace_popup : FuncData
  f_start : Addr
  d_start : FuncData
  f_lies_in : Addr
  d_lies_in : FuncData
  f_slid : Addr
  d_slid : FuncData
  f_law_cell : Addr
  d_law_cell : FuncData
  f_law_row : Addr
  d_law_row : FuncData
  f_law_point : Addr
  d_law_point : FuncData
  f_law_begin : Addr
  d_law_begin : FuncData
  f_law_lies : Addr
  d_law_lies : FuncData
  f_law_slid : Addr
  d_law_slid : FuncData
  f_law_axis : Addr
  d_law_axis : FuncData
  f_law_numbers : Addr
  d_law_numbers : FuncData
  flaw : Addr
  dlaw : FuncData
structure Txt (K : PySem.W.Frag) (mg : Str → Option Value) (A : Adr) : Prop where
  Foverlap_axis : Fun K "overlap_axis" "overlap_axis" s_overlap_axis A.foverlap_axis A.doverlap_axis
  boverlap_axis : Binds K A.doverlap_axis ["begin", "length", "other_begin", "other_length"] []
  goverlap_axis : mg "overlap_axis" = some (.ref A.foverlap_axis)
  koverlap_axis : PySem.W.keepIn K (.ref A.foverlap_axis) = true
  Fplace_axis : Fun K "place_axis" "place_axis" s_place_axis A.fplace_axis A.dplace_axis
  bplace_axis : Binds K A.dplace_axis ["anchor", "gravity", "begin", "length", "size", "offset", "room", "bits"] []
  gplace_axis : mg "place_axis" = some (.ref A.fplace_axis)
  kplace_axis : PySem.W.keepIn K (.ref A.fplace_axis) = true
  Fplace_popup : Fun K "place_popup" "place_popup" s_place_popup A.fplace_popup A.dplace_popup
  bplace_popup : Binds K A.dplace_popup ["positioner", "room"] []
  gplace_popup : mg "place_popup" = some (.ref A.fplace_popup)
  kplace_popup : PySem.W.keepIn K (.ref A.fplace_popup) = true
  F_start : Fun K "_start" "_start" s__start A.f_start A.d_start
  b_start : Binds K A.d_start ["anchor", "gravity", "begin", "length", "size", "offset"] []
  g_start : mg "_start" = some (.ref A.f_start)
  k_start : PySem.W.keepIn K (.ref A.f_start) = true
  F_lies_in : Fun K "_lies_in" "_lies_in" s__lies_in A.f_lies_in A.d_lies_in
  b_lies_in : Binds K A.d_lies_in ["begin", "length", "room"] []
  g_lies_in : mg "_lies_in" = some (.ref A.f_lies_in)
  k_lies_in : PySem.W.keepIn K (.ref A.f_lies_in) = true
  F_slid : Fun K "_slid" "_slid" s__slid A.f_slid A.d_slid
  b_slid : Binds K A.d_slid ["gravity", "begin", "size", "room"] []
  g_slid : mg "_slid" = some (.ref A.f_slid)
  k_slid : PySem.W.keepIn K (.ref A.f_slid) = true
  F_law_cell : Fun K "_law_cell" "_law_cell" s__law_cell A.f_law_cell A.d_law_cell
  b_law_cell : Binds K A.d_law_cell ["script", "k"] []
  g_law_cell : mg "_law_cell" = some (.ref A.f_law_cell)
  k_law_cell : PySem.W.keepIn K (.ref A.f_law_cell) = true
  F_law_row : Fun K "_law_row" "_law_row" s__law_row A.f_law_row A.d_law_row
  b_law_row : Binds K A.d_law_row ["script", "k"] []
  g_law_row : mg "_law_row" = some (.ref A.f_law_row)
  k_law_row : PySem.W.keepIn K (.ref A.f_law_row) = true
  F_law_point : Fun K "_law_point" "_law_point" s__law_point A.f_law_point A.d_law_point
  b_law_point : Binds K A.d_law_point ["sign", "begin", "length"] []
  g_law_point : mg "_law_point" = some (.ref A.f_law_point)
  k_law_point : PySem.W.keepIn K (.ref A.f_law_point) = true
  F_law_begin : Fun K "_law_begin" "_law_begin" s__law_begin A.f_law_begin A.d_law_begin
  b_law_begin : Binds K A.d_law_begin ["anchor", "gravity", "begin", "length", "size", "offset"] []
  g_law_begin : mg "_law_begin" = some (.ref A.f_law_begin)
  k_law_begin : PySem.W.keepIn K (.ref A.f_law_begin) = true
  F_law_lies : Fun K "_law_lies" "_law_lies" s__law_lies A.f_law_lies A.d_law_lies
  b_law_lies : Binds K A.d_law_lies ["begin", "size", "room"] []
  g_law_lies : mg "_law_lies" = some (.ref A.f_law_lies)
  k_law_lies : PySem.W.keepIn K (.ref A.f_law_lies) = true
  F_law_slid : Fun K "_law_slid" "_law_slid" s__law_slid A.f_law_slid A.d_law_slid
  b_law_slid : Binds K A.d_law_slid ["begin", "size", "gravity", "room"] []
  g_law_slid : mg "_law_slid" = some (.ref A.f_law_slid)
  k_law_slid : PySem.W.keepIn K (.ref A.f_law_slid) = true
  F_law_axis : Fun K "_law_axis" "_law_axis" s__law_axis A.f_law_axis A.d_law_axis
  b_law_axis : Binds K A.d_law_axis ["anchor", "gravity", "begin", "length", "size", "offset", "room", "bits"] []
  g_law_axis : mg "_law_axis" = some (.ref A.f_law_axis)
  k_law_axis : PySem.W.keepIn K (.ref A.f_law_axis) = true
  F_law_numbers : Fun K "_law_numbers" "_law_numbers" s__law_numbers A.f_law_numbers A.d_law_numbers
  b_law_numbers : Binds K A.d_law_numbers ["row"] []
  g_law_numbers : mg "_law_numbers" = some (.ref A.f_law_numbers)
  k_law_numbers : PySem.W.keepIn K (.ref A.f_law_numbers) = true
  Flaw : Fun K "law" "law" s_law A.flaw A.dlaw
  blaw : Binds K A.dlaw ["script"] []
  glaw : mg "law" = some (.ref A.flaw)
  klaw : PySem.W.keepIn K (.ref A.flaw) = true
  int : mg "int" = none
  len : mg "len" = none
  max : mg "max" = none
  min : mg "min" = none
  range : mg "range" = none
section
variable {P : Program} {w : World} {K : PySem.W.Frag} {mg : Str → Option Value} {base : Heap} {A : Adr}
/-! ### common: tests, errors, small words -/
theorem exm_self {K : PySem.W.Frag} {S : Addr} (h1 : PySem.W.subIn K (.ref S) (.type "BaseException") = some true) (h2 : PySem.W.isClsIn K S = true) (h3 : PySem.W.typeIn K (.ref S) = some (.type "type")) (h4 : PySem.W.subIn K (.ref S) (.ref S) = some true) :
    PySem.W.exmOne K (.ref S) (.ref S) = some true := by
  have g1 : (PySem.W.subIn K (.ref S) (.type "BaseException") == some true) = true := by rw [h1]; rfl
  have g0 : (PySem.W.clsIn K S).isSome = true := h2
  have g2 : ((PySem.W.clsIn K S).isSome && PySem.W.typeIn K (.ref S) == some (.type "type")) = true := by rw [g0, h3]; rfl
  show (if (PySem.W.subIn K (.ref S) (.type "BaseException") == some true) = true then (if ((PySem.W.clsIn K S).isSome && PySem.W.typeIn K (.ref S) == some (.type "type")) = true then PySem.W.subIn K (.ref S) (.ref S) else none) else none) = some true
  rw [if_pos g1, if_pos g2]
  exact h4
theorem exm_cross {K : PySem.W.Frag} {S R : Addr} {b : Bool} (h1 : PySem.W.subIn K (.ref S) (.type "BaseException") = some true) (h2 : PySem.W.isClsIn K S = true) (h3 : PySem.W.typeIn K (.ref S) = some (.type "type")) (h4 : PySem.W.subIn K (.ref R) (.ref S) = some b) :
    PySem.W.exmOne K (.ref R) (.ref S) = some b := by
  have g1 : (PySem.W.subIn K (.ref S) (.type "BaseException") == some true) = true := by rw [h1]; rfl
  have g0 : (PySem.W.clsIn K S).isSome = true := h2
  have g2 : ((PySem.W.clsIn K S).isSome && PySem.W.typeIn K (.ref S) == some (.type "type")) = true := by rw [g0, h3]; rfl
  show (if (PySem.W.subIn K (.ref S) (.type "BaseException") == some true) = true then (if ((PySem.W.clsIn K S).isSome && PySem.W.typeIn K (.ref S) == some (.type "type")) = true then PySem.W.subIn K (.ref R) (.ref S) else none) else none) = some b
  rw [if_pos g1, if_pos g2]
  exact h4
/-- the law's own promise -/
def sp_law (K : PySem.W.Frag) : Sp := fun vs H Q _ => ∃ (a : Addr) (ns : List Int), vs = [.ref a] ∧ SqL K H a (ns.map V.int) ∧ ns.length ≤ 63 ∧ ∀ H', Q (.bl true) H'
theorem iteP {p A B : Prop} [Decidable p] (h1 : p → A) (h2 : ¬ p → B) : if decide p = true then A else B := by
  by_cases h : p
  · rw [decide_eq_true h]; exact iteT (h1 h)
  · rw [decide_eq_false h]; exact iteF (h2 h)
theorem iteN {p A B : Prop} [Decidable p] (h1 : ¬ p → A) (h2 : p → B) : if (!decide p) = true then A else B := by
  by_cases h : p
  · rw [decide_eq_true h]; exact iteF (h2 h)
  · rw [decide_eq_false h]; exact iteT (h1 h)
theorem iteEq {i j : Int} {A B : Prop} (h1 : i = j → A) (h2 : i ≠ j → B) : if decide (V.int i = V.int j) = true then A else B :=
  iteP (fun h => h1 (V.int.inj h)) (fun h => h2 fun e => h (congrArg V.int e))
theorem iteNe {i j : Int} {A B : Prop} (h1 : i ≠ j → A) (h2 : i = j → B) : if (!decide (V.int i = V.int j)) = true then A else B :=
  iteN (fun h => h1 fun e => h (congrArg V.int e)) (fun h => h2 (V.int.inj h))
theorem if_t {b : Bool} {A B : Prop} (e : b = true) (h : A) : if b = true then A else B := by rw [if_pos e]; exact h
theorem if_f {b : Bool} {A B : Prop} (e : b = false) (h : B) : if b = true then A else B := by rw [e]; exact iteF h
theorem if_b {b : Bool} {A B : Prop} (h1 : b = true → A) (h2 : b = false → B) : if b = true then A else B := by
  cases b with
  | true => exact iteT (h1 rfl)
  | false => exact iteF (h2 rfl)
theorem same_upd {H : Hp} {p : Addr} {o : HO} (h : H p = none) : Same H (upd H p o) := fun b x e => by
  rw [upd_ne (ne_of_none e h)]
  exact e
theorem len_line {n : Nat} (h : n ≤ 100000) : n ≤ sizeLine := Nat.le_trans h (by decide)
theorem lt_line {n : Nat} (h : n < 100000) : n < sizeLine := Nat.lt_of_lt_of_le h (by decide)
local macro_rules | `(tactic| walk_at "rd") => `(tactic| repeat (first
  | refine ⟨_, rfl, ?_⟩
  | refine ⟨_, _, rfl, rfl, ?_⟩
  | refine ⟨rfl, ?_⟩
  | refine Or.inl ⟨_, rfl, ?_⟩
  | refine ⟨(by show (0 : Int) < _; decide), ?_⟩
  | refine ⟨(⟨by decide, by decide⟩ : CDiv _ _), ?_⟩
  | refine ⟨(Or.inl ⟨by decide, by decide⟩ : CMul _ _), ?_⟩
  | refine ⟨(Or.inr ⟨by decide, by decide⟩ : CMul _ _), ?_⟩))
/-! ### data that are compared -/
def Sh (n : Nat) (d : PyData) : Prop := d.canLay0 = true ∧ d.depth ≤ n
theorem Sh.mono {n m : Nat} {d : PyData} (h : Sh n d) (l : n ≤ m) : Sh m d := ⟨h.1, Nat.le_trans h.2 l⟩
theorem sh_all : ∀ {n : Nat} {ds : List PyData}, (∀ d ∈ ds, Sh n d) → PyData.canLayAll0 ds = true ∧ PyData.depthAll ds ≤ n
  | n, [], _ => ⟨by simp [PyData.canLayAll0], by simp [PyData.depthAll]⟩
  | n, d :: ds, h => by
    have h1 := h d List.mem_cons_self
    have h2 := sh_all fun e he => h e (List.mem_cons_of_mem _ he)
    refine ⟨?_, ?_⟩
    · simp only [PyData.canLayAll0, Bool.and_eq_true]; exact ⟨h1.1, h2.1⟩
    · simp only [PyData.depthAll]; exact Nat.max_le.mpr ⟨h1.2, h2.2⟩
theorem sh_list {n : Nat} {ds : List PyData} (h : ∀ d ∈ ds, Sh n d) : Sh (n + 1) (.list ds) := by
  have q := sh_all h
  exact ⟨by simp only [PyData.canLay0]; exact q.1, by simp only [PyData.depth]; exact Nat.succ_le_succ q.2⟩
theorem sh_tuple {n : Nat} {ds : List PyData} (h : ∀ d ∈ ds, Sh n d) : Sh (n + 1) (.tuple ds) := by
  have q := sh_all h
  exact ⟨by simp only [PyData.canLay0]; exact q.1, by simp only [PyData.depth]; exact Nat.succ_le_succ q.2⟩
theorem sh_int (i : Int) : Sh 0 (.int i) := ⟨by simp [PyData.canLay0], by simp [PyData.depth]⟩
theorem sh_bool (i : Bool) : Sh 0 (.bool i) := ⟨by simp [PyData.canLay0], by simp [PyData.depth]⟩
theorem sh_none : Sh 0 .none := ⟨by simp [PyData.canLay0], by simp [PyData.depth]⟩
theorem sh_str {s : Str} (h : PyData.strOk s = true) : Sh 0 (.str s) := ⟨by simp only [PyData.canLay0]; exact h, by simp [PyData.depth]⟩
theorem Sh.shaped {n : Nat} {d : PyData} (h : Sh n d) (l : n ≤ 64 := by decide) : SeqAt.shaped d = true := by
  show (d.canLay0 && decide (d.depth ≤ 64)) = true
  rw [h.1, decide_eq_true (Nat.le_trans h.2 l)]
  rfl
theorem Sh.self {n : Nat} {d : PyData} (h : Sh n d) : PyData.eqv d d = true := SeqAt.eqv_refl d h.1
def pInts (xs : List Int) : PyData := .list (xs.map PyData.int)
theorem sh_ints (xs : List Int) : Sh 1 (pInts xs) := sh_list fun d hd => by
  obtain ⟨i, _, rfl⟩ := List.mem_map.mp hd
  exact sh_int i
theorem dpall_ints {K : PySem.W.Frag} {H : Hp} : ∀ xs : List Int, DpAll K H (xs.map V.int) (xs.map PyData.int)
  | [] => .nil
  | x :: r => .cons (.int x) (dpall_ints r)
theorem dp_ints {K : PySem.W.Frag} {H : Hp} {p : Addr} {xs : List Int} (h : SqL K H p (xs.map V.int)) : Dp K H (.ref p) (pInts xs) := .lst h (dpall_ints xs)
/-! ### views: what is new, what stands -/
structure Ext (V H V' H' : Hp) : Prop where
  vv : Same V V'
  vh : Same V' H'
  hh : Same H H'
  nw : ∀ a, V' a ≠ none → V a ≠ none ∨ H a = none
theorem Ext.refl {V H : Hp} (h : Same V H) : Ext V H V H := ⟨Same.refl V, h, Same.refl H, fun _ h => Or.inl h⟩
theorem Ext.trans {V H V1 H1 V2 H2 : Hp} (a : Ext V H V1 H1) (b : Ext V1 H1 V2 H2) : Ext V H V2 H2 :=
  ⟨a.vv.trans b.vv, b.vh, a.hh.trans b.hh, fun x h => by
    rcases b.nw x h with q | q
    · exact a.nw x q
    · exact Or.inr (a.hh.free q)⟩
theorem none_of_same {V H : Hp} {p : Addr} (s : Same V H) (h : H p = none) : V p = none := s.free h
theorem Ext.new {V H : Hp} {p : Addr} {o : HO} (s : Same V H) (h : H p = none) : Ext V H (upd V p o) (upd H p o) :=
  ⟨same_upd (s.free h), fun b u e => by
    by_cases hb : b = p
    · subst hb; rw [upd_same] at e ⊢; exact e
    · rw [upd_ne hb] at e ⊢; exact s b u e, same_upd h, fun a e => by
    by_cases ha : a = p
    · subst ha; exact Or.inr h
    · rw [upd_ne ha] at e; exact Or.inl e⟩
/-- a new object that the view does not take in -/
theorem Ext.skip {V H : Hp} {p : Addr} {o : HO} (s : Same V H) (h : H p = none) : Ext V H V (upd H p o) :=
  ⟨Same.refl V, s.trans (same_upd h), same_upd h, fun _ e => Or.inl e⟩
theorem Ext.keepOut {V H V' H' : Hp} (x : Ext V H V' H') {D : Addr} (h : V D = none) (hd : H D ≠ none) : V' D = none := by
  cases e : V' D with
  | none => rfl
  | some o =>
    rcases x.nw D (by rw [e]; exact fun z => by cases z) with q | q
    · exact absurd h q
    · exact absurd q hd
/-- an object outside of the view changes -/
theorem Ext.poke {V H V' H' : Hp} (x : Ext V H V' H') {D : Addr} {o : HO} (hd : H D = none) (h : V' D = none) : Ext V H V' (upd H' D o) :=
  ⟨x.vv, fun b u e => by
    have hb : b ≠ D := fun z => by rw [z, h] at e; cases e
    rw [upd_ne hb]; exact x.vh b u e, fun b u e => by
    have hb : b ≠ D := ne_of_none e hd
    rw [upd_ne hb]; exact x.hh b u e, x.nw⟩
/-- the object at D, done, is taken in -/
theorem Ext.take {V H V' H' : Hp} (x : Ext V H V' H') {D : Addr} {o : HO} (hd : H D = none) (h : V' D = none) (e : H' D = some o) : Ext V H (upd V' D o) H' :=
  ⟨x.vv.trans (same_upd h), fun b u q => by
    by_cases hb : b = D
    · subst hb; rw [upd_same] at q; rw [e]; exact q
    · rw [upd_ne hb] at q; exact x.vh b u q, x.hh, fun a q => by
    by_cases ha : a = D
    · subst ha; exact Or.inr hd
    · rw [upd_ne ha] at q; exact x.nw a q⟩
theorem _root_.L2.Same.sqt {K : PySem.W.Frag} {H H' : Hp} {a : Addr} {xs : List V} (e : Same H H') (h : SqT K H a xs) : SqT K H' a xs := by
  rcases h with (h | ⟨o, h⟩) | h
  · exact .inl (.inl (e _ _ h))
  · exact .inl (.inr ⟨o, e _ _ h⟩)
  · exact .inr h
mutual
theorem dp_same {K : PySem.W.Frag} {H H' : Hp} (s : Same H H') : ∀ (d : PyData) (v : V), Dp K H v d → Dp K H' v d
  | .none, _, h => by cases h; exact .non
  | .bool b, _, h => by cases h; exact .bl b
  | .int i, _, h => by cases h; exact .int i
  | .str x, _, h => by cases h; exact .str x
  | .list ds, _, h => by
    cases h with
    | lst q r => exact .lst (s.seq q) (dpall_same s ds _ r)
  | .tuple ds, _, h => by
    cases h with
    | tup q r => exact .tup (s.sqt q) (dpall_same s ds _ r)
  | .dict _, _, h => by cases h
theorem dpall_same {K : PySem.W.Frag} {H H' : Hp} (s : Same H H') : ∀ (ds : List PyData) (vs : List V), DpAll K H vs ds → DpAll K H' vs ds
  | [], _, h => by cases h; exact .nil
  | d :: ds, _, h => by
    cases h with
    | cons q r => exact .cons (dp_same s d _ q) (dpall_same s ds _ r)
end
theorem _root_.L2.Dp.to {K : PySem.W.Frag} {H H' : Hp} {v : V} {d : PyData} (h : Dp K H v d) (s : Same H H') : Dp K H' v d := dp_same s d v h
theorem _root_.L2.DpAll.to {K : PySem.W.Frag} {H H' : Hp} {v : List V} {d : List PyData} (h : DpAll K H v d) (s : Same H H') : DpAll K H' v d := dpall_same s d v h
theorem dpall_len {K : PySem.W.Frag} {H : Hp} : ∀ {vs : List V} {ds : List PyData}, DpAll K H vs ds → vs.length = ds.length
  | _, [], h => by cases h; rfl
  | _, d :: ds, h => by
    cases h with
    | cons q r => exact congrArg (· + 1) (dpall_len r)
theorem dpall_get {K : PySem.W.Frag} {H : Hp} : ∀ {vs : List V} {ds : List PyData} {i : Nat} {v : V}, DpAll K H vs ds → vs[i]? = some v → ∃ d, ds[i]? = some d ∧ Dp K H v d
  | _, [], i, v, h, e => by cases h; cases e
  | _, d :: ds, i, v, h, e => by
    cases h with
    | cons q r =>
      match i, e with
      | 0, e => cases e; exact ⟨d, rfl, q⟩
      | i + 1, e => exact dpall_get (i := i) r e
theorem dpall_get' {K : PySem.W.Frag} {H : Hp} : ∀ {vs : List V} {ds : List PyData} {i : Nat} {d : PyData}, DpAll K H vs ds → ds[i]? = some d → ∃ v, vs[i]? = some v ∧ Dp K H v d
  | _, [], i, d, h, e => by cases e
  | _, d :: ds, i, d', h, e => by
    cases h with
    | cons q r =>
      match i, e with
      | 0, e => cases e; exact ⟨_, rfl, q⟩
      | i + 1, e => exact dpall_get' (i := i) r e
theorem dpall_app {K : PySem.W.Frag} {H : Hp} : ∀ {vs ws : List V} {ds es : List PyData}, DpAll K H vs ds → DpAll K H ws es → DpAll K H (vs ++ ws) (ds ++ es)
  | _, _, [], _, h, g => by cases h; exact g
  | _, _, d :: ds, _, h, g => by
    cases h with
    | cons q r => exact .cons q (dpall_app r g)
theorem dp_list {K : PySem.W.Frag} {H : Hp} {v : V} {ds : List PyData} (h : Dp K H v (.list ds)) : ∃ a xs, v = .ref a ∧ SqL K H a xs ∧ DpAll K H xs ds := by
  cases h with
  | lst q r => exact ⟨_, _, rfl, q, r⟩
theorem dp_tuple {K : PySem.W.Frag} {H : Hp} {v : V} {ds : List PyData} (h : Dp K H v (.tuple ds)) : ∃ a xs, v = .ref a ∧ SqT K H a xs ∧ DpAll K H xs ds := by
  cases h with
  | tup q r => exact ⟨_, _, rfl, q, r⟩
theorem dp_int {K : PySem.W.Frag} {H : Hp} {v : V} {i : Int} (h : Dp K H v (.int i)) : v = .int i := by cases h; rfl
theorem dp_str {K : PySem.W.Frag} {H : Hp} {v : V} {i : Str} (h : Dp K H v (.str i)) : v = .str i := by cases h; rfl
theorem dp_bool {K : PySem.W.Frag} {H : Hp} {v : V} {i : Bool} (h : Dp K H v (.bool i)) : v = .bl i := by cases h; rfl
/-! ### comprehensions over any walk -/
def fm {α : Type} (f : Nat → Option α) (n : Nat) : List α := (List.range n).filterMap f
theorem fm_succ {α : Type} (f : Nat → Option α) (n : Nat) : fm f (n + 1) = fm f n ++ (f n).toList := by
  unfold fm
  rw [List.range_succ, List.filterMap_append]
  congr 1
theorem fm_len {α : Type} (f : Nat → Option α) (n : Nat) : (fm f n).length ≤ n := by
  have h := List.length_filterMap_le f (List.range n)
  rw [List.length_range] at h
  exact h
structure LcInv (K : PySem.W.Frag) (V0 H0 : Hp) (D : Addr) (acc : List PyData) (H : Hp) : Prop where
  ex : ∃ V xs, Ext V0 H0 V H ∧ V D = none ∧ H D = some (.lst xs) ∧ DpAll K V xs acc
theorem LcInv.start {K : PySem.W.Frag} {V0 H0 : Hp} {D : Addr} (s : Same V0 H0) (hD : H0 D = none) : LcInv K V0 H0 D [] (upd H0 D (.lst [])) :=
  ⟨V0, [], Ext.skip s hD, s.free hD, upd_same, .nil⟩
theorem LcInv.done {K : PySem.W.Frag} {V0 H0 H : Hp} {D : Addr} {acc : List PyData} (hD : H0 D = none) (i : LcInv K V0 H0 D acc H) : ∃ U xs, Ext V0 H0 U H ∧ U D = some (.lst xs) ∧ DpAll K U xs acc ∧ Dp K U (.ref D) (.list acc) := by
  obtain ⟨V, xs, x, hv, hd, dp⟩ := i.ex
  exact ⟨_, xs, x.take hD hv hd, upd_same, dp.to (same_upd hv), .lst (SqL.of upd_same) (dp.to (same_upd hv))⟩
/-- one more item -/
theorem LcInv.push {K : PySem.W.Frag} {V0 H0 U H U' H' : Hp} {D : Addr} {acc : List PyData} {xs : List V} {y : V} {d : PyData} (hD : H0 D = none) (x : Ext V0 H0 U H) (hv : U D = none) (hd : H D = some (.lst xs)) (dp : DpAll K U xs acc)
    (x2 : Ext U H U' H') (e : Dp K U' y d) (hl : acc.length < 100000) :
    ∃ acc', H' D = some (.lst acc') ∧ acc'.length < sizeLine ∧ LcInv K V0 H0 D (acc ++ [d]) (upd H' D (.lst (acc' ++ [y]))) := by
  have hv' : U' D = none := x2.keepOut hv (by rw [hd]; exact fun z => by cases z)
  refine ⟨xs, x2.hh _ _ hd, lt_line (by rw [dpall_len dp]; exact hl), U', xs ++ [y], (x.trans x2).poke hD hv', hv', upd_same, dpall_app (dp.to x2.vv) (.cons e .nil)⟩
/-- a comprehension's reading over a walk that leaves the heap as it is: at turn i the item x, then f i: the data of what is put in, or none -/
theorem lc_dp0 {J : It} {n : Nat} {G : Hp → Prop} {Y : Nat → Hp → V → Hp → Prop} (wk : Walk J n G Y) {K : PySem.W.Frag} {V0 H0 : Hp} {D : Addr} {g : TG} {tt : TT} {te : TE} {vs : List Nat} {σ : St} {Qd : Hp → Prop} (f : Nat → Option PyData) (σ0 : St) (hσ : wipe σ vs = σ0) (s0 : Same V0 H0) (hD : H0 D = none) (hn : n < 100000)
    (hG : ∀ H, Same H0 H → G H) (hY : ∀ i H x H', Y i H x H' → H' = H)
    (hs : ∀ i x V H, i < n → Ext V0 H0 V H → Y i H x H → ∀ (Qy : VK) (Qn : Hp → Prop), (∀ d y V' H', f i = some d → Ext V H V' H' → Dp K V' y d → Qy y H') → (f i = none → ∀ V' H', Ext V H V' H' → Qn H') →
      g x σ0 H fun σ2 H2 => wipe σ2 vs = σ0 ∧ tt σ2 H2 fun b H3 => if b = true then te σ2 H3 Qy else Qn H3)
    (hd : ∀ (U H : Hp) (xs : List V), Ext V0 H0 U H → U D = none → H D = some (.lst xs) → DpAll K U xs (fm f n) → Qd H) :
    ∃ W : Nat → Nat → Hp → Prop, (∃ m, W 0 m (upd H0 D (.lst []))) ∧ ∀ i m H, W i m H →
      (J.stop i H ∧ Qd H) ∨ (J.go i H ∧ ∃ Nx : Hp → Prop, (∀ H', Nx H' → ∃ m', m' < m ∧ W (i + 1) m' H') ∧ ∀ x H', J.yld i H x H' → g x (wipe σ vs) H' fun σ2 H2 => wipe σ2 vs = wipe σ vs ∧ tt σ2 H2 fun b H3 =>
        if b = true then te σ2 H3 fun y H4 => ∃ acc, H4 D = some (.lst acc) ∧ acc.length < sizeLine ∧ Nx (upd H4 D (.lst (acc ++ [y]))) else Nx H3) := by
  subst hσ
  refine lc_it wk (fun i H => LcInv K V0 H0 D (fm f i) H) (LcInv.start s0 hD) (fun i H _ p => ?_) (fun i x H H' hi p y => ?_) (fun H p => ?_)
  · obtain ⟨V, xs, x, _⟩ := p.ex
    exact hG H x.hh
  · obtain ⟨V, xs, x0, hv, hdd, dp⟩ := p.ex
    obtain rfl := hY i H x H' y
    refine hs i x V H' hi x0 y _ _ (fun d y' V' H4 e x2 dy => ?_) (fun e V' H4 x2 => ?_)
    · have hl : (fm f i).length < 100000 := Nat.lt_of_le_of_lt (fm_len f i) (Nat.lt_trans hi hn)
      obtain ⟨acc', a1, a2, a3⟩ := LcInv.push hD x0 hv hdd dp x2 dy hl
      refine ⟨acc', a1, a2, ?_⟩
      rw [fm_succ, e]
      exact a3
    · have hv' : V' D = none := x2.keepOut hv (by rw [hdd]; exact fun z => by cases z)
      rw [fm_succ, e]
      show LcInv K V0 H0 D (fm f i ++ []) H4
      rw [List.append_nil]
      exact ⟨V', xs, x0.trans x2, hv', x2.hh _ _ hdd, dp.to x2.vv⟩
  · obtain ⟨U, xs, x, hv, hdd, dp⟩ := p.ex
    exact hd U H xs x hv hdd dp
/-- a comprehension's reading over a walk that leaves the heap as it is: at turn i the item x, then f i: the data of what is put in, or none -/
theorem lc_dp {J : It} {n : Nat} {G : Hp → Prop} {Y : Nat → Hp → V → Hp → Prop} (wk : Walk J n G Y) {K : PySem.W.Frag} {V0 H0 : Hp} {D : Addr} {g : TG} {tt : TT} {te : TE} {vs : List Nat} {σ : St} {Qd : Hp → Prop} (f : Nat → Option PyData) (σ0 : St) (hσ : wipe σ vs = σ0) (s0 : Same V0 H0) (hD : H0 D = none) (hn : n < 100000)
    (hG : ∀ H, Same H0 H → G H) (hY : ∀ i H x H', Y i H x H' → H' = H)
    (hs : ∀ i x V H, i < n → Ext V0 H0 V H → Y i H x H → ∀ (Qy : VK) (Qn : Hp → Prop), (∀ d y V' H', f i = some d → Ext V H V' H' → Dp K V' y d → Qy y H') → (f i = none → ∀ V' H', Ext V H V' H' → Qn H') →
      g x σ0 H fun σ2 H2 => wipe σ2 vs = σ0 ∧ tt σ2 H2 fun b H3 => if b = true then te σ2 H3 Qy else Qn H3)
    (hd : ∀ (U H : Hp) (xs : List V), Ext V0 H0 U H → U D = some (.lst xs) → DpAll K U xs (fm f n) → Dp K U (.ref D) (.list (fm f n)) → Qd H) :
    ∃ W : Nat → Nat → Hp → Prop, (∃ m, W 0 m (upd H0 D (.lst []))) ∧ ∀ i m H, W i m H →
      (J.stop i H ∧ Qd H) ∨ (J.go i H ∧ ∃ Nx : Hp → Prop, (∀ H', Nx H' → ∃ m', m' < m ∧ W (i + 1) m' H') ∧ ∀ x H', J.yld i H x H' → g x (wipe σ vs) H' fun σ2 H2 => wipe σ2 vs = wipe σ vs ∧ tt σ2 H2 fun b H3 =>
        if b = true then te σ2 H3 fun y H4 => ∃ acc, H4 D = some (.lst acc) ∧ acc.length < sizeLine ∧ Nx (upd H4 D (.lst (acc ++ [y]))) else Nx H3) := by
  refine lc_dp0 wk f σ0 hσ s0 hD hn hG hY hs fun U H xs x hv hdd dp => ?_
  exact hd _ H xs (x.take hD hv hdd) upd_same (dp.to (same_upd hv)) (.lst (SqL.of upd_same) (dp.to (same_upd hv)))
theorem fm_map {α β : Type} (f : α → β) : ∀ (xs : List α), fm (fun i => (xs[i]?).map f) xs.length = xs.map f := by
  intro xs
  have h : ∀ n, n ≤ xs.length → fm (fun i => (xs[i]?).map f) n = (xs.take n).map f := by
    intro n
    induction n with
    | zero => intro _; rfl
    | succ n ih =>
      intro hn
      rw [fm_succ, ih (by omega), List.getElem?_eq_getElem (by omega), List.take_succ_eq_append_getElem (by omega), List.map_append]
      rfl
  rw [h _ (Nat.le_refl _), List.take_length]

theorem lc2_outer {J : It} {n : Nat} {G : Hp → Prop} {Y : Nat → Hp → V → Hp → Prop} (wk : Walk J n G Y) {K : PySem.W.Frag} {V0 H0 : Hp} {D : Addr} {g : TG} {vs : List Nat} {σ : St} {body : St → Hp → (Hp → Prop) → Prop} {Qd : Hp → Prop} (F : Nat → List PyData) (σ0 : St) (hσ : wipe σ vs = σ0) (s0 : Same V0 H0) (hD : H0 D = none) (hF : F 0 = [])
    (hG : ∀ H, Same H0 H → G H) (hY : ∀ i H x H', Y i H x H' → H' = H)
    (hs : ∀ i x H, i < n → LcInv K V0 H0 D (F i) H → Y i H x H → ∀ Nx : Hp → Prop, (∀ H', LcInv K V0 H0 D (F (i + 1)) H' → Nx H') → g x σ0 H fun σ2 H2 => wipe σ2 vs = σ0 ∧ body σ2 H2 Nx)
    (hd : ∀ (U H : Hp) (xs : List V), Ext V0 H0 U H → U D = some (.lst xs) → DpAll K U xs (F n) → Dp K U (.ref D) (.list (F n)) → Qd H) :
    ∃ W : Nat → Nat → Hp → Prop, (∃ m, W 0 m (upd H0 D (.lst []))) ∧ ∀ i m H, W i m H →
      (J.stop i H ∧ Qd H) ∨ (J.go i H ∧ ∃ Nx : Hp → Prop, (∀ H', Nx H' → ∃ m', m' < m ∧ W (i + 1) m' H') ∧ ∀ x H', J.yld i H x H' → g x (wipe σ vs) H' fun σ2 H2 => wipe σ2 vs = wipe σ vs ∧ body σ2 H2 Nx) := by
  subst hσ
  refine ⟨fun i m H => m = n - i ∧ i ≤ n ∧ LcInv K V0 H0 D (F i) H, ⟨n, by simp, Nat.zero_le _, by rw [hF]; exact LcInv.start s0 hD⟩, ?_⟩
  rintro i m H ⟨rfl, hi, p⟩
  have sH : Same H0 H := by obtain ⟨_, _, x, _⟩ := p.ex; exact x.hh
  by_cases hlt : i < n
  · refine .inr ⟨wk.goes i H hlt (hG H sH), fun H' => LcInv K V0 H0 D (F (i + 1)) H', fun H' p' => ⟨n - (i + 1), by omega, rfl, hlt, p'⟩, fun x H' y => ?_⟩
    have y' := wk.yields i H x H' hlt (hG H sH) y
    obtain rfl := hY i H x H' y'
    exact hs i x H' hlt p y' _ fun _ h => h
  · have e : i = n := by omega
    subst e
    obtain ⟨U, xs, x, e1, e2, e3⟩ := p.done hD
    exact .inl ⟨wk.stops H (hG H sH), hd U H xs x e1 e2 e3⟩
theorem lc2_inner {J : It} {n : Nat} {G : Hp → Prop} {Y : Nat → Hp → V → Hp → Prop} (wk : Walk J n G Y) {K : PySem.W.Frag} {V0 H0 H4 : Hp} {D : Addr} {acc0 : List PyData} {g : TG} {tt : TT} {te : TE} {vs : List Nat} {σ : St} {Nx : Hp → Prop} (f : Nat → Option PyData) (σ0 : St) (hσ : wipe σ vs = σ0) (hD : H0 D = none)
    (inv : LcInv K V0 H0 D acc0 H4) (hn : acc0.length + n < 100000) (hG : ∀ H, Same H0 H → G H) (hY : ∀ i H x H', Y i H x H' → H' = H)
    (hs : ∀ i x V H, i < n → Ext V0 H0 V H → Y i H x H → ∀ (Qy : VK) (Qn : Hp → Prop), (∀ d y V' H', f i = some d → Ext V H V' H' → Dp K V' y d → Qy y H') → (f i = none → ∀ V' H', Ext V H V' H' → Qn H') →
      g x σ0 H fun σ2 H2 => wipe σ2 vs = σ0 ∧ tt σ2 H2 fun b H3 => if b = true then te σ2 H3 Qy else Qn H3)
    (hd : ∀ H, LcInv K V0 H0 D (acc0 ++ fm f n) H → Nx H) :
    ∃ W : Nat → Nat → Hp → Prop, (∃ m, W 0 m H4) ∧ ∀ i m H, W i m H →
      (J.stop i H ∧ Nx H) ∨ (J.go i H ∧ ∃ Nx1 : Hp → Prop, (∀ H', Nx1 H' → ∃ m', m' < m ∧ W (i + 1) m' H') ∧ ∀ x H', J.yld i H x H' → g x (wipe σ vs) H' fun σ2 H2 => wipe σ2 vs = wipe σ vs ∧ tt σ2 H2 fun b H3 =>
        if b = true then te σ2 H3 fun y H4 => ∃ acc, H4 D = some (.lst acc) ∧ acc.length < sizeLine ∧ Nx1 (upd H4 D (.lst (acc ++ [y]))) else Nx1 H3) := by
  subst hσ
  refine ⟨fun i m H => m = n - i ∧ i ≤ n ∧ LcInv K V0 H0 D (acc0 ++ fm f i) H, ⟨n, by simp, Nat.zero_le _, by rw [show fm f 0 = [] from rfl, List.append_nil]; exact inv⟩, ?_⟩
  rintro i m H ⟨rfl, hi, p⟩
  have sH : Same H0 H := by obtain ⟨_, _, x, _⟩ := p.ex; exact x.hh
  by_cases hlt : i < n
  · refine .inr ⟨wk.goes i H hlt (hG H sH), fun H' => LcInv K V0 H0 D (acc0 ++ fm f (i + 1)) H', fun H' p' => ⟨n - (i + 1), by omega, rfl, hlt, p'⟩, fun x H' y => ?_⟩
    have y' := wk.yields i H x H' hlt (hG H sH) y
    obtain rfl := hY i H x H' y'
    obtain ⟨V, xs, x0, hv, hdd, dp⟩ := p.ex
    refine hs i x V H' hlt x0 y' _ _ (fun d y' V' H4 e x2 dy => ?_) (fun e V' H4 x2 => ?_)
    · have hl : (acc0 ++ fm f i).length < 100000 := by have := fm_len f i; rw [List.length_append]; omega
      obtain ⟨acc', a1, a2, a3⟩ := LcInv.push hD x0 hv hdd dp x2 dy hl
      refine ⟨acc', a1, a2, ?_⟩
      rw [fm_succ, e, ← List.append_assoc]
      exact a3
    · have hv' : V' D = none := x2.keepOut hv (by rw [hdd]; exact fun z => by cases z)
      rw [fm_succ, e]
      show LcInv K V0 H0 D (acc0 ++ (fm f i ++ [])) H4
      rw [List.append_nil]
      exact ⟨V', xs, x0.trans x2, hv', x2.hh _ _ hdd, dp.to x2.vv⟩
  · have e : i = n := by omega
    subst e
    exact .inl ⟨wk.stops H (hG H sH), hd H p⟩
theorem fm_some {α : Type} (f : Nat → α) (n : Nat) : fm (fun i => some (f i)) n = (List.range n).map f := by
  induction n with
  | zero => rfl
  | succ n ih => rw [fm_succ, ih, List.range_succ, List.map_append]; rfl
theorem fl_take' {α : Type} {β : Type} (f : α → List β) : ∀ (xs : List α) (i : Nat) (x : α), xs[i]? = some x → (xs.take (i + 1)).flatMap f = (xs.take i).flatMap f ++ f x := by
  intro xs i x h
  obtain ⟨hi, e⟩ := List.getElem?_eq_some_iff.mp h
  rw [List.take_succ_eq_append_getElem hi, List.flatMap_append, e]
  show _ ++ (f x ++ []) = _
  rw [List.append_nil]
theorem fl_le' {α : Type} {β : Type} (f : α → List β) (xs : List α) (i : Nat) : ((xs.take i).flatMap f).length ≤ (xs.flatMap f).length := by
  have : xs.flatMap f = (xs.take i).flatMap f ++ (xs.drop i).flatMap f := by rw [← List.flatMap_append, List.take_append_drop]
  rw [this, List.length_append]; omega
/-! ### lists of ints, texts -/
theorem tyL {K : PySem.W.Frag} {H : Hp} {a : Addr} {xs : List V} (h : SqL K H a xs) : TyX K H (.ref a) (.type "list") := by
  rcases h with (h | ⟨o, h⟩) | ⟨o, its, n, h, c, _⟩
  · exact .base (.lst h)
  · exact .base (.frz h)
  · exact .kList h c
theorem tyT {K : PySem.W.Frag} {H : Hp} {a : Addr} {xs : List V} (h : SqT K H a xs) : TyX K H (.ref a) (.type "tuple") := by
  rcases h with (h | ⟨o, h⟩) | ⟨o, its, n, h, c, _⟩
  · exact .base (.tup h)
  · exact .fTuple h
  · exact .kTuple h c
theorem dp_intsV {K : PySem.W.Frag} {H : Hp} : ∀ {xs : List V} {is : List Int}, DpAll K H xs (is.map PyData.int) → xs = is.map V.int
  | _, [], r => by cases r; rfl
  | _, i :: is, r => by
    cases r with
    | cons r1 r2 => cases r1; rw [dp_intsV r2]; rfl
theorem dp_intsL {K : PySem.W.Frag} {H : Hp} {a : Addr} {is : List Int} (h : Dp K H (.ref a) (.list (is.map PyData.int))) : SqL K H a (is.map V.int) := by
  obtain ⟨a', xs, e, q, r⟩ := dp_list h
  cases e
  rw [← dp_intsV r]; exact q
theorem dp_strsV {K : PySem.W.Frag} {H : Hp} : ∀ {xs : List V} {is : List Str}, DpAll K H xs (is.map PyData.str) → xs = is.map V.str
  | _, [], r => by cases r; rfl
  | _, i :: is, r => by
    cases r with
    | cons r1 r2 => cases r1; rw [dp_strsV r2]; rfl
theorem dp_boolsV {K : PySem.W.Frag} {H : Hp} : ∀ {xs : List V} {is : List Bool}, DpAll K H xs (is.map PyData.bool) → xs = is.map V.bl
  | _, [], r => by cases r; rfl
  | _, i :: is, r => by
    cases r with
    | cons r1 r2 => cases r1; rw [dp_boolsV r2]; rfl
theorem dp_boolsL {K : PySem.W.Frag} {H : Hp} {a : Addr} {is : List Bool} (h : Dp K H (.ref a) (.list (is.map PyData.bool))) : SqL K H a (is.map V.bl) := by
  obtain ⟨a', xs, e, q, r⟩ := dp_list h
  cases e
  rw [← dp_boolsV r]; exact q
theorem size_eq (z : Str) : z.cps.size = z.cps.toList.length := by simp
theorem cps_at (z : Str) (i : Nat) : z.cps[i]? = z.cps.toList[i]? := by simp
theorem fm_list {α β : Type} (f : α → β) (xs : List α) (n : Nat) (h : n = xs.length) (g : Nat → Option β) (hg : ∀ i x, xs[i]? = some x → g i = some (f x)) : fm g n = xs.map f := by
  subst h
  rw [← fm_map f xs]
  unfold fm
  have : ∀ l : List Nat, (∀ i ∈ l, i < xs.length) → l.filterMap g = l.filterMap fun i => (xs[i]?).map f := by
    intro l
    induction l with
    | nil => intro _; rfl
    | cons i l ih =>
      intro hl
      have hi' := hl i List.mem_cons_self
      rw [List.filterMap_cons, List.filterMap_cons, hg i _ (List.getElem?_eq_getElem hi'), List.getElem?_eq_getElem hi', ih fun j hj => hl j (List.mem_cons_of_mem _ hj)]
      rfl
  exact this _ fun i hi => List.mem_range.mp hi
theorem rep_flat {α : Type} (v : α) : ∀ n : Nat, (List.replicate n [v]).flatten = List.replicate n v
  | 0 => rfl
  | n + 1 => by rw [List.replicate_succ, List.replicate_succ, List.flatten_cons, rep_flat v n]; rfl
/-- a list's object that is tracked, at p, new -/
structure NewL (H H' : Hp) (p : Addr) (xs : List V) : Prop where
  new : H p = none
  same : Same H H'
  at_ : H' p = some (.lst xs)
theorem NewL.ext {U H H' : Hp} {p : Addr} {xs : List V} (n : NewL H H' p xs) (s : Same U H) : Ext U H (upd U p (.lst xs)) H' :=
  ⟨same_upd (s.free n.new), fun b u e => by
    by_cases hb : b = p
    · subst hb; rw [upd_same] at e; rw [n.at_]; exact e
    · rw [upd_ne hb] at e; exact n.same _ _ (s b u e), n.same, fun a e => by
    by_cases ha : a = p
    · subst ha; exact Or.inr n.new
    · rw [upd_ne ha] at e; exact Or.inl e⟩
theorem str_app (x y : Str) : (x ++ y).cps.toList = x.cps.toList ++ y.cps.toList := Array.toList_append
theorem str_len_app (x y : Str) : (x ++ y).length = x.length + y.length := by
  show (x ++ y).cps.size = x.cps.size + y.cps.size
  rw [size_eq, str_app, List.length_append, ← size_eq, ← size_eq]
/-! ### _law_cell, _law_row -/
def lawCell (ns : List Int) (k : Nat) : Int :=
  let c := if 0 < ns.length then ns.getD (k % ns.length) 0 else 0
  if c < 0 then 1 - 2 * c else c
theorem lawCell_nn (ns : List Int) (k : Nat) : 0 ≤ lawCell ns k := by
  unfold lawCell
  simp only
  split <;> omega
def lawOne (c : Int) (k : Nat) : Int := (c * 48271 + (k : Int) * 69621 + 12345) % 2147483647
def lawTwo (o : Int) (k : Nat) : Int := (o * o + 16807 * (k : Int) + 7) % 2147483629
def lawRow (ns : List Int) (k : Nat) : Int :=
  if k < ns.length ∧ 1000000000 ≤ lawCell ns k then lawCell ns k
  else (lawTwo (lawOne (lawCell ns k) k) k * lawTwo (lawOne (lawCell ns k) k) k + lawOne (lawCell ns k) k) % 4294967291 + 4294967296 * (lawOne (lawCell ns k) k + 1)
theorem lawOne_b (c : Int) (k : Nat) : 0 ≤ lawOne c k ∧ lawOne c k < 2147483647 := by unfold lawOne; omega
theorem lawTwo_b (c : Int) (k : Nat) : 0 ≤ lawTwo c k ∧ lawTwo c k < 2147483629 := by
  unfold lawTwo
  generalize c * c + 16807 * (k : Int) + 7 = x
  omega
theorem lawRow_nn (ns : List Int) (k : Nat) : 0 ≤ lawRow ns k := by
  unfold lawRow
  have h1 := lawOne_b (lawCell ns k) k
  split
  · exact lawCell_nn ns k
  · generalize lawTwo (lawOne (lawCell ns k) k) k * lawTwo (lawOne (lawCell ns k) k) k + lawOne (lawCell ns k) k = x
    omega
def sp__law_cell (K : PySem.W.Frag) : Sp := fun vs H Q _ => ∃ (a : Addr) (ns : List Int) (k : Nat), vs = [.ref a, .int (k : Int)] ∧ SqL K H a (ns.map V.int) ∧ Q (.int (lawCell ns k)) H
theorem sc__law_cell : FnScope ["script", "k", "cell"] ["script", "k"] (defScope s__law_cell) := ⟨rfl, rfl, rfl, by decide +kernel, rfl, by decide +kernel, by decide +kernel⟩
theorem ok__law_cell (T : Txt K mg A) : FnOk P w K mg base CX0 1 A.f_law_cell A.d_law_cell ["script", "k"] (sp__law_cell K) := by
  refine T.F_law_cell.ok sc__law_cell (fun vs H Q E h => ?_) (fun cdv Ar outer s H vs Q E hr h => ?_)
  · obtain ⟨a, ns, k, rfl, _⟩ := h
    rfl
  · obtain ⟨a, ns, k, rfl, hS, q⟩ := h
    refine ⟨_, (pss_cons (ps_set (i := 2) sc__law_cell.nd rfl (Or.inl rfl) pe_int)
      (pss_cons (ps_if (pt_cmpR op_gt (pe_callB call_len_seq (by rfl) T.len PySem.boot_len (pa_cons (pv 0) pa_nil)) pe_int (nomark _))
      (pss_one (ps_set (i := 2) sc__law_cell.nd rfl (Or.inl rfl) (pe_ix ix_list (pv 0) (pe_op op_mod (pe_callTy call_int1 (by rfl) T.int (by decide +kernel) (pa_cons (pv 1) pa_nil)) (pe_callB call_len_seq (by rfl) T.len PySem.boot_len (pa_cons (pv 0) pa_nil))) (fun _ _ => rfl))))
      pss_nil)
      (pss_cons (ps_if (pt_cmpR op_lt (pv 2) pe_int (nomark _))
      (pss_one (ps_set (i := 2) sc__law_cell.nd rfl (Or.inl rfl) (pe_op op_sub pe_int (pe_op op_mul pe_int (pv 2)))))
      pss_nil)
      (pss_one (ps_ret (pv 2)))))), ?_⟩
    have two : ∀ (c : Int), (if c < 0 then 1 - 2 * c else c) = lawCell ns k → tSeq (tIfS (tTest (tOp (rI0 fun i j => .bl (decide (i < j))) (tVar 2) (tC (.int 0)))) (tAsg (tOp (rI0 fun i j => .int (i - j)) (tC (.int 1)) (tOp (rI CMul fun i j => .int (i * j)) (tC (.int 2)) (tVar 2))) (gName 2)) tNext) (tRet (tVar 2))
        { nx := fun _ H' => Q .non H', rt := Q } [some (.ref a), some (.int (k : Int)), some (.int c)] H := by
      intro c hc
      walk_at "rd"
      refine iteP (fun h => ?_) (fun h => ?_)
      · rw [if_pos h] at hc
        walk_at "rd"
        rw [← hc] at q; exact q
      · rw [if_neg h] at hc
        walk_at "rd"
        rw [← hc] at q; exact q
    refine ⟨.ref a, rfl, a, _, rfl, .inl hS, _, _, rfl, rfl, _, rfl, iteP (fun h => ?_) (fun h => ?_)⟩
    · have h0 : 0 < ns.length := by rw [List.length_map] at h; omega
      refine ⟨_, rfl, _, rfl, Or.inl ⟨_, rfl, ?_⟩⟩
      refine ⟨_, rfl, a, _, rfl, .inl hS, _, _, rfl, rfl, by show (0 : Int) < _; omega, a, _, _, .int (ns.getD (k % ns.length) 0), rfl, rfl, hS, ?_, ?_⟩
      · refine at_of (j := k % ns.length) ?_ ?_
        · rw [List.length_map]; exact (Int.natCast_emod _ _).symm
        · rw [List.getElem?_map, List.getElem?_eq_getElem (Nat.mod_lt _ h0), List.getD_eq_getElem?_getD, List.getElem?_eq_getElem (Nat.mod_lt _ h0)]; rfl
      · refine two _ ?_
        unfold lawCell; rw [if_pos h0]
    · have h0 : ¬ 0 < ns.length := by rw [List.length_map] at h; omega
      refine two _ ?_
      unfold lawCell; rw [if_neg h0]
def sp__law_row (K : PySem.W.Frag) : Sp := fun vs H Q _ => ∃ (a : Addr) (ns : List Int) (k : Nat), vs = [.ref a, .int (k : Int)] ∧ SqL K H a (ns.map V.int) ∧ Q (.int (lawRow ns k)) H
theorem sc__law_row : FnScope ["script", "k", "cell", "one", "two"] ["script", "k"] (defScope s__law_row) := ⟨rfl, rfl, rfl, by decide +kernel, rfl, by decide +kernel, by decide +kernel⟩
theorem ok__law_row (T : Txt K mg A) : FnOk P w K mg base CX0 2 A.f_law_row A.d_law_row ["script", "k"] (sp__law_row K) := by
  refine T.F_law_row.ok sc__law_row (fun vs H Q E h => ?_) (fun cdv Ar outer s H vs Q E hr h => ?_)
  · obtain ⟨a, ns, k, rfl, _⟩ := h
    rfl
  · obtain ⟨a, ns, k, rfl, hS, q⟩ := h
    refine ⟨_, (pss_cons (ps_set (i := 2) sc__law_row.nd rfl (Or.inl rfl) (pe_call (ok__law_cell T) (hr.mono (by decide)) rfl T.g_law_cell T.k_law_cell T.b_law_cell .nil pass0 (pa_cons (pv 0) (pa_cons (pv 1) pa_nil))))
      (pss_cons (ps_if (PW.pt (pw_and (pt_cmpR op_lt (pv 1) (pe_callB call_len_seq (by rfl) T.len PySem.boot_len (pa_cons (pv 0) pa_nil)) (nomark _)) (pw_and1 (pt_cmpR op_ge (pv 2) pe_int (nomark _)))))
      (pss_one (ps_ret (pv 2)))
      pss_nil)
      (pss_cons (ps_set (i := 3) sc__law_row.nd rfl (Or.inl rfl) (pe_op op_mod (pe_callTy call_int1 (by rfl) T.int (by decide +kernel) (pa_cons (pe_op op_add (pe_op op_add (pe_op op_mul (pv 2) pe_int) (pe_op op_mul (pv 1) pe_int)) pe_int) pa_nil)) pe_int))
      (pss_cons (ps_set (i := 4) sc__law_row.nd rfl (Or.inl rfl) (pe_op op_mod (pe_callTy call_int1 (by rfl) T.int (by decide +kernel) (pa_cons (pe_op op_add (pe_op op_add (pe_op op_mul (pv 3) (pv 3)) (pe_op op_mul pe_int (pv 1))) pe_int) pa_nil)) pe_int))
      (pss_one (ps_ret (pe_op op_add (pe_op op_mod (pe_callTy call_int1 (by rfl) T.int (by decide +kernel) (pa_cons (pe_op op_add (pe_op op_mul (pv 4) (pv 4)) (pv 3)) pa_nil)) pe_int) (pe_op op_mul pe_int (pe_op op_add (pv 3) pe_int))))))))), ?_⟩
    have b1 := lawOne_b (lawCell ns k) k
    have b2 := lawTwo_b (lawOne (lawCell ns k) k) k
    have m1 : CMul (lawOne (lawCell ns k) k) (lawOne (lawCell ns k) k) := Or.inl ⟨by omega, by omega⟩
    have m2 : CMul (lawTwo (lawOne (lawCell ns k) k) k) (lawTwo (lawOne (lawCell ns k) k) k) := Or.inl ⟨by omega, by omega⟩
    refine ⟨_, rfl, _, rfl, a, ns, k, rfl, hS, ?_⟩
    refine ⟨_, rfl, _, rfl, a, _, rfl, .inl hS, _, _, rfl, rfl, _, rfl, ?_⟩
    refine iteP (fun h => ?_) (fun h => ?_)
    · refine ⟨_, rfl, _, _, rfl, rfl, _, rfl, iteP (fun h2 => ?_) (fun h2 => ?_)⟩
      · have e : lawRow ns k = lawCell ns k := by unfold lawRow; rw [if_pos ⟨by rw [List.length_map] at h; omega, h2⟩]
        rw [e] at q
        exact ⟨_, rfl, q⟩
      · unfold lawRow at q
        rw [if_neg fun z => h2 z.2] at q
        walk_at "rd"
        refine ⟨m1, ?_⟩
        walk_at "rd"
        refine ⟨m2, ?_⟩
        walk_at "rd"
        exact q
    · unfold lawRow at q
      rw [if_neg fun z => h (by rw [List.length_map]; omega)] at q
      walk_at "rd"
      refine ⟨m1, ?_⟩
      walk_at "rd"
      refine ⟨m2, ?_⟩
      walk_at "rd"
      exact q
/-! ### a word that goes on by itself -/
theorem iteVP {p A B : Prop} [Decidable p] (h1 : p → A) (h2 : ¬ p → B) : if p then A else B := by
  by_cases h : p
  · rw [if_pos h]; exact h1 h
  · rw [if_neg h]; exact h2 h
/-- a new tuple is handed back -/
def RetT (H : Hp) (Q : VK) (xs : List V) : Prop := ∀ p H', Same H H' → H' p = some (.tup xs) → Q (.ref p) H'
theorem RetT.go {H : Hp} {Q : VK} {xs : List V} (h : ∀ p H', Same H H' → H' p = some (.tup xs) → Q (.ref p) H') : RetT H Q xs := h
theorem ne_self {d e : PyData} {A B : Prop} (hs : SeqAt.shaped d = true) (h : d = e) (hB : B) : if (!PyData.eqv d e) = true then A else B := by
  subst h
  have h2 : (d.canLay0 && decide (d.depth ≤ 64)) = true := hs
  have : PyData.eqv d d = true := SeqAt.eqv_refl d (by rw [Bool.and_eq_true] at h2; exact h2.1)
  rw [this]
  exact iteF hB
theorem eq_self {d e : PyData} {A B : Prop} (hs : SeqAt.shaped d = true) (h : d = e) (hA : A) : if PyData.eqv d e = true then A else B := by
  subst h
  have h2 : (d.canLay0 && decide (d.depth ≤ 64)) = true := hs
  have : PyData.eqv d d = true := SeqAt.eqv_refl d (by rw [Bool.and_eq_true] at h2; exact h2.1)
  rw [this]
  exact iteT hA
theorem t_ne {K : PySem.W.Frag} {x y : V} {H : Hp} {Q : VK} {d e : PyData} (h1 : Dp K H x d) (h2 : Dp K H y e) (s1 : SeqAt.shaped d = true) (s2 : SeqAt.shaped e = true) (q : Q (.bl (!PyData.eqv d e)) H) : rNeD K x y H Q := ⟨d, e, h1, h2, s1, s2, q⟩
theorem t_eq {K : PySem.W.Frag} {x y : V} {H : Hp} {Q : VK} {d e : PyData} (h1 : Dp K H x d) (h2 : Dp K H y e) (s1 : SeqAt.shaped d = true) (s2 : SeqAt.shaped e = true) (q : Q (.bl (PyData.eqv d e)) H) : rEqD K x y H Q := ⟨d, e, h1, h2, s1, s2, q⟩
/-! words that go on by themselves -/
local macro_rules | `(tactic| walk_at "sq") => `(tactic| first
  | exact SqT.of upd_same
  | exact SqL.of upd_same
  | assumption
  | exact SqT.of (by assumption)
  | exact SqL.of (by assumption)
  | (apply Same.sqt (same_upd (by assumption)); walk_at "sq")
  | (apply Same.seq (same_upd (by assumption)); walk_at "sq")
  | (apply Same.sqt (by assumption); walk_at "sq")
  | (apply Same.seq (by assumption); walk_at "sq"))
local macro_rules | `(tactic| walk_at "sm") => `(tactic| first
  | exact Same.refl _
  | assumption
  | (apply Same.trans _ (same_upd (by assumption)); walk_at "sm")
  | (apply Same.trans _ (by assumption); walk_at "sm"))
local macro_rules | `(tactic| walk_at "at") => `(tactic| first
  | exact atI_nat (j := 0) rfl
  | exact atI_nat (j := 1) rfl
  | exact atI_nat (j := 2) rfl
  | exact atI_nat (j := 3) rfl
  | exact atI_nat (j := 4) rfl
  | exact atI_nat (j := 5) rfl)
local macro_rules | `(tactic| walk_at "go1") => `(tactic| first
  | refine ⟨_, rfl, ?_⟩
  | refine ⟨_, _, rfl, rfl, ?_⟩
  | refine ⟨rfl, ?_⟩
  | refine Or.inl ⟨_, rfl, ?_⟩
  | refine ⟨(by show (0 : Int) < _; decide), ?_⟩
  | refine ⟨(⟨by decide, by decide⟩ : CDiv _ _), ?_⟩
  | refine ⟨(Or.inl ⟨by decide, by decide⟩ : CMul _ _), ?_⟩
  | refine ⟨(Or.inr ⟨by decide, by decide⟩ : CMul _ _), ?_⟩
  | refine ⟨_, _, rfl, ?_⟩
  | refine ⟨_, _, _, rfl, ?_⟩
  | refine ⟨_, _, _, _, rfl, ?_⟩
  | (refine And.intro (a := (0 : Int) ≤ _) ?_ ?_; focus omega)
  | (refine And.intro (a := _ ≤ sizeLine) ?_ (fun p hp => ?_); (focus (exact len_line (Nat.le_of_ble_eq_true rfl))))
  | refine RetT.go (fun p H' s e => ?_)
  | refine if_t rfl ?_
  | refine if_f rfl ?_
  | refine ⟨_, _, rfl, (by walk_at "sq"), rfl, ?_⟩
  | refine ⟨_, _, rfl, Or.inl (by walk_at "sq"), ?_⟩
  | refine ⟨_, _, rfl, Or.inr (by walk_at "sq"), ?_⟩
  | refine ⟨_, _, _, _, rfl, rfl, (by walk_at "sq"), (by walk_at "at"), ?_⟩
  | refine ⟨_, _, rfl, (by walk_at "sq"), (by show ¬(HT.sIx 4 0 (some 2) = 0 ∧ HT.sIx 4 4 none = 4); decide), fun p hp => ?_⟩
  | refine ⟨_, _, _, _, rfl, rfl, (by walk_at "sq"), (by walk_at "sq"), (by intro h; cases h), len_line (Nat.le_of_ble_eq_true rfl), (fun h => by cases h), fun _ p hp => ?_⟩)
local macro_rules | `(tactic| walk_at "go") => `(tactic| repeat walk_at "go1")
local macro_rules | `(tactic| walk_at "dps") => `(tactic| first
  | exact DpAll.nil
  | (apply DpAll.cons; (focus (walk_at "dp")); (focus (walk_at "dps"))))
local macro_rules | `(tactic| walk_at "dp") => `(tactic| first
  | exact Dp.int _
  | exact Dp.bl _
  | exact Dp.str _
  | exact Dp.non
  | (apply Dp.tup; (focus (walk_at "sq")); (focus (walk_at "dps")))
  | (apply Dp.lst; (focus (walk_at "sq")); (focus (walk_at "dps"))))
local macro_rules | `(tactic| walk_at "sh") => `(tactic| (show (PyData.canLay0 _ && decide (PyData.depth _ ≤ 64)) = true; simp [PyData.canLay0, PyData.canLayAll0, PyData.depth, PyData.depthAll]))
/-- a deep comparison: what is left is the if -/
local macro_rules | `(tactic| walk_at "ne") => `(tactic| (apply t_ne; (focus (walk_at "dp")); (focus (walk_at "dp")); (focus (walk_at "sh")); (focus (walk_at "sh")); refine ⟨_, rfl, ?_⟩))
local macro_rules | `(tactic| walk_at "neS") => `(tactic| (walk_at "ne"; refine ne_self ?_ ?_ ?_; (focus (walk_at "sh"))))
/-! ### places of popups -/
def mx (i j : Int) : Int := if j > i then j else i
def mn (i j : Int) : Int := if j < i then j else i
def sp_overlap_axis (K : PySem.W.Frag) : Sp := fun vs H Q _ => ∃ b l ob ol : Int, vs = [.int b, .int l, .int ob, .int ol] ∧ RetT H Q [.int (mx b ob), .int (mx (mn (b + l) (ob + ol) - mx b ob) 0)]
theorem sc_overlap_axis : FnScope ["begin", "length", "other_begin", "other_length", "first"] ["begin", "length", "other_begin", "other_length"] (defScope s_overlap_axis) := ⟨rfl, rfl, rfl, by decide +kernel, rfl, by decide +kernel, by decide +kernel⟩
theorem ok_overlap_axis (T : Txt K mg A) : FnOk P w K mg base CX0 1 A.foverlap_axis A.doverlap_axis ["begin", "length", "other_begin", "other_length"] (sp_overlap_axis K) := by
  refine T.Foverlap_axis.ok sc_overlap_axis (fun vs H Q E h => ?_) (fun cdv Ar outer s H vs Q E hr h => ?_)
  · obtain ⟨_, _, _, _, rfl, _⟩ := h
    rfl
  · obtain ⟨b, l, ob, ol, rfl, q⟩ := h
    refine ⟨_, (pss_cons (ps_set (i := 4) sc_overlap_axis.nd rfl (Or.inl rfl) (pe_callB (call_max2 rfl) (by rfl) T.max (by decide +kernel) (pa_cons (pv 0) (pa_cons (pv 2) pa_nil))))
      (pss_one (ps_ret (pe_tup (pa_cons (pv 4) (pa_cons (pe_callB (call_max2 rfl) (by rfl) T.max (by decide +kernel) (pa_cons (pe_op op_sub (pe_callB (call_min2 rfl) (by rfl) T.min (by decide +kernel) (pa_cons (pe_op op_add (pv 0) (pv 1)) (pa_cons (pe_op op_add (pv 2) (pv 3)) pa_nil))) (pv 4)) (pa_cons pe_int pa_nil))) pa_nil)))))), ?_⟩
    walk_at "go"
    exact q _ _ (by walk_at "sm") upd_same
def ptI (an bg ln : Int) : Int := if an = 0 then bg + ln / 2 else if 0 < an then bg + ln else bg
def bkI (gr sz : Int) : Int := if gr < 0 then sz else if gr = 0 then sz / 2 else 0
def startI (an gr bg ln sz off : Int) : Int := ptI an bg ln - bkI gr sz + off
def sp__start (K : PySem.W.Frag) : Sp := fun vs H Q _ => ∃ an gr bg ln sz off : Int, vs = [.int an, .int gr, .int bg, .int ln, .int sz, .int off] ∧ Q (.int (startI an gr bg ln sz off)) H
theorem sc__start : FnScope ["anchor", "gravity", "begin", "length", "size", "offset", "point"] ["anchor", "gravity", "begin", "length", "size", "offset"] (defScope s__start) := ⟨rfl, rfl, rfl, by decide +kernel, rfl, by decide +kernel, by decide +kernel⟩
theorem ok__start (T : Txt K mg A) : FnOk P w K mg base CX0 1 A.f_start A.d_start ["anchor", "gravity", "begin", "length", "size", "offset"] (sp__start K) := by
  refine T.F_start.ok sc__start (fun vs H Q E h => ?_) (fun cdv Ar outer s H vs Q E hr h => ?_)
  · obtain ⟨_, _, _, _, _, _, rfl, _⟩ := h
    rfl
  · obtain ⟨an, gr, bg, ln, sz, off, rfl, q⟩ := h
    refine ⟨_, (pss_cons (ps_set (i := 6) sc__start.nd rfl (Or.inl rfl) (pv 2))
      (C8.pss_cut (ps_if (pt_cmpR op_eq (pv 0) pe_int (nomark _))
      (pss_one (ps_aug (i := 6) sc__start.nd rfl (Or.inl rfl) (pe_op op_fdiv (pv 3) pe_int) ip_add))
      (pss_one (ps_if (pt_cmpR op_gt (pv 0) pe_int (nomark _))
      (pss_one (ps_aug (i := 6) sc__start.nd rfl (Or.inl rfl) (pv 3) ip_add))
      pss_nil)))
      (pss_cons (ps_if (pt_cmpR op_lt (pv 1) pe_int (nomark _))
      (pss_one (ps_aug (i := 6) sc__start.nd rfl (Or.inl rfl) (pv 4) ip_sub))
      (pss_one (ps_if (pt_cmpR op_eq (pv 1) pe_int (nomark _))
      (pss_one (ps_aug (i := 6) sc__start.nd rfl (Or.inl rfl) (pe_op op_fdiv (pv 4) pe_int) ip_sub))
      pss_nil)))
      (pss_one (ps_ret (pe_op op_add (pv 6) (pv 5))))))), ?_⟩
    walk_at "go"
    refine ⟨fun σ' H' => σ' = [some (.int an), some (.int gr), some (.int bg), some (.int ln), some (.int sz), some (.int off), some (.int (ptI an bg ln))] ∧ H' = H, ?_, ?_⟩
    · walk_at "go"
      unfold ptI
      refine iteEq (fun h => ?_) (fun h => ?_)
      · rw [if_pos h]; walk_at "go"; rfl
      · rw [if_neg h]; walk_at "go"
        refine iteP (fun h => ?_) (fun h => ?_)
        · rw [if_pos h]; walk_at "go"; rfl
        · rw [if_neg h]; exact ⟨rfl, rfl⟩
    · rintro σ' H' ⟨rfl, rfl⟩
      walk_at "go"
      unfold startI bkI at q
      refine iteP (fun h => ?_) (fun h => ?_)
      · rw [if_pos h] at q; walk_at "go"; exact q
      · rw [if_neg h] at q; walk_at "go"
        refine iteEq (fun h => ?_) (fun h => ?_)
        · rw [if_pos h] at q; walk_at "go"; exact q
        · rw [if_neg h] at q; walk_at "go"; rw [Int.sub_zero] at q; exact q
def liesI (bg ln r0 r1 : Int) : Bool := decide (r0 ≤ bg) && decide (bg + ln ≤ r0 + r1)
def sp__lies_in (K : PySem.W.Frag) : Sp := fun vs H Q _ => ∃ (bg ln r0 r1 : Int) (p : Addr), vs = [.int bg, .int ln, .ref p] ∧ SqT K H p [.int r0, .int r1] ∧ Q (.bl (liesI bg ln r0 r1)) H
theorem sc__lies_in : FnScope ["begin", "length", "room"] ["begin", "length", "room"] (defScope s__lies_in) := ⟨rfl, rfl, rfl, by decide +kernel, rfl, by decide +kernel, by decide +kernel⟩
theorem ok__lies_in (T : Txt K mg A) : FnOk P w K mg base CX0 1 A.f_lies_in A.d_lies_in ["begin", "length", "room"] (sp__lies_in K) := by
  refine T.F_lies_in.ok sc__lies_in (fun vs H Q E h => ?_) (fun cdv Ar outer s H vs Q E hr h => ?_)
  · obtain ⟨_, _, _, _, _, rfl, _⟩ := h
    rfl
  · obtain ⟨bg, ln, r0, r1, p, rfl, hp, q⟩ := h
    refine ⟨_, (pss_one (ps_ret (pe_and (pe_cmpR op_le (pe_ix (r := rIxT K) ix_tup (pv 2) pe_int (fun _ _ => rfl)) (pv 0) (nomark _)) (pe_one (pe_cmpR op_le (pe_op op_add (pv 0) (pv 1)) (pe_op op_add (pe_ix (r := rIxT K) ix_tup (pv 2) pe_int (fun _ _ => rfl)) (pe_ix (r := rIxT K) ix_tup (pv 2) pe_int (fun _ _ => rfl))) (nomark _)))))), ?_⟩
    walk_at "go"
    unfold liesI at q
    refine iteP (fun h => ?_) (fun h => ?_)
    · rw [decide_eq_true h] at q
      walk_at "go"
      exact q
    · rw [decide_eq_false h] at q
      exact q
def slidI (gr bg sz r0 r1 : Int) : Int := if gr < 0 then mn (mx bg r0) (r0 + r1 - sz) else mx (mn bg (r0 + r1 - sz)) r0
def sp__slid (K : PySem.W.Frag) : Sp := fun vs H Q _ => ∃ (gr bg sz r0 r1 : Int) (p : Addr), vs = [.int gr, .int bg, .int sz, .ref p] ∧ SqT K H p [.int r0, .int r1] ∧ Q (.int (slidI gr bg sz r0 r1)) H
theorem sc__slid : FnScope ["gravity", "begin", "size", "room", "last"] ["gravity", "begin", "size", "room"] (defScope s__slid) := ⟨rfl, rfl, rfl, by decide +kernel, rfl, by decide +kernel, by decide +kernel⟩
theorem ok__slid (T : Txt K mg A) : FnOk P w K mg base CX0 1 A.f_slid A.d_slid ["gravity", "begin", "size", "room"] (sp__slid K) := by
  refine T.F_slid.ok sc__slid (fun vs H Q E h => ?_) (fun cdv Ar outer s H vs Q E hr h => ?_)
  · obtain ⟨_, _, _, _, _, _, rfl, _⟩ := h
    rfl
  · obtain ⟨gr, bg, sz, r0, r1, p, rfl, hp, q⟩ := h
    refine ⟨_, (pss_cons (ps_set (i := 4) sc__slid.nd rfl (Or.inl rfl) (pe_op op_sub (pe_op op_add (pe_ix (r := rIxT K) ix_tup (pv 3) pe_int (fun _ _ => rfl)) (pe_ix (r := rIxT K) ix_tup (pv 3) pe_int (fun _ _ => rfl))) (pv 2)))
      (pss_cons (ps_if (pt_cmpR op_lt (pv 0) pe_int (nomark _))
      (pss_one (ps_ret (pe_callB (call_min2 rfl) (by rfl) T.min (by decide +kernel) (pa_cons (pe_callB (call_max2 rfl) (by rfl) T.max (by decide +kernel) (pa_cons (pv 1) (pa_cons (pe_ix (r := rIxT K) ix_tup (pv 3) pe_int (fun _ _ => rfl)) pa_nil))) (pa_cons (pv 4) pa_nil)))))
      pss_nil)
      (pss_one (ps_ret (pe_callB (call_max2 rfl) (by rfl) T.max (by decide +kernel) (pa_cons (pe_callB (call_min2 rfl) (by rfl) T.min (by decide +kernel) (pa_cons (pv 1) (pa_cons (pv 4) pa_nil))) (pa_cons (pe_ix (r := rIxT K) ix_tup (pv 3) pe_int (fun _ _ => rfl)) pa_nil))))))), ?_⟩
    walk_at "go"
    unfold slidI at q
    refine iteP (fun h => ?_) (fun h => ?_)
    · rw [if_pos h] at q
      walk_at "go"
      exact q
    · rw [if_neg h] at q
      walk_at "go"
      exact q
/-- what place_axis says -/
def axisI (an gr bg ln sz off r0 r1 : Int) (t s c : Bool) : Int × Int :=
  let at1 := startI an gr bg ln sz off
  if liesI at1 sz r0 r1 then (at1, sz) else
  let at2 := startI (-an) (-gr) bg ln sz (-off)
  if t && liesI at2 sz r0 r1 then (at2, sz) else
  let at3 := if s then slidI gr at1 sz r0 r1 else at1
  if c && !liesI at3 sz r0 r1 && decide (mx (mn (at3 + sz) (r0 + r1) - mx at3 r0) 0 > 0) then (mx at3 r0, mx (mn (at3 + sz) (r0 + r1) - mx at3 r0) 0) else (at3, sz)
def pairV (x : Int × Int) : List V := [.int x.1, .int x.2]
def sp_place_axis (K : PySem.W.Frag) : Sp := fun vs H Q _ => ∃ (an gr bg ln sz off r0 r1 : Int) (t s c : Bool) (p b : Addr), vs = [.int an, .int gr, .int bg, .int ln, .int sz, .int off, .ref p, .ref b] ∧ SqT K H p [.int r0, .int r1] ∧ SqT K H b [.bl t, .bl s, .bl c] ∧ RetT H Q (pairV (axisI an gr bg ln sz off r0 r1 t s c))
theorem sc_place_axis : FnScope ["anchor", "gravity", "begin", "length", "size", "offset", "room", "bits", "may_turn", "may_slide", "may_cut", "first", "turned", "cut"] ["anchor", "gravity", "begin", "length", "size", "offset", "room", "bits"] (defScope s_place_axis) := ⟨rfl, rfl, rfl, by decide +kernel, rfl, by decide +kernel, by decide +kernel⟩
theorem ok_place_axis (T : Txt K mg A) : FnOk P w K mg base CX0 2 A.fplace_axis A.dplace_axis ["anchor", "gravity", "begin", "length", "size", "offset", "room", "bits"] (sp_place_axis K) := by
  refine T.Fplace_axis.ok sc_place_axis (fun vs H Q E h => ?_) (fun cdv Ar outer s H vs Q E hr h => ?_)
  · obtain ⟨_, _, _, _, _, _, _, _, _, _, _, _, _, rfl, _⟩ := h
    rfl
  · obtain ⟨an, gr, bg, ln, sz, off, r0, r1, t, sl, c, p, b, rfl, hp, hb, q⟩ := h
    refine ⟨_, (pss_cons (ps_asg (pv 7) (pg_tup rfl (pgs_cons (pg_name (i := 8) sc_place_axis.nd rfl (Or.inl rfl)) (pgs_cons (pg_name (i := 9) sc_place_axis.nd rfl (Or.inl rfl)) (pgs_cons (pg_name (i := 10) sc_place_axis.nd rfl (Or.inl rfl)) pgs_nil)))))
      (pss_cons (ps_set (i := 11) sc_place_axis.nd rfl (Or.inl rfl) (pe_call (ok__start T) (hr.mono (by decide)) rfl T.g_start T.k_start T.b_start .nil pass0 (pa_cons (pv 0) (pa_cons (pv 1) (pa_cons (pv 2) (pa_cons (pv 3) (pa_cons (pv 4) (pa_cons (pv 5) pa_nil))))))))
      (pss_cons (ps_if (pt_val (pe_call (ok__lies_in T) (hr.mono (by decide)) rfl T.g_lies_in T.k_lies_in T.b_lies_in .nil pass0 (pa_cons (pv 11) (pa_cons (pv 4) (pa_cons (pv 6) pa_nil)))))
      (pss_one (ps_ret (pe_tup (pa_cons (pv 11) (pa_cons (pv 4) pa_nil)))))
      pss_nil)
      (C8.pss_cut (ps_if (pt_val (pv 8))
      (pss_cons (ps_set (i := 12) sc_place_axis.nd rfl (Or.inl rfl) (pe_call (ok__start T) (hr.mono (by decide)) rfl T.g_start T.k_start T.b_start .nil pass0 (pa_cons (pe_un un_neg (pv 0)) (pa_cons (pe_un un_neg (pv 1)) (pa_cons (pv 2) (pa_cons (pv 3) (pa_cons (pv 4) (pa_cons (pe_un un_neg (pv 5)) pa_nil))))))))
      (pss_one (ps_if (pt_val (pe_call (ok__lies_in T) (hr.mono (by decide)) rfl T.g_lies_in T.k_lies_in T.b_lies_in .nil pass0 (pa_cons (pv 12) (pa_cons (pv 4) (pa_cons (pv 6) pa_nil)))))
      (pss_one (ps_ret (pe_tup (pa_cons (pv 12) (pa_cons (pv 4) pa_nil)))))
      pss_nil)))
      pss_nil)
      (C8.pss_cut (ps_if (pt_val (pv 9))
      (pss_one (ps_set (i := 11) sc_place_axis.nd rfl (Or.inl rfl) (pe_call (ok__slid T) (hr.mono (by decide)) rfl T.g_slid T.k_slid T.b_slid .nil pass0 (pa_cons (pv 1) (pa_cons (pv 11) (pa_cons (pv 4) (pa_cons (pv 6) pa_nil)))))))
      pss_nil)
      (pss_cons (ps_if (PW.pt (pw_and (pt_val (pv 10)) (pw_and1 (pt_not (pt_val (pe_call (ok__lies_in T) (hr.mono (by decide)) rfl T.g_lies_in T.k_lies_in T.b_lies_in .nil pass0 (pa_cons (pv 11) (pa_cons (pv 4) (pa_cons (pv 6) pa_nil)))))))))
      (pss_cons (ps_set (i := 13) sc_place_axis.nd rfl (Or.inl rfl) (pe_call (ok_overlap_axis T) (hr.mono (by decide)) rfl T.goverlap_axis T.koverlap_axis T.boverlap_axis .nil pass0 (pa_cons (pv 11) (pa_cons (pv 4) (pa_cons (pe_ix (r := rIxT K) ix_tup (pv 6) pe_int (fun _ _ => rfl)) (pa_cons (pe_ix (r := rIxT K) ix_tup (pv 6) pe_int (fun _ _ => rfl)) pa_nil))))))
      (pss_one (ps_if (pt_cmpR op_gt (pe_ix (r := rIxT K) ix_tup (pv 13) pe_int (fun _ _ => rfl)) pe_int (nomark _))
      (pss_one (ps_ret (pv 13)))
      pss_nil)))
      pss_nil)
      (pss_one (ps_ret (pe_tup (pa_cons (pv 11) (pa_cons (pv 4) pa_nil))))))))))), ?_⟩
    walk_at "go"
    refine ⟨an, gr, bg, ln, sz, off, rfl, ?_⟩
    walk_at "go"
    refine ⟨_, sz, r0, r1, p, rfl, by walk_at "sq", ?_⟩
    unfold axisI at q
    generalize startI an gr bg ln sz off = a1 at q ⊢
    walk_at "go"
    refine if_b (fun h1 => ?_) (fun h1 => ?_)
    · rw [if_pos h1] at q
      walk_at "go"
      exact q _ _ (by walk_at "sm") upd_same
    rw [if_neg (by rw [h1]; exact Bool.false_ne_true)] at q
    refine ⟨fun σ' H' => ∃ v12 : Option V, σ' = [some (.int an), some (.int gr), some (.int bg), some (.int ln), some (.int sz), some (.int off), some (.ref p), some (.ref b), some (.bl t), some (.bl sl), some (.bl c), some (.int a1), v12, none] ∧ H' = H ∧ (t && liesI (startI (-an) (-gr) bg ln sz (-off)) sz r0 r1) = false, ?_, ?_⟩
    · walk_at "go"
      cases t with
      | false => exact if_f rfl ⟨_, rfl, rfl, rfl⟩
      | true =>
        walk_at "go"
        refine ⟨-an, -gr, bg, ln, sz, -off, rfl, ?_⟩
        walk_at "go"
        refine ⟨_, sz, r0, r1, p, rfl, by walk_at "sq", ?_⟩
        generalize startI (-an) (-gr) bg ln sz (-off) = a2 at q ⊢
        walk_at "go"
        refine if_b (fun h1 => ?_) (fun h1 => ?_)
        · rw [if_pos (by rw [h1]; rfl)] at q
          walk_at "go"
          exact q _ _ (by walk_at "sm") upd_same
        · exact ⟨_, rfl, rfl, h1⟩
    rintro σ' H' ⟨v12, rfl, rfl, h2⟩
    rw [if_neg (by rw [h2]; exact Bool.false_ne_true)] at q
    refine ⟨fun σ' H'' => σ' = [some (.int an), some (.int gr), some (.int bg), some (.int ln), some (.int sz), some (.int off), some (.ref p), some (.ref b), some (.bl t), some (.bl sl), some (.bl c), some (.int (if sl then slidI gr a1 sz r0 r1 else a1)), v12, none] ∧ H'' = H', ?_, ?_⟩
    · walk_at "go"
      cases sl with
      | false => exact if_f rfl ⟨rfl, rfl⟩
      | true =>
        walk_at "go"
        refine ⟨gr, a1, sz, r0, r1, p, rfl, by walk_at "sq", ?_⟩
        exact ⟨rfl, rfl⟩
    rintro σ' H'' ⟨rfl, rfl⟩
    generalize (if sl then slidI gr a1 sz r0 r1 else a1) = a3 at q ⊢
    walk_at "go"
    cases c with
    | false =>
      walk_at "go"
      exact q _ _ (by walk_at "sm") upd_same
    | true =>
      walk_at "go"
      refine ⟨_, sz, r0, r1, p, rfl, by walk_at "sq", ?_⟩
      cases h3 : liesI a3 sz r0 r1 with
      | true =>
        dsimp only at q
        rw [h3] at q
        walk_at "go"
        exact q _ _ (by walk_at "sm") upd_same
      | false =>
        dsimp only at q
        rw [h3] at q
        walk_at "go"
        rename_i pc Hc sc ec
        refine iteP (fun h4 => ?_) (fun h4 => ?_)
        · rw [if_pos (by rw [decide_eq_true h4]; rfl)] at q
          walk_at "go"
          exact q _ _ (by walk_at "sm") ec
        · rw [if_neg (by rw [decide_eq_false h4]; exact Bool.false_ne_true)] at q
          walk_at "go"
          exact q _ _ (by walk_at "sm") upd_same
def bitI (a : Int) (k : Nat) : Bool := decide (a / 2 ^ k % 2 = 1)
theorem bit_and (a : Int) (k : Nat) (m : Int) (e : m = 2 ^ k) : decide (V.int (Builtin.bitAnd a m) = V.int 0) = !bitI a k := by
  subst e
  rw [PySem.W.kbt_bit]
  have h0 : (0 : Int) < 2 ^ k := PySem.W.kbt_pos k
  unfold bitI
  have h2 : a / 2 ^ k % 2 = 0 ∨ a / 2 ^ k % 2 = 1 := by omega
  rcases h2 with h | h
  · rw [h, Int.zero_mul]; rfl
  · rw [h, Int.one_mul]
    have : ¬ V.int (2 ^ k) = V.int 0 := fun z => by injection z with z; omega
    rw [decide_eq_false this]
    rfl
def sp_place_popup (K : PySem.W.Frag) : Sp := fun vs H Q _ => ∃ (ax ay aw ah nx ny gx gy w h dx dy ad r0 r1 r2 r3 : Int) (p r : Addr), vs = [.ref p, .ref r] ∧
  SqT K H p [.int ax, .int ay, .int aw, .int ah, .int nx, .int ny, .int gx, .int gy, .int w, .int h, .int dx, .int dy, .int ad] ∧ SqT K H r [.int r0, .int r1, .int r2, .int r3] ∧
  RetT H Q [.int (axisI nx gx ax aw w dx r0 r2 (bitI ad 0) (bitI ad 2) (bitI ad 4)).1, .int (axisI ny gy ay ah h dy r1 r3 (bitI ad 1) (bitI ad 3) (bitI ad 5)).1, .int (axisI nx gx ax aw w dx r0 r2 (bitI ad 0) (bitI ad 2) (bitI ad 4)).2, .int (axisI ny gy ay ah h dy r1 r3 (bitI ad 1) (bitI ad 3) (bitI ad 5)).2]
theorem sc_place_popup : FnScope ["positioner", "room", "ax", "ay", "aw", "ah", "anchor_x", "anchor_y", "gravity_x", "gravity_y", "width", "height", "dx", "dy", "adjust", "sideways", "upright", "x", "placed_width", "y", "placed_height"] ["positioner", "room"] (defScope s_place_popup) := ⟨rfl, rfl, rfl, by decide +kernel, rfl, by decide +kernel, by decide +kernel⟩
theorem ok_place_popup (T : Txt K mg A) : FnOk P w K mg base CX0 3 A.fplace_popup A.dplace_popup ["positioner", "room"] (sp_place_popup K) := by
  refine T.Fplace_popup.ok sc_place_popup (fun vs H Q E h => ?_) (fun cdv Ar outer s H vs Q E hr h => ?_)
  · obtain ⟨_, _, _, _, _, _, _, _, _, _, _, _, _, _, _, _, _, _, _, rfl, _⟩ := h
    rfl
  · obtain ⟨ax, ay, aw, ah, nx, ny, gx, gy, wd, ht, dx, dy, ad, r0, r1, r2, r3, p, r, rfl, hp, hr4, q⟩ := h
    refine ⟨_, (C8.pss_cut (ps_asg (pv 0) (pg_tup rfl (pgs_cons (pg_name (i := 2) sc_place_popup.nd rfl (Or.inl rfl)) (pgs_cons (pg_name (i := 3) sc_place_popup.nd rfl (Or.inl rfl)) (pgs_cons (pg_name (i := 4) sc_place_popup.nd rfl (Or.inl rfl)) (pgs_cons (pg_name (i := 5) sc_place_popup.nd rfl (Or.inl rfl)) (pgs_cons (pg_name (i := 6) sc_place_popup.nd rfl (Or.inl rfl)) (pgs_cons (pg_name (i := 7) sc_place_popup.nd rfl (Or.inl rfl)) (pgs_cons (pg_name (i := 8) sc_place_popup.nd rfl (Or.inl rfl)) (pgs_cons (pg_name (i := 9) sc_place_popup.nd rfl (Or.inl rfl)) (pgs_cons (pg_name (i := 10) sc_place_popup.nd rfl (Or.inl rfl)) (pgs_cons (pg_name (i := 11) sc_place_popup.nd rfl (Or.inl rfl)) (pgs_cons (pg_name (i := 12) sc_place_popup.nd rfl (Or.inl rfl)) (pgs_cons (pg_name (i := 13) sc_place_popup.nd rfl (Or.inl rfl)) (pgs_cons (pg_name (i := 14) sc_place_popup.nd rfl (Or.inl rfl)) pgs_nil)))))))))))))))
      (pss_cons (ps_set (i := 15) sc_place_popup.nd rfl (Or.inl rfl) (pe_tup (pa_cons (pe_cmpR op_ne (pe_op op_and (pv 14) pe_int) pe_int (nomark _)) (pa_cons (pe_cmpR op_ne (pe_op op_and (pv 14) pe_int) pe_int (nomark _)) (pa_cons (pe_cmpR op_ne (pe_op op_and (pv 14) pe_int) pe_int (nomark _)) pa_nil)))))
      (C8.pss_cut (ps_set (i := 16) sc_place_popup.nd rfl (Or.inl rfl) (pe_tup (pa_cons (pe_cmpR op_ne (pe_op op_and (pv 14) pe_int) pe_int (nomark _)) (pa_cons (pe_cmpR op_ne (pe_op op_and (pv 14) pe_int) pe_int (nomark _)) (pa_cons (pe_cmpR op_ne (pe_op op_and (pv 14) pe_int) pe_int (nomark _)) pa_nil)))))
      (pss_cons (ps_asg (pe_call (ok_place_axis T) (hr.mono (by decide)) rfl T.gplace_axis T.kplace_axis T.bplace_axis .nil pass0 (pa_cons (pv 6) (pa_cons (pv 8) (pa_cons (pv 2) (pa_cons (pv 4) (pa_cons (pv 10) (pa_cons (pv 12) (pa_cons (pe_tup (pa_cons (pe_ix (r := rIxT K) ix_tup (pv 1) pe_int (fun _ _ => rfl)) (pa_cons (pe_ix (r := rIxT K) ix_tup (pv 1) pe_int (fun _ _ => rfl)) pa_nil))) (pa_cons (pv 15) pa_nil))))))))) (pg_tup rfl (pgs_cons (pg_name (i := 17) sc_place_popup.nd rfl (Or.inl rfl)) (pgs_cons (pg_name (i := 18) sc_place_popup.nd rfl (Or.inl rfl)) pgs_nil))))
      (pss_cons (ps_asg (pe_call (ok_place_axis T) (hr.mono (by decide)) rfl T.gplace_axis T.kplace_axis T.bplace_axis .nil pass0 (pa_cons (pv 7) (pa_cons (pv 9) (pa_cons (pv 3) (pa_cons (pv 5) (pa_cons (pv 11) (pa_cons (pv 13) (pa_cons (pe_tup (pa_cons (pe_ix (r := rIxT K) ix_tup (pv 1) pe_int (fun _ _ => rfl)) (pa_cons (pe_ix (r := rIxT K) ix_tup (pv 1) pe_int (fun _ _ => rfl)) pa_nil))) (pa_cons (pv 16) pa_nil))))))))) (pg_tup rfl (pgs_cons (pg_name (i := 19) sc_place_popup.nd rfl (Or.inl rfl)) (pgs_cons (pg_name (i := 20) sc_place_popup.nd rfl (Or.inl rfl)) pgs_nil))))
      (pss_one (ps_ret (pe_tup (pa_cons (pv 17) (pa_cons (pv 19) (pa_cons (pv 18) (pa_cons (pv 20) pa_nil)))))))))))), ?_⟩
    refine ⟨fun σ' H' => σ' = [some (.ref p), some (.ref r), some (.int ax), some (.int ay), some (.int aw), some (.int ah), some (.int nx), some (.int ny), some (.int gx), some (.int gy), some (.int wd), some (.int ht), some (.int dx), some (.int dy), some (.int ad), none, none, none, none, none, none] ∧ H' = H, ?_, ?_⟩
    · iterate 15 walk_at "go1"
      exact ⟨rfl, rfl⟩
    rintro σ' H' ⟨rfl, rfl⟩
    refine ⟨_, rfl, _, _, rfl, rfl, rfl, _, rfl, _, _, rfl, rfl, rfl, _, rfl, _, _, rfl, rfl, rfl, len_line (by show 3 ≤ 100000; decide), fun p1 h1 => ?_⟩
    rw [bit_and ad 0 1 (by decide), bit_and ad 2 4 (by decide), bit_and ad 4 16 (by decide)]
    refine ⟨fun σ' H'' => ∃ p1 p2 : Addr, σ' = [some (.ref p), some (.ref r), some (.int ax), some (.int ay), some (.int aw), some (.int ah), some (.int nx), some (.int ny), some (.int gx), some (.int gy), some (.int wd), some (.int ht), some (.int dx), some (.int dy), some (.int ad), some (.ref p1), some (.ref p2), none, none, none, none] ∧
      Same H' H'' ∧ H'' p1 = some (.tup [.bl (bitI ad 0), .bl (bitI ad 2), .bl (bitI ad 4)]) ∧ H'' p2 = some (.tup [.bl (bitI ad 1), .bl (bitI ad 3), .bl (bitI ad 5)]), ?_, ?_⟩
    · refine ⟨_, rfl, _, _, rfl, rfl, rfl, _, rfl, _, _, rfl, rfl, rfl, _, rfl, _, _, rfl, rfl, rfl, len_line (by show 3 ≤ 100000; decide), fun p2 h2 => ?_⟩
      rw [bit_and ad 1 2 (by decide), bit_and ad 3 8 (by decide), bit_and ad 5 32 (by decide)]
      simp only [Bool.not_not] at h2 ⊢
      exact ⟨p1, p2, rfl, (same_upd h1).trans (same_upd h2), by rw [upd_ne (ne_of_none upd_same h2)]; exact upd_same, upd_same⟩
    rintro σ' H2 ⟨p1, p2, rfl, s2, e1, e2⟩
    have hr2 := s2.sqt hr4
    have hb1 : SqT K H2 p1 _ := SqT.of e1
    have hb2 : SqT K H2 p2 _ := SqT.of e2
    walk_at "go"
    refine ⟨nx, gx, ax, aw, wd, dx, r0, r2, _, _, _, _, p1, rfl, by walk_at "sq", by walk_at "sq", ?_⟩
    walk_at "go"
    refine ⟨ny, gy, ay, ah, ht, dy, r1, r3, _, _, _, _, p2, rfl, by walk_at "sq", by walk_at "sq", ?_⟩
    walk_at "go"
    exact q _ _ (by walk_at "sm") upd_same
def sp__law_point (K : PySem.W.Frag) : Sp := fun vs H Q _ => ∃ an bg ln : Int, vs = [.int an, .int bg, .int ln] ∧ Q (.int (ptI an bg ln)) H
theorem sc__law_point : FnScope ["sign", "begin", "length"] ["sign", "begin", "length"] (defScope s__law_point) := ⟨rfl, rfl, rfl, by decide +kernel, rfl, by decide +kernel, by decide +kernel⟩
theorem ok__law_point (T : Txt K mg A) : FnOk P w K mg base CX0 1 A.f_law_point A.d_law_point ["sign", "begin", "length"] (sp__law_point K) := by
  refine T.F_law_point.ok sc__law_point (fun vs H Q E h => ?_) (fun cdv Ar outer s H vs Q E hr h => ?_)
  · obtain ⟨_, _, _, rfl, _⟩ := h
    rfl
  · obtain ⟨an, bg, ln, rfl, q⟩ := h
    refine ⟨_, (pss_cons (ps_if (pt_cmpR op_eq (pv 0) pe_int (nomark _))
      (pss_one (ps_ret (pe_op op_add (pv 1) (pe_op op_fdiv (pv 2) pe_int))))
      pss_nil)
      (pss_cons (ps_if (pt_cmpR op_gt (pv 0) pe_int (nomark _))
      (pss_one (ps_ret (pe_op op_add (pv 1) (pv 2))))
      pss_nil)
      (pss_one (ps_ret (pv 1))))), ?_⟩
    unfold ptI at q
    walk_at "go"
    refine iteEq (fun h => ?_) (fun h => ?_)
    · rw [if_pos h] at q; walk_at "go"; exact q
    · rw [if_neg h] at q; walk_at "go"
      refine iteP (fun h => ?_) (fun h => ?_)
      · rw [if_pos h] at q; walk_at "go"; exact q
      · rw [if_neg h] at q; walk_at "go"; exact q
def sp__law_begin (K : PySem.W.Frag) : Sp := fun vs H Q _ => ∃ an gr bg ln sz off : Int, vs = [.int an, .int gr, .int bg, .int ln, .int sz, .int off] ∧ Q (.int (startI an gr bg ln sz off)) H
theorem sc__law_begin : FnScope ["anchor", "gravity", "begin", "length", "size", "offset", "point"] ["anchor", "gravity", "begin", "length", "size", "offset"] (defScope s__law_begin) := ⟨rfl, rfl, rfl, by decide +kernel, rfl, by decide +kernel, by decide +kernel⟩
theorem ok__law_begin (T : Txt K mg A) : FnOk P w K mg base CX0 2 A.f_law_begin A.d_law_begin ["anchor", "gravity", "begin", "length", "size", "offset"] (sp__law_begin K) := by
  refine T.F_law_begin.ok sc__law_begin (fun vs H Q E h => ?_) (fun cdv Ar outer s H vs Q E hr h => ?_)
  · obtain ⟨_, _, _, _, _, _, rfl, _⟩ := h
    rfl
  · obtain ⟨an, gr, bg, ln, sz, off, rfl, q⟩ := h
    refine ⟨_, (pss_cons (ps_set (i := 6) sc__law_begin.nd rfl (Or.inl rfl) (pe_op op_add (pe_call (ok__law_point T) (hr.mono (by decide)) rfl T.g_law_point T.k_law_point T.b_law_point .nil pass0 (pa_cons (pv 0) (pa_cons (pv 2) (pa_cons (pv 3) pa_nil)))) (pv 5)))
      (pss_cons (ps_if (pt_cmpR op_gt (pv 1) pe_int (nomark _))
      (pss_one (ps_ret (pv 6)))
      pss_nil)
      (pss_cons (ps_if (pt_cmpR op_eq (pv 1) pe_int (nomark _))
      (pss_one (ps_ret (pe_op op_sub (pv 6) (pe_op op_fdiv (pv 4) pe_int))))
      pss_nil)
      (pss_one (ps_ret (pe_op op_sub (pv 6) (pv 4))))))), ?_⟩
    walk_at "go"
    have fin : ∀ z : Int, z = startI an gr bg ln sz off → Q (.int z) H := by rintro z rfl; exact q
    unfold startI bkI at fin
    generalize ptI an bg ln = pt at fin ⊢
    refine iteP (fun h => ?_) (fun h => ?_)
    · walk_at "go"; exact fin _ (by rw [if_neg (by omega), if_neg (by omega)]; omega)
    · walk_at "go"
      refine iteEq (fun h => ?_) (fun h => ?_)
      · walk_at "go"; exact fin _ (by rw [if_neg (by omega), if_pos (by omega)]; omega)
      · walk_at "go"; exact fin _ (by rw [if_pos (by omega)]; omega)
def sp__law_lies (K : PySem.W.Frag) : Sp := fun vs H Q _ => ∃ (bg ln r0 r1 : Int) (p : Addr), vs = [.int bg, .int ln, .ref p] ∧ SqT K H p [.int r0, .int r1] ∧ Q (.bl (liesI bg ln r0 r1)) H
theorem sc__law_lies : FnScope ["begin", "size", "room"] ["begin", "size", "room"] (defScope s__law_lies) := ⟨rfl, rfl, rfl, by decide +kernel, rfl, by decide +kernel, by decide +kernel⟩
theorem ok__law_lies (T : Txt K mg A) : FnOk P w K mg base CX0 1 A.f_law_lies A.d_law_lies ["begin", "size", "room"] (sp__law_lies K) := by
  refine T.F_law_lies.ok sc__law_lies (fun vs H Q E h => ?_) (fun cdv Ar outer s H vs Q E hr h => ?_)
  · obtain ⟨_, _, _, _, _, rfl, _⟩ := h
    rfl
  · obtain ⟨bg, ln, r0, r1, p, rfl, hp, q⟩ := h
    refine ⟨_, (pss_one (ps_ret (pe_and (pe_cmpR op_ge (pv 0) (pe_ix (r := rIxT K) ix_tup (pv 2) pe_int (fun _ _ => rfl)) (nomark _)) (pe_one (pe_cmpR op_le (pe_op op_add (pv 0) (pv 1)) (pe_op op_add (pe_ix (r := rIxT K) ix_tup (pv 2) pe_int (fun _ _ => rfl)) (pe_ix (r := rIxT K) ix_tup (pv 2) pe_int (fun _ _ => rfl))) (nomark _)))))), ?_⟩
    walk_at "go"
    unfold liesI at q
    refine iteP (fun h => ?_) (fun h => ?_)
    · rw [decide_eq_true h] at q
      walk_at "go"
      exact q
    · rw [decide_eq_false h] at q
      exact q
def stR (r0 b : Int) : Int := if b < r0 then r0 else b
def stL (sz r0 r1 b : Int) : Int := if r0 + r1 < b + sz then r0 + r1 - sz else b
theorem slid_st (gr bg sz r0 r1 : Int) : slidI gr bg sz r0 r1 = if gr < 0 then stL sz r0 r1 (stR r0 bg) else stR r0 (stL sz r0 r1 bg) := by
  unfold slidI stL stR mn mx
  split
  · split <;> split <;> first | omega | (split <;> omega)
  · split <;> split <;> first | omega | (split <;> omega)
def sp__law_slid (K : PySem.W.Frag) : Sp := fun vs H Q _ => ∃ (gr bg sz r0 r1 : Int) (p : Addr), vs = [.int bg, .int sz, .int gr, .ref p] ∧ SqT K H p [.int r0, .int r1] ∧ ∀ H', Same H H' → Q (.int (slidI gr bg sz r0 r1)) H'
def stS (sz r0 r1 : Int) (s : Str) (b : Int) : Int := if s = "right" then stR r0 b else stL sz r0 r1 b
theorem sc__law_slid : FnScope ["begin", "size", "gravity", "room", "steps", "step"] ["begin", "size", "gravity", "room"] (defScope s__law_slid) := ⟨rfl, rfl, rfl, by decide +kernel, rfl, by decide +kernel, by decide +kernel⟩
theorem ok__law_slid (T : Txt K mg A) : FnOk P w K mg base CX0 1 A.f_law_slid A.d_law_slid ["begin", "size", "gravity", "room"] (sp__law_slid K) := by
  refine T.F_law_slid.ok sc__law_slid (fun vs H Q E h => ?_) (fun cdv Ar outer s H vs Q E hr h => ?_)
  · obtain ⟨_, _, _, _, _, _, rfl, _⟩ := h
    rfl
  · obtain ⟨gr, bg, sz, r0, r1, p, rfl, hp, q⟩ := h
    refine ⟨_, (pss_cons (ps_set (i := 4) sc__law_slid.nd rfl (Or.inl rfl) (pe_tup (pa_cons pe_str (pa_cons pe_str pa_nil))))
      (C8.pss_cut (ps_if (pt_cmpR op_lt (pv 2) pe_int (nomark _))
      (pss_one (ps_set (i := 4) sc__law_slid.nd rfl (Or.inl rfl) (pe_tup (pa_cons pe_str (pa_cons pe_str pa_nil)))))
      pss_nil)
      (pss_cons (ps_for PassesOwn.never rfl (pi_tup (pv 4)) (pg_name (i := 5) sc__law_slid.nd rfl (Or.inl rfl))
      (C8.pss_cut (ps_if (PW.pt (pw_and (pt_cmpR op_eq (pv 5) pe_str (nomark _)) (pw_and1 (pt_cmpR op_lt (pv 0) (pe_ix (r := rIxT K) ix_tup (pv 3) pe_int (fun _ _ => rfl)) (nomark _)))))
      (pss_one (ps_set (i := 0) sc__law_slid.nd rfl (Or.inl rfl) (pe_ix (r := rIxT K) ix_tup (pv 3) pe_int (fun _ _ => rfl))))
      pss_nil)
      (pss_one (ps_if (PW.pt (pw_and (pt_cmpR op_eq (pv 5) pe_str (nomark _)) (pw_and1 (pt_cmpR op_gt (pe_op op_add (pv 0) (pv 1)) (pe_op op_add (pe_ix (r := rIxT K) ix_tup (pv 3) pe_int (fun _ _ => rfl)) (pe_ix (r := rIxT K) ix_tup (pv 3) pe_int (fun _ _ => rfl))) (nomark _)))))
      (pss_one (ps_set (i := 0) sc__law_slid.nd rfl (Or.inl rfl) (pe_op op_sub (pe_op op_add (pe_ix (r := rIxT K) ix_tup (pv 3) pe_int (fun _ _ => rfl)) (pe_ix (r := rIxT K) ix_tup (pv 3) pe_int (fun _ _ => rfl))) (pv 1))))
      pss_nil))))
      (pss_one (ps_ret (pv 0)))))), ?_⟩
    walk_at "go"
    refine ⟨fun σ' H' => ∃ (t : Addr) (s1 s2 : Str), σ' = [some (.int bg), some (.int sz), some (.int gr), some (.ref p), some (.ref t), none] ∧ Same H H' ∧ H' t = some (.tup [.str s1, .str s2]) ∧ ((s1 = "left" ∧ s2 = "right" ∧ ¬ gr < 0) ∨ (s1 = "right" ∧ s2 = "left" ∧ gr < 0)), ?_, ?_⟩
    · walk_at "go"
      refine iteP (fun h => ?_) (fun h => ?_)
      · walk_at "go"
        exact ⟨_, _, _, rfl, by walk_at "sm", upd_same, .inr ⟨rfl, rfl, h⟩⟩
      · exact ⟨_, _, _, rfl, by walk_at "sm", upd_same, .inl ⟨rfl, rfl, h⟩⟩
    rintro σ' H2 ⟨t, s1, s2, rfl, s2', e2, hs⟩
    have hp2 := s2'.sqt hp
    have fin : ∀ H', Same H2 H' → Q (.int (stS sz r0 r1 s2 (stS sz r0 r1 s1 bg))) H' := by
      intro H' s'
      have h := q H' (s2'.trans s')
      rw [slid_st] at h
      have n1 : ¬ (("left" : Str) = "right") := by decide +kernel
      rcases hs with ⟨rfl, rfl, hg⟩ | ⟨rfl, rfl, hg⟩
      · rw [if_neg hg] at h; unfold stS; rw [if_pos rfl, if_neg n1]; exact h
      · rw [if_pos hg] at h; unfold stS; rw [if_neg n1, if_pos rfl]; exact h
    have hs2 : ∀ (j : Nat) (s : Str), ([.str s1, .str s2] : List V)[j]? = some (V.str s) → s = "right" ∨ s = "left" := by
      intro j s h
      have hm := List.mem_of_getElem? h
      simp only [List.mem_cons, List.not_mem_nil, or_false] at hm
      rcases hs with ⟨rfl, rfl, hg⟩ | ⟨rfl, rfl, hg⟩ <;> rcases hm with h | h <;> injection h with h <;> subst h <;> first | exact .inl rfl | exact .inr rfl
    refine ⟨_, rfl, t, rfl, ⟨_, SqT.of e2⟩, for_tup (K := K) (a := t) (xs := [.str s1, .str s2]) (fun j σ H' => ∃ v5 : Option V, σ = [some (.int (if j = 0 then bg else if j = 1 then stS sz r0 r1 s1 bg else stS sz r0 r1 s2 (stS sz r0 r1 s1 bg))), some (.int sz), some (.int gr), some (.ref p), some (.ref t), v5] ∧ H' = H2) ⟨_, rfl, rfl⟩ (fun j σ H' _ ⟨_, _, h⟩ => by rw [h]; exact SqT.of e2) ?_ ?_⟩
    · rintro j x σ H' hx ⟨v5, rfl, rfl⟩
      obtain ⟨s, rfl, en⟩ : ∃ s, x = .str s ∧ (if j + 1 = 0 then bg else if j + 1 = 1 then stS sz r0 r1 s1 bg else stS sz r0 r1 s2 (stS sz r0 r1 s1 bg)) = stS sz r0 r1 s (if j = 0 then bg else if j = 1 then stS sz r0 r1 s1 bg else stS sz r0 r1 s2 (stS sz r0 r1 s1 bg)) := by
        have hl := (List.getElem?_eq_some_iff.mp hx).1
        simp only [List.length_cons, List.length_nil] at hl
        rcases (by omega : j = 0 ∨ j = 1) with rfl | rfl
        · injection hx with hx; exact ⟨_, hx.symm, rfl⟩
        · injection hx with hx; exact ⟨_, hx.symm, rfl⟩
      rw [en]
      generalize (if j = 0 then bg else if j = 1 then stS sz r0 r1 s1 bg else stS sz r0 r1 s2 (stS sz r0 r1 s1 bg)) = b
      have hv := hs2 j s hx
      have n1 : ¬ (V.str "left" = V.str "right") := by decide +kernel
      have n2 : ¬ (V.str "right" = V.str "left") := by decide +kernel
      refine ⟨fun σ' H2 => σ' = [some (.int (if s = "right" then stR r0 b else b)), some (.int sz), some (.int gr), some (.ref p), some (.ref t), some (.str s)] ∧ H2 = H', ?_, ?_⟩
      · rcases hv with rfl | rfl
        · refine ⟨_, rfl, rfl, _, rfl, if_t (decide_eq_true rfl) ?_⟩
          walk_at "go"
          rw [if_pos rfl]; unfold stR
          refine iteP (fun h => ?_) (fun h => ?_)
          · rw [if_pos h]; walk_at "go"; first | rfl | exact ⟨rfl, rfl⟩
          · rw [if_neg h]; exact ⟨rfl, rfl⟩
        · refine ⟨_, rfl, rfl, _, rfl, if_f (decide_eq_false n1) ?_⟩
          exact ⟨rfl, rfl⟩
      rintro σ' H3 ⟨rfl, rfl⟩
      rcases hv with rfl | rfl
      · refine ⟨_, rfl, rfl, _, rfl, if_f (decide_eq_false n2) ?_⟩
        exact ⟨_, rfl, rfl⟩
      · refine ⟨_, rfl, rfl, _, rfl, if_t (decide_eq_true rfl) ?_⟩
        walk_at "go"
        have e7 : stS sz r0 r1 "left" b = stL sz r0 r1 b := by unfold stS; rw [if_neg fun z => n1 (congrArg V.str z)]
        have e8 : (if ("left" : Str) = "right" then stR r0 b else b) = b := if_neg fun z => n1 (congrArg V.str z)
        rw [e7, e8]; unfold stL
        refine iteP (fun h => ?_) (fun h => ?_)
        · rw [if_pos h]; walk_at "go"; first | exact rfl | exact ⟨_, rfl, rfl⟩
        · rw [if_neg h]; exact ⟨_, rfl, rfl⟩
    · rintro σ H' ⟨v5, rfl, rfl⟩
      exact ⟨_, rfl, fin _ (Same.refl _)⟩
theorem fm_part (a lo hi : Int) (n : Nat) : fm (fun i => if lo ≤ a + (i : Int) ∧ a + (i : Int) < hi then some (PyData.int (a + (i : Int))) else none) n = (List.range (mx (mn (a + n) hi - mx a lo) 0).toNat).map (fun j : Nat => PyData.int (mx a lo + (j : Int))) := by
  induction n with
  | zero =>
    have : (mx (mn (a + (0 : Nat)) hi - mx a lo) 0).toNat = 0 := by unfold mx mn; split <;> split <;> (try split) <;> (try split) <;> omega
    rw [this]; rfl
  | succ n ih =>
    rw [fm_succ, ih]
    by_cases h : lo ≤ a + (n : Int) ∧ a + (n : Int) < hi
    · rw [if_pos h]
      have e : (mx (mn (a + ((n + 1 : Nat) : Int)) hi - mx a lo) 0).toNat = (mx (mn (a + (n : Int)) hi - mx a lo) 0).toNat + 1 := by
        unfold mx mn; repeat' split
        all_goals omega
      have e2 : mx a lo + ((mx (mn (a + (n : Int)) hi - mx a lo) 0).toNat : Int) = a + n := by
        unfold mx mn; repeat' split
        all_goals omega
      rw [e, List.range_succ, List.map_append]
      show _ ++ [PyData.int (a + n)] = _ ++ [PyData.int (mx a lo + _)]
      rw [e2]
    · rw [if_neg h]
      have e : (mx (mn (a + ((n + 1 : Nat) : Int)) hi - mx a lo) 0).toNat = (mx (mn (a + (n : Int)) hi - mx a lo) 0).toNat := by
        unfold mx mn; repeat' split
        all_goals omega
      rw [e]
      exact List.append_nil _
def sp__law_axis (K : PySem.W.Frag) : Sp := fun vs H Q _ => ∃ (an gr bg ln sz off r0 r1 : Int) (t s c : Bool) (p b : Addr), vs = [.int an, .int gr, .int bg, .int ln, .int sz, .int off, .ref p, .ref b] ∧ SqT K H p [.int r0, .int r1] ∧ SqT K H b [.bl t, .bl s, .bl c] ∧
  (-1000 ≤ bg ∧ bg ≤ 1000 ∧ 0 ≤ ln ∧ ln ≤ 1000 ∧ 0 ≤ sz ∧ sz ≤ 1000 ∧ -1000 ≤ off ∧ off ≤ 1000 ∧ -1000 ≤ r0 ∧ r0 ≤ 1000 ∧ 0 ≤ r1 ∧ r1 ≤ 1000) ∧ RetT H Q (pairV (axisI an gr bg ln sz off r0 r1 t s c))
theorem startI_b {an gr bg ln sz off : Int} (h : -1000 ≤ bg ∧ bg ≤ 1000 ∧ 0 ≤ ln ∧ ln ≤ 1000 ∧ 0 ≤ sz ∧ sz ≤ 1000 ∧ -1000 ≤ off ∧ off ≤ 1000) : -10000 ≤ startI an gr bg ln sz off ∧ startI an gr bg ln sz off ≤ 10000 := by
  unfold startI ptI bkI
  repeat' split
  all_goals omega
theorem sc__law_axis : FnScope ["anchor", "gravity", "begin", "length", "size", "offset", "room", "bits", "at", "other", "places", "x"] ["anchor", "gravity", "begin", "length", "size", "offset", "room", "bits"] (defScope s__law_axis) := ⟨rfl, rfl, rfl, by decide +kernel, rfl, by decide +kernel, by decide +kernel⟩
theorem ok__law_axis (T : Txt K mg A) : FnOk P w K mg base CX0 3 A.f_law_axis A.d_law_axis ["anchor", "gravity", "begin", "length", "size", "offset", "room", "bits"] (sp__law_axis K) := by
  refine T.F_law_axis.ok sc__law_axis (fun vs H Q E h => ?_) (fun cdv Ar outer s H vs Q E hr h => ?_)
  · obtain ⟨_, _, _, _, _, _, _, _, _, _, _, _, _, rfl, _⟩ := h
    rfl
  · obtain ⟨an, gr, bg, ln, sz, off, r0, r1, t, sl, c, p, b, rfl, hp, hb, hbd, q⟩ := h
    refine ⟨_, (pss_cons (ps_set (i := 8) sc__law_axis.nd rfl (Or.inl rfl) (pe_call (ok__law_begin T) (hr.mono (by decide)) rfl T.g_law_begin T.k_law_begin T.b_law_begin .nil pass0 (pa_cons (pv 0) (pa_cons (pv 1) (pa_cons (pv 2) (pa_cons (pv 3) (pa_cons (pv 4) (pa_cons (pv 5) pa_nil))))))))
      (pss_cons (ps_if (pt_val (pe_call (ok__law_lies T) (hr.mono (by decide)) rfl T.g_law_lies T.k_law_lies T.b_law_lies .nil pass0 (pa_cons (pv 8) (pa_cons (pv 4) (pa_cons (pv 6) pa_nil)))))
      (pss_one (ps_ret (pe_tup (pa_cons (pv 8) (pa_cons (pv 4) pa_nil)))))
      pss_nil)
      (C8.pss_cut (ps_if (pt_val (pe_ix (r := rIxT K) ix_tup (pv 7) pe_int (fun _ _ => rfl)))
      (pss_cons (ps_set (i := 9) sc__law_axis.nd rfl (Or.inl rfl) (pe_call (ok__law_begin T) (hr.mono (by decide)) rfl T.g_law_begin T.k_law_begin T.b_law_begin .nil pass0 (pa_cons (pe_op op_sub pe_int (pv 0)) (pa_cons (pe_op op_sub pe_int (pv 1)) (pa_cons (pv 2) (pa_cons (pv 3) (pa_cons (pv 4) (pa_cons (pe_op op_sub pe_int (pv 5)) pa_nil))))))))
      (pss_one (ps_if (pt_val (pe_call (ok__law_lies T) (hr.mono (by decide)) rfl T.g_law_lies T.k_law_lies T.b_law_lies .nil pass0 (pa_cons (pv 9) (pa_cons (pv 4) (pa_cons (pv 6) pa_nil)))))
      (pss_one (ps_ret (pe_tup (pa_cons (pv 9) (pa_cons (pv 4) pa_nil)))))
      pss_nil)))
      pss_nil)
      (C8.pss_cut (ps_if (pt_val (pe_ix (r := rIxT K) ix_tup (pv 7) pe_int (fun _ _ => rfl)))
      (pss_cons (ps_set (i := 8) sc__law_axis.nd rfl (Or.inl rfl) (pe_call (ok__law_slid T) (hr.mono (by decide)) rfl T.g_law_slid T.k_law_slid T.b_law_slid .nil pass0 (pa_cons (pv 8) (pa_cons (pv 4) (pa_cons (pv 1) (pa_cons (pv 6) pa_nil))))))
      (pss_one (ps_if (pt_val (pe_call (ok__law_lies T) (hr.mono (by decide)) rfl T.g_law_lies T.k_law_lies T.b_law_lies .nil pass0 (pa_cons (pv 8) (pa_cons (pv 4) (pa_cons (pv 6) pa_nil)))))
      (pss_one (ps_ret (pe_tup (pa_cons (pv 8) (pa_cons (pv 4) pa_nil)))))
      pss_nil)))
      pss_nil)
      (pss_cons (ps_if (pt_val (pe_ix (r := rIxT K) ix_tup (pv 7) pe_int (fun _ _ => rfl)))
      (pss_cons (ps_setLc (i := 10) (own := [("x", 11)]) (g := (gName 11)) rfl sc__law_axis.nd rfl rfl (sw_true rfl rfl rfl (by decide +kernel)) (pi_range2 (by rfl) T.range (pa_cons (pv 8) (pa_cons (pe_op op_add (pv 8) (pv 4)) pa_nil))) (blkOk_by (own := [("x", 11)]) (N := ["anchor", "gravity", "begin", "length", "size", "offset", "room", "bits", "at", "other", "places", "x"]) (sc := defScope s__law_axis) (by decide +kernel)) (fun _ _ _ _ _ => (pg_name (i := 11) sc__law_axis.nd rfl (Or.inl rfl))) (fun _ _ _ _ _ => (pts_one (pt_chain op_le op_lt (pe_ix (r := rIxT K) ix_tup (pv 6) pe_int (fun _ _ => rfl)) (pv 11) (pe_op op_add (pe_ix (r := rIxT K) ix_tup (pv 6) pe_int (fun _ _ => rfl)) (pe_ix (r := rIxT K) ix_tup (pv 6) pe_int (fun _ _ => rfl)))))) (fun _ _ _ _ _ => by exact (pv 11)))
      (pss_one (ps_if (pt_cmpR (op_neD hr.units) (pv 10) (pe_lst pa_nil) (nomark _))
      (pss_one (ps_ret (pe_tup (pa_cons (pe_ix (r := rIxL K) ix_list (pv 10) pe_int (fun _ _ => rfl)) (pa_cons (pe_callB call_len_seq (by rfl) T.len PySem.boot_len (pa_cons (pv 10) pa_nil)) pa_nil)))))
      pss_nil)))
      pss_nil)
      (pss_one (ps_ret (pe_tup (pa_cons (pv 8) (pa_cons (pv 4) pa_nil)))))))))), ?_⟩
    walk_at "go"
    refine ⟨an, gr, bg, ln, sz, off, rfl, ?_⟩
    walk_at "go"
    refine ⟨_, sz, r0, r1, p, rfl, by walk_at "sq", ?_⟩
    unfold axisI at q
    have hb1 := startI_b (an := an) (gr := gr) (bg := bg) (ln := ln) (sz := sz) (off := off) (by omega)
    generalize startI an gr bg ln sz off = a1 at q hb1 ⊢
    walk_at "go"
    refine if_b (fun h1 => ?_) (fun h1 => ?_)
    · rw [if_pos h1] at q
      walk_at "go"
      exact q _ _ (by walk_at "sm") upd_same
    rw [if_neg (by rw [h1]; exact Bool.false_ne_true)] at q
    refine ⟨fun σ' H' => ∃ v9 : Option V, σ' = [some (.int an), some (.int gr), some (.int bg), some (.int ln), some (.int sz), some (.int off), some (.ref p), some (.ref b), some (.int a1), v9, none, none] ∧ H' = H ∧ (t && liesI (startI (-an) (-gr) bg ln sz (-off)) sz r0 r1) = false, ?_, ?_⟩
    · walk_at "go"
      cases t with
      | false => exact if_f rfl ⟨_, rfl, rfl, rfl⟩
      | true =>
        walk_at "go"
        refine ⟨-an, -gr, bg, ln, sz, -off, by show [V.int (0 - an), V.int (0 - gr), V.int bg, V.int ln, V.int sz, V.int (0 - off)] = _; rw [Int.zero_sub, Int.zero_sub, Int.zero_sub], ?_⟩
        walk_at "go"
        refine ⟨_, sz, r0, r1, p, rfl, by walk_at "sq", ?_⟩
        generalize startI (-an) (-gr) bg ln sz (-off) = a2 at q ⊢
        walk_at "go"
        refine if_b (fun h1 => ?_) (fun h1 => ?_)
        · rw [if_pos (by rw [h1]; rfl)] at q
          walk_at "go"
          exact q _ _ (by walk_at "sm") upd_same
        · exact ⟨_, rfl, rfl, h1⟩
    rintro σ' H' ⟨v9, rfl, rfl, h2⟩
    rw [if_neg (by rw [h2]; exact Bool.false_ne_true)] at q
    refine ⟨fun σ' H'' => σ' = [some (.int an), some (.int gr), some (.int bg), some (.int ln), some (.int sz), some (.int off), some (.ref p), some (.ref b), some (.int (if sl then slidI gr a1 sz r0 r1 else a1)), v9, none, none] ∧ Same H' H'' ∧ liesI (if sl then slidI gr a1 sz r0 r1 else a1) sz r0 r1 = false, ?_, ?_⟩
    · walk_at "go"
      cases sl with
      | false => exact if_f rfl ⟨rfl, Same.refl _, h1⟩
      | true =>
        walk_at "go"
        refine ⟨gr, a1, sz, r0, r1, p, rfl, by walk_at "sq", fun H2 s2 => ?_⟩
        walk_at "go"
        refine ⟨_, sz, r0, r1, p, rfl, by walk_at "sq", ?_⟩
        walk_at "go"
        refine if_b (fun h1 => ?_) (fun h1 => ?_)
        · dsimp only at q
          rw [if_pos rfl, h1] at q
          simp only [Bool.not_true, Bool.and_false, Bool.false_and, Bool.false_eq_true, if_false] at q
          walk_at "go"
          exact q _ _ (by walk_at "sm") upd_same
        · exact ⟨rfl, s2, h1⟩
    rintro σ' H'' ⟨rfl, s2, h3⟩
    have hb3 : -20000 ≤ (if sl then slidI gr a1 sz r0 r1 else a1) ∧ (if sl then slidI gr a1 sz r0 r1 else a1) ≤ 20000 := by
      split
      · unfold slidI mx mn; repeat' split
        all_goals omega
      · omega
    generalize (if sl then slidI gr a1 sz r0 r1 else a1) = a3 at q h3 hb3 ⊢
    dsimp only at q
    rw [h3] at q
    have hp2 := s2.sqt hp
    have hb2 := s2.sqt hb
    walk_at "go"
    cases c with
    | false =>
      walk_at "go"
      exact q _ _ (by walk_at "sm") upd_same
    | true =>
      walk_at "go"
      refine ⟨⟨by omega, by omega, by omega, by omega⟩, fun D hD => ?_⟩
      refine lc_dp (walk_range (lo := a3) (n := (a3 + sz - a3).toNat)) (K := K) (V0 := H'') (H0 := H'') (fun i => if r0 ≤ a3 + (i : Int) ∧ a3 + (i : Int) < r0 + r1 then some (PyData.int (a3 + (i : Int))) else none) _ rfl (Same.refl _) hD (by omega) (fun _ _ => trivial) (fun i x H H' y => y.1) ?_ ?_
      · rintro i x U H3 hi xx ⟨_, rfl⟩ Qy Qn hy hn
        have hp3 := (xx.hh).sqt hp2
        refine ⟨rfl, ?_⟩
        walk_at "go"
        refine iteP (fun g1 => ?_) (fun g1 => ?_)
        · walk_at "go"
          refine iteP (fun g2 => ?_) (fun g2 => ?_)
          · exact ⟨_, rfl, hy _ _ _ _ (if_pos ⟨g1, g2⟩) (Ext.refl xx.vh) (.int _)⟩
          · exact hn (if_neg fun z => g2 z.2) _ _ (Ext.refl xx.vh)
        · refine ⟨_, rfl, ?_⟩
          exact hn (if_neg fun z => g1 z.1) _ _ (Ext.refl xx.vh)
      · rintro U HA ys xx hDU dl _
        have e0 : (a3 + ((a3 + sz - a3).toNat : Nat)) = a3 + sz := by omega
        rw [fm_part, e0] at dl
        generalize hL : mx (mn (a3 + sz) (r0 + r1) - mx a3 r0) 0 = L at q dl
        have hL0 : 0 ≤ L := by rw [← hL]; unfold mx; split <;> omega
        have hL1 : L ≤ 1000 := by
          rw [← hL]; unfold mx mn; repeat' split
          all_goals omega
        generalize mx a3 r0 = F at q dl
        obtain ⟨n, rfl⟩ := Int.eq_ofNat_of_zero_le hL0
        rw [Int.toNat_natCast] at dl
        have dl2 : ys = ((List.range n).map fun j : Nat => F + (j : Int)).map V.int := by
          refine dp_intsV (K := K) (H := U) ?_
          rw [List.map_map]; exact dl
        subst dl2
        have hD' := xx.vh _ _ hDU
        walk_at "go"
        have sH : Same H'' HA := xx.hh
        rename_i pe he
        have hDe : SqL K (upd HA pe (.lst [])) D (((List.range n).map fun j : Nat => F + (j : Int)).map V.int) := (same_upd he).seq (SqL.of hD')
        refine t_ne (dp_ints hDe) (dp_ints (xs := []) (SqL.of upd_same)) (sh_ints _).shaped (sh_ints _).shaped ⟨_, rfl, ?_⟩
        rcases n with _ | n
        · refine ne_self (sh_ints _).shaped rfl ?_
          walk_at "go"
          rw [if_neg (by decide)] at q
          exact q _ _ (by walk_at "sm") upd_same
        · have h9 : PyData.eqv (pInts ((List.range (n + 1)).map fun j : Nat => F + (j : Int))) (pInts []) = false := by
            rw [List.range_succ_eq_map]; rfl
          rw [h9]
          refine if_t rfl ?_
          rw [if_pos (by simp)] at q
          refine ⟨_, rfl, _, _, _, .int F, rfl, rfl, hDe, ?_, ?_⟩
          · refine atI_nat (j := 0) ?_
            rw [List.range_succ_eq_map]
            show some (V.int (F + ((0 : Nat) : Int))) = _
            rw [Int.natCast_zero, Int.add_zero]
          refine ⟨_, rfl, D, _, rfl, .inl hDe, len_line (by show 2 ≤ 100000; decide), fun p5 h5 => ?_⟩
          rw [show (((((List.range (n + 1)).map fun j : Nat => F + (j : Int)).map V.int).length : Nat) : Int) = ((n + 1 : Nat) : Int) from by simp]
          exact q _ _ (by walk_at "sm") upd_same
def lBeg (row : Int) : Int := row % 30 - 10
def lLen (row : Int) : Int := row / 30 % 12
def lSiz (row : Int) : Int := 1 + row / 360 % 40
def lOff (row : Int) : Int := row / 14400 % 17 - 8
def lR0 (row : Int) : Int := row / 7 % 30 - 20
def lR1 (row : Int) : Int := 1 + row / 11 % 50
def sp__law_numbers (K : PySem.W.Frag) : Sp := fun vs H Q _ => ∃ row : Int, vs = [.int row] ∧ ∀ pr p H', Same H H' → H' pr = some (.tup [.int (lR0 row), .int (lR1 row)]) → H' p = some (.tup [.int (lBeg row), .int (lLen row), .int (lSiz row), .int (lOff row), .ref pr]) → Q (.ref p) H'
theorem sc__law_numbers : FnScope ["row", "begin", "length", "size", "offset", "room"] ["row"] (defScope s__law_numbers) := ⟨rfl, rfl, rfl, by decide +kernel, rfl, by decide +kernel, by decide +kernel⟩
theorem ok__law_numbers (T : Txt K mg A) : FnOk P w K mg base CX0 1 A.f_law_numbers A.d_law_numbers ["row"] (sp__law_numbers K) := by
  refine T.F_law_numbers.ok sc__law_numbers (fun vs H Q E h => ?_) (fun cdv Ar outer s H vs Q E hr h => ?_)
  · obtain ⟨_, rfl, _⟩ := h
    rfl
  · obtain ⟨row, rfl, q⟩ := h
    refine ⟨_, (pss_cons (ps_set (i := 1) sc__law_numbers.nd rfl (Or.inl rfl) (pe_op op_sub (pe_op op_mod (pe_callTy call_int1 (by rfl) T.int (by decide +kernel) (pa_cons (pv 0) pa_nil)) pe_int) pe_int))
      (pss_cons (ps_set (i := 2) sc__law_numbers.nd rfl (Or.inl rfl) (pe_op op_mod (pe_callTy call_int1 (by rfl) T.int (by decide +kernel) (pa_cons (pe_op op_fdiv (pv 0) pe_int) pa_nil)) pe_int))
      (pss_cons (ps_set (i := 3) sc__law_numbers.nd rfl (Or.inl rfl) (pe_op op_add pe_int (pe_op op_mod (pe_callTy call_int1 (by rfl) T.int (by decide +kernel) (pa_cons (pe_op op_fdiv (pv 0) pe_int) pa_nil)) pe_int)))
      (pss_cons (ps_set (i := 4) sc__law_numbers.nd rfl (Or.inl rfl) (pe_op op_sub (pe_op op_mod (pe_callTy call_int1 (by rfl) T.int (by decide +kernel) (pa_cons (pe_op op_fdiv (pv 0) pe_int) pa_nil)) pe_int) pe_int))
      (pss_cons (ps_set (i := 5) sc__law_numbers.nd rfl (Or.inl rfl) (pe_tup (pa_cons (pe_op op_sub (pe_op op_mod (pe_callTy call_int1 (by rfl) T.int (by decide +kernel) (pa_cons (pe_op op_fdiv (pv 0) pe_int) pa_nil)) pe_int) pe_int) (pa_cons (pe_op op_add pe_int (pe_op op_mod (pe_callTy call_int1 (by rfl) T.int (by decide +kernel) (pa_cons (pe_op op_fdiv (pv 0) pe_int) pa_nil)) pe_int)) pa_nil))))
      (pss_one (ps_ret (pe_tup (pa_cons (pv 1) (pa_cons (pv 2) (pa_cons (pv 3) (pa_cons (pv 4) (pa_cons (pv 5) pa_nil))))))))))))), ?_⟩
    walk_at "go"
    rename_i p1 h1 p2 h2
    exact q p1 p2 _ ((same_upd h1).trans (same_upd h2)) (by rw [upd_ne (ne_of_none upd_same h2)]; exact upd_same) upd_same
theorem ptI_sign {a b bg ln : Int} (h0 : a = 0 ↔ b = 0) (h1 : 0 < a ↔ 0 < b) : ptI a bg ln = ptI b bg ln := by
  unfold ptI
  by_cases c : a = 0
  · rw [if_pos c, if_pos (h0.mp c)]
  · rw [if_neg c, if_neg fun z => c (h0.mpr z)]
    by_cases d : 0 < a
    · rw [if_pos d, if_pos (h1.mp d)]
    · rw [if_neg d, if_neg fun z => d (h1.mpr z)]
theorem bkI_sign {a b sz : Int} (h0 : a = 0 ↔ b = 0) (h1 : a < 0 ↔ b < 0) : bkI a sz = bkI b sz := by
  unfold bkI
  by_cases c : a < 0
  · rw [if_pos c, if_pos (h1.mp c)]
  · rw [if_neg c, if_neg fun z => c (h1.mpr z)]
    by_cases d : a = 0
    · rw [if_pos d, if_pos (h0.mp d)]
    · rw [if_neg d, if_neg fun z => d (h0.mpr z)]
theorem axis_sign (a g bg ln sz off r0 r1 : Int) (t s c : Bool) : axisI (7 * a) (3 * g) bg ln sz off r0 r1 t s c = axisI a g bg ln sz off r0 r1 t s c := by
  have e1 : startI (7 * a) (3 * g) bg ln sz off = startI a g bg ln sz off := by
    unfold startI
    rw [ptI_sign (a := 7 * a) (b := a) (by omega) (by omega), bkI_sign (a := 3 * g) (b := g) (by omega) (by omega)]
  have e2 : startI (-(7 * a)) (-(3 * g)) bg ln sz (-off) = startI (-a) (-g) bg ln sz (-off) := by
    unfold startI
    rw [ptI_sign (a := -(7 * a)) (b := -a) (by omega) (by omega), bkI_sign (a := -(3 * g)) (b := -g) (by omega) (by omega)]
  have e3 : ∀ x, slidI (3 * g) x sz r0 r1 = slidI g x sz r0 r1 := by
    intro x
    unfold slidI
    by_cases d : g < 0
    · rw [if_pos d, if_pos (by omega)]
    · rw [if_neg d, if_neg (by omega)]
  unfold axisI
  rw [e1, e2]
  dsimp only
  rw [e3]
theorem slid_lies {g x sz r0 r1 : Int} (h : sz ≤ r1) : liesI (slidI g x sz r0 r1) sz r0 r1 = true := by
  have : r0 ≤ slidI g x sz r0 r1 ∧ slidI g x sz r0 r1 + sz ≤ r0 + r1 := by
    unfold slidI mx mn; repeat' split
    all_goals omega
  unfold liesI
  rw [decide_eq_true this.1, decide_eq_true this.2]; rfl
theorem axis_lies {an gr bg ln sz off r0 r1 : Int} {t c : Bool} (h : sz ≤ r1) : liesI (axisI an gr bg ln sz off r0 r1 t true c).1 (axisI an gr bg ln sz off r0 r1 t true c).2 r0 r1 = true ∧ (axisI an gr bg ln sz off r0 r1 t true c).2 = sz := by
  unfold axisI
  dsimp only
  by_cases h1 : liesI (startI an gr bg ln sz off) sz r0 r1 = true
  · rw [if_pos h1]; exact ⟨h1, rfl⟩
  rw [if_neg h1]
  by_cases h2 : (t && liesI (startI (-an) (-gr) bg ln sz (-off)) sz r0 r1) = true
  · rw [if_pos h2]; rw [Bool.and_eq_true] at h2; exact ⟨h2.2, rfl⟩
  rw [if_neg h2, if_pos rfl, slid_lies h]
  have : (c && !true && decide (mx (mn (slidI gr (startI an gr bg ln sz off) sz r0 r1 + sz) (r0 + r1) - mx (slidI gr (startI an gr bg ln sz off) sz r0 r1) r0) 0 > 0)) = false := by cases c <;> rfl
  rw [this]
  exact ⟨slid_lies h, rfl⟩
def dB (x : Int) : Bool := decide (V.int x = V.int 1)
theorem bit_dec (ad k : Int) (j : Nat) (hj : j < 6) (m : Int) (hm : m = 2 ^ j) : bitI (ad + 64 * k) j = dB (ad / m % 2) := by
  have e : (ad + 64 * k) / 2 ^ j % 2 = ad / m % 2 := by
    subst hm
    rcases (by omega : j = 0 ∨ j = 1 ∨ j = 2 ∨ j = 3 ∨ j = 4 ∨ j = 5) with rfl | rfl | rfl | rfl | rfl | rfl
    · rw [show (2 : Int) ^ 0 = 1 from rfl]; omega
    · rw [show (2 : Int) ^ 1 = 2 from rfl]; omega
    · rw [show (2 : Int) ^ 2 = 4 from rfl]; omega
    · rw [show (2 : Int) ^ 3 = 8 from rfl]; omega
    · rw [show (2 : Int) ^ 4 = 16 from rfl]; omega
    · rw [show (2 : Int) ^ 5 = 32 from rfl]; omega
  unfold bitI dB
  rw [e]
  by_cases h : ad / m % 2 = 1
  · rw [decide_eq_true h, decide_eq_true (congrArg V.int h)]
  · rw [decide_eq_false h, decide_eq_false fun z => h (V.int.inj z)]
theorem sc_law : FnScope ["script", "k", "row", "more", "x", "y", "signs", "adjust", "wide_bits", "high_bits", "due", "other", "positioner", "told"] ["script"] (defScope s_law) := ⟨rfl, rfl, rfl, by decide +kernel, rfl, by decide +kernel, by decide +kernel⟩
theorem ok_law (T : Txt K mg A) : FnOk P w K mg base CX0 4 A.flaw A.dlaw ["script"] (sp_law K) := by
  refine T.Flaw.ok sc_law (fun vs H Q E h => ?_) (fun cdv Ar outer s H vs Q E hr h => ?_)
  · obtain ⟨a, ns, rfl, _⟩ := h
    rfl
  · obtain ⟨a, ns, rfl, hS, hlen, q⟩ := h
    refine ⟨_, (pss_cons (ps_for PassesOwn.never rfl (pi_range1 (by rfl) T.range (pa_cons (pe_op op_add (pe_callB (call_min2 rfl) (by rfl) T.min (by decide +kernel) (pa_cons (pe_callB call_len_seq (by rfl) T.len PySem.boot_len (pa_cons (pv 0) pa_nil)) (pa_cons pe_int pa_nil))) pe_int) pa_nil)) (pg_name (i := 1) sc_law.nd rfl (Or.inl rfl))
      (pss_cons (ps_set (i := 2) sc_law.nd rfl (Or.inl rfl) (pe_callTy call_int1 (by rfl) T.int (by decide +kernel) (pa_cons (pe_call (ok__law_row T) (hr.mono (by decide)) rfl T.g_law_row T.k_law_row T.b_law_row .nil pass0 (pa_cons (pv 0) (pa_cons (pv 1) pa_nil))) pa_nil)))
      (pss_cons (ps_set (i := 3) sc_law.nd rfl (Or.inl rfl) (pe_callTy call_int1 (by rfl) T.int (by decide +kernel) (pa_cons (pe_call (ok__law_row T) (hr.mono (by decide)) rfl T.g_law_row T.k_law_row T.b_law_row .nil pass0 (pa_cons (pv 0) (pa_cons (pe_op op_add pe_int (pv 1)) pa_nil))) pa_nil)))
      (pss_cons (ps_set (i := 4) sc_law.nd rfl (Or.inl rfl) (pe_call (ok__law_numbers T) (hr.mono (by decide)) rfl T.g_law_numbers T.k_law_numbers T.b_law_numbers .nil pass0 (pa_cons (pv 2) pa_nil)))
      (pss_cons (ps_set (i := 5) sc_law.nd rfl (Or.inl rfl) (pe_call (ok__law_numbers T) (hr.mono (by decide)) rfl T.g_law_numbers T.k_law_numbers T.b_law_numbers .nil pass0 (pa_cons (pv 3) pa_nil)))
      (pss_cons (ps_set (i := 6) sc_law.nd rfl (Or.inl rfl) (pe_lst (pa_cons (pe_op op_sub (pe_op op_mod (pe_op op_fdiv (pv 2) pe_int) pe_int) pe_int) (pa_cons (pe_op op_sub (pe_op op_mod (pe_op op_fdiv (pv 2) pe_int) pe_int) pe_int) (pa_cons (pe_op op_sub (pe_op op_mod (pe_op op_fdiv (pv 3) pe_int) pe_int) pe_int) (pa_cons (pe_op op_sub (pe_op op_mod (pe_op op_fdiv (pv 3) pe_int) pe_int) pe_int) pa_nil))))))
      (pss_cons (ps_set (i := 7) sc_law.nd rfl (Or.inl rfl) (pe_op op_mod (pe_op op_fdiv (pv 2) pe_int) pe_int))
      (pss_cons (ps_set (i := 8) sc_law.nd rfl (Or.inl rfl) (pe_tup (pa_cons (pe_cmpR op_eq (pe_op op_mod (pv 7) pe_int) pe_int (nomark _)) (pa_cons (pe_cmpR op_eq (pe_op op_mod (pe_op op_fdiv (pv 7) pe_int) pe_int) pe_int (nomark _)) (pa_cons (pe_cmpR op_eq (pe_op op_mod (pe_op op_fdiv (pv 7) pe_int) pe_int) pe_int (nomark _)) pa_nil)))))
      (C8.pss_cut (ps_set (i := 9) sc_law.nd rfl (Or.inl rfl) (pe_tup (pa_cons (pe_cmpR op_eq (pe_op op_mod (pe_op op_fdiv (pv 7) pe_int) pe_int) pe_int (nomark _)) (pa_cons (pe_cmpR op_eq (pe_op op_mod (pe_op op_fdiv (pv 7) pe_int) pe_int) pe_int (nomark _)) (pa_cons (pe_cmpR op_eq (pe_op op_mod (pe_op op_fdiv (pv 7) pe_int) pe_int) pe_int (nomark _)) pa_nil)))))
      (pss_cons (ps_set (i := 10) sc_law.nd rfl (Or.inl rfl) (pe_call (ok__law_axis T) (hr.mono (by decide)) rfl T.g_law_axis T.k_law_axis T.b_law_axis .nil pass0 (pa_cons (pe_ix (r := rIxL K) ix_list (pv 6) pe_int (fun _ _ => rfl)) (pa_cons (pe_ix (r := rIxL K) ix_list (pv 6) pe_int (fun _ _ => rfl)) (pa_cons (pe_ix (r := rIxT K) ix_tup (pv 4) pe_int (fun _ _ => rfl)) (pa_cons (pe_ix (r := rIxT K) ix_tup (pv 4) pe_int (fun _ _ => rfl)) (pa_cons (pe_ix (r := rIxT K) ix_tup (pv 4) pe_int (fun _ _ => rfl)) (pa_cons (pe_ix (r := rIxT K) ix_tup (pv 4) pe_int (fun _ _ => rfl)) (pa_cons (pe_ix (r := rIxT K) ix_tup (pv 4) pe_int (fun _ _ => rfl)) (pa_cons (pv 8) pa_nil))))))))))
      (pss_cons (ps_if (pt_cmpR (op_neD hr.units) (pe_call (ok_place_axis T) (hr.mono (by decide)) rfl T.gplace_axis T.kplace_axis T.bplace_axis .nil pass0 (pa_cons (pe_ix (r := rIxL K) ix_list (pv 6) pe_int (fun _ _ => rfl)) (pa_cons (pe_ix (r := rIxL K) ix_list (pv 6) pe_int (fun _ _ => rfl)) (pa_cons (pe_ix (r := rIxT K) ix_tup (pv 4) pe_int (fun _ _ => rfl)) (pa_cons (pe_ix (r := rIxT K) ix_tup (pv 4) pe_int (fun _ _ => rfl)) (pa_cons (pe_ix (r := rIxT K) ix_tup (pv 4) pe_int (fun _ _ => rfl)) (pa_cons (pe_ix (r := rIxT K) ix_tup (pv 4) pe_int (fun _ _ => rfl)) (pa_cons (pe_ix (r := rIxT K) ix_tup (pv 4) pe_int (fun _ _ => rfl)) (pa_cons (pv 8) pa_nil))))))))) (pv 10) (nomark _))
      (pss_one (ps_ret pe_bl))
      pss_nil)
      (C8.pss_cut (ps_if (PW.pt (pw_and (pt_val (pe_ix (r := rIxT K) ix_tup (pv 8) pe_int (fun _ _ => rfl))) (pw_and (pt_cmpR op_le (pe_ix (r := rIxT K) ix_tup (pv 4) pe_int (fun _ _ => rfl)) (pe_ix (r := rIxT K) ix_tup (pe_ix (r := rIxT K) ix_tup (pv 4) pe_int (fun _ _ => rfl)) pe_int (fun _ _ => rfl)) (nomark _)) (pw_and1 (pt_not (PW.pt (pw_and (pt_val (pe_call (ok__law_lies T) (hr.mono (by decide)) rfl T.g_law_lies T.k_law_lies T.b_law_lies .nil pass0 (pa_cons (pe_ix (r := rIxT K) ix_tup (pv 10) pe_int (fun _ _ => rfl)) (pa_cons (pe_ix (r := rIxT K) ix_tup (pv 10) pe_int (fun _ _ => rfl)) (pa_cons (pe_ix (r := rIxT K) ix_tup (pv 4) pe_int (fun _ _ => rfl)) pa_nil))))) (pw_and1 (pt_cmpR op_eq (pe_ix (r := rIxT K) ix_tup (pv 10) pe_int (fun _ _ => rfl)) (pe_ix (r := rIxT K) ix_tup (pv 4) pe_int (fun _ _ => rfl)) (nomark _))))))))))
      (pss_one (ps_ret pe_bl))
      pss_nil)
      (pss_cons (ps_set (i := 11) sc_law.nd rfl (Or.inl rfl) (pe_call (ok__law_axis T) (hr.mono (by decide)) rfl T.g_law_axis T.k_law_axis T.b_law_axis .nil pass0 (pa_cons (pe_ix (r := rIxL K) ix_list (pv 6) pe_int (fun _ _ => rfl)) (pa_cons (pe_ix (r := rIxL K) ix_list (pv 6) pe_int (fun _ _ => rfl)) (pa_cons (pe_ix (r := rIxT K) ix_tup (pv 5) pe_int (fun _ _ => rfl)) (pa_cons (pe_ix (r := rIxT K) ix_tup (pv 5) pe_int (fun _ _ => rfl)) (pa_cons (pe_ix (r := rIxT K) ix_tup (pv 5) pe_int (fun _ _ => rfl)) (pa_cons (pe_ix (r := rIxT K) ix_tup (pv 5) pe_int (fun _ _ => rfl)) (pa_cons (pe_ix (r := rIxT K) ix_tup (pv 5) pe_int (fun _ _ => rfl)) (pa_cons (pv 9) pa_nil))))))))))
      (pss_cons (ps_set (i := 12) sc_law.nd rfl (Or.inl rfl) (pe_tup (pa_cons (pe_ix (r := rIxT K) ix_tup (pv 4) pe_int (fun _ _ => rfl)) (pa_cons (pe_ix (r := rIxT K) ix_tup (pv 5) pe_int (fun _ _ => rfl)) (pa_cons (pe_ix (r := rIxT K) ix_tup (pv 4) pe_int (fun _ _ => rfl)) (pa_cons (pe_ix (r := rIxT K) ix_tup (pv 5) pe_int (fun _ _ => rfl)) (pa_cons (pe_op op_mul pe_int (pe_ix (r := rIxL K) ix_list (pv 6) pe_int (fun _ _ => rfl))) (pa_cons (pe_ix (r := rIxL K) ix_list (pv 6) pe_int (fun _ _ => rfl)) (pa_cons (pe_op op_mul pe_int (pe_ix (r := rIxL K) ix_list (pv 6) pe_int (fun _ _ => rfl))) (pa_cons (pe_ix (r := rIxL K) ix_list (pv 6) pe_int (fun _ _ => rfl)) (pa_cons (pe_ix (r := rIxT K) ix_tup (pv 4) pe_int (fun _ _ => rfl)) (pa_cons (pe_ix (r := rIxT K) ix_tup (pv 5) pe_int (fun _ _ => rfl)) (pa_cons (pe_ix (r := rIxT K) ix_tup (pv 4) pe_int (fun _ _ => rfl)) (pa_cons (pe_ix (r := rIxT K) ix_tup (pv 5) pe_int (fun _ _ => rfl)) (pa_cons (pe_op op_add (pv 7) (pe_op op_mul pe_int (pe_op op_mod (pv 2) pe_int))) pa_nil)))))))))))))))
      (pss_cons (ps_set (i := 13) sc_law.nd rfl (Or.inl rfl) (pe_call (ok_place_popup T) (hr.mono (by decide)) rfl T.gplace_popup T.kplace_popup T.bplace_popup .nil pass0 (pa_cons (pv 12) (pa_cons (pe_tup (pa_cons (pe_ix (r := rIxT K) ix_tup (pe_ix (r := rIxT K) ix_tup (pv 4) pe_int (fun _ _ => rfl)) pe_int (fun _ _ => rfl)) (pa_cons (pe_ix (r := rIxT K) ix_tup (pe_ix (r := rIxT K) ix_tup (pv 5) pe_int (fun _ _ => rfl)) pe_int (fun _ _ => rfl)) (pa_cons (pe_ix (r := rIxT K) ix_tup (pe_ix (r := rIxT K) ix_tup (pv 4) pe_int (fun _ _ => rfl)) pe_int (fun _ _ => rfl)) (pa_cons (pe_ix (r := rIxT K) ix_tup (pe_ix (r := rIxT K) ix_tup (pv 5) pe_int (fun _ _ => rfl)) pe_int (fun _ _ => rfl)) pa_nil))))) pa_nil))))
      (pss_one (ps_if (pt_cmpR (op_neD hr.units) (pv 13) (pe_tup (pa_cons (pe_ix (r := rIxT K) ix_tup (pv 10) pe_int (fun _ _ => rfl)) (pa_cons (pe_ix (r := rIxT K) ix_tup (pv 11) pe_int (fun _ _ => rfl)) (pa_cons (pe_ix (r := rIxT K) ix_tup (pv 10) pe_int (fun _ _ => rfl)) (pa_cons (pe_ix (r := rIxT K) ix_tup (pv 11) pe_int (fun _ _ => rfl)) pa_nil))))) (nomark _))
      (pss_one (ps_ret pe_bl))
      pss_nil)))))))))))))))))
      (pss_one (ps_ret pe_bl))), ?_⟩
    walk_at "go"
    refine ⟨?_, ?_, ?_⟩
    · split <;> omega
    · rw [List.length_map]; split <;> omega
    refine for_range (lo := 0) (fun i σ H' => ∃ v1 v2 v3 v4 v5 v6 v7 v8 v9 v10 v11 v12 v13 : Option V, σ = [some (.ref a), v1, v2, v3, v4, v5, v6, v7, v8, v9, v10, v11, v12, v13] ∧ SqL K H' a (ns.map V.int)) ?_ ?_ ?_
    · exact ⟨_, _, _, _, _, _, _, _, _, _, _, _, _, rfl, by walk_at "sq"⟩
    · rintro i σ H1 hi ⟨v1, v2, v3, v4, v5, v6, v7, v8, v9, v10, v11, v12, v13, rfl, s1⟩
      refine ⟨_, rfl, _, rfl, a, ns, i, ?_, s1, ?_⟩
      · show [V.ref a, V.int (0 + (i : Int))] = [V.ref a, V.int (i : Int)]
        rw [Int.zero_add]
      have r0 := lawRow_nn ns i
      generalize lawRow ns i = row at r0
      walk_at "go"
      refine ⟨a, ns, 63 + i, ?_, s1, ?_⟩
      · show [V.ref a, V.int (63 + (0 + (i : Int)))] = [V.ref a, V.int ((63 + i : Nat) : Int)]
        rw [Int.zero_add, Int.natCast_add]; rfl
      have r1 := lawRow_nn ns (63 + i)
      generalize lawRow ns (63 + i) = more at r1
      walk_at "go"
      intro rx px H2 s2 erx epx
      walk_at "go"
      intro ry py H3 s3 ery epy
      have s13 := s3.seq (s2.seq s1)
      have frx := s3 _ _ erx
      have fpx := s3 _ _ epx
      generalize hX : [V.int (lBeg row), V.int (lLen row), V.int (lSiz row), V.int (lOff row), V.ref rx] = X at fpx
      walk_at "go"
      rename_i pg hpg pw hpw
      refine ⟨fun σ' H' => ∃ ph v10 v11 v12 v13, σ' = [some (.ref a), some (.int (0 + (i : Int))), some (.int row), some (.int more), some (.ref px), some (.ref py), some (.ref pg), some (.int (row / 19 % 64)), some (.ref pw), some (.ref ph), v10, v11, v12, v13] ∧ Same H3 H' ∧
        SqL K H' pg [.int (row / 13 % 3 - 1), .int (row / 17 % 3 - 1), .int (more / 13 % 3 - 1), .int (more / 17 % 3 - 1)] ∧ SqT K H' pw [.bl (dB (row / 19 % 64 % 2)), .bl (dB (row / 19 % 64 / 4 % 2)), .bl (dB (row / 19 % 64 / 16 % 2))] ∧
        SqT K H' ph [.bl (dB (row / 19 % 64 / 2 % 2)), .bl (dB (row / 19 % 64 / 8 % 2)), .bl (dB (row / 19 % 64 / 32 % 2))], ?_, ?_⟩
      · walk_at "go"
        refine ⟨_, _, _, _, _, rfl, by walk_at "sm", by walk_at "sq", by walk_at "sq", by walk_at "sq"⟩
      subst hX
      rintro σ' H4 ⟨ph, v10', v11', v12', v13', rfl, s4, eg, ew, eh⟩
      have frx4 := SqT.of (K := K) (s4 _ _ frx)
      have fpx4 := SqT.of (K := K) (s4 _ _ fpx)
      have fry4 := SqT.of (K := K) (s4 _ _ ery)
      have fpy4 := SqT.of (K := K) (s4 _ _ epy)
      have s14 := s4.seq s13
      walk_at "go"
      have nb : ∀ x : Int, -1000 ≤ lBeg x ∧ lBeg x ≤ 1000 ∧ 0 ≤ lLen x ∧ lLen x ≤ 1000 ∧ 0 ≤ lSiz x ∧ lSiz x ≤ 1000 ∧ -1000 ≤ lOff x ∧ lOff x ≤ 1000 ∧ -1000 ≤ lR0 x ∧ lR0 x ≤ 1000 ∧ 0 ≤ lR1 x ∧ lR1 x ≤ 1000 := by
        intro x; unfold lBeg lLen lSiz lOff lR0 lR1; omega
      refine ⟨_, _, _, _, _, _, _, _, _, _, _, _, _, rfl, by walk_at "sq", by walk_at "sq", nb row, ?_⟩
      generalize hdue : axisI (row / 13 % 3 - 1) (more / 13 % 3 - 1) (lBeg row) (lLen row) (lSiz row) (lOff row) (lR0 row) (lR1 row) (dB (row / 19 % 64 % 2)) (dB (row / 19 % 64 / 4 % 2)) (dB (row / 19 % 64 / 16 % 2)) = due
      intro pd H5 s5 ed
      have frx5 := s5.sqt frx4
      have fpx5 := s5.sqt fpx4
      have fry5 := s5.sqt fry4
      have fpy5 := s5.sqt fpy4
      have eg5 := s5.seq eg
      have ew5 := s5.sqt ew
      have eh5 := s5.sqt eh
      have s15 := s5.seq s14
      clear frx4 fpx4 fry4 fpy4 eg ew eh s14
      walk_at "go"
      refine ⟨_, _, _, _, _, _, _, _, _, _, _, _, _, rfl, by walk_at "sq", by walk_at "sq", ?_⟩
      rw [hdue]
      intro pe H6 s6 ee
      have ed6 := SqT.of (K := K) (s6 _ _ ed)
      have frx6 := s6.sqt frx5
      have fpx6 := s6.sqt fpx5
      have fry6 := s6.sqt fry5
      have fpy6 := s6.sqt fpy5
      have eg6 := s6.seq eg5
      have ew6 := s6.sqt ew5
      have eh6 := s6.sqt eh5
      have s16 := s6.seq s15
      have ee6 := SqT.of (K := K) ee
      clear frx5 fpx5 fry5 fpy5 eg5 ew5 eh5 s15 s5 s4 ed ee erx epx ery epy frx fpx
      walk_at "go"
      walk_at "neS"
      · rfl
      refine ⟨fun σ' H' => σ' = [some (.ref a), some (.int (0 + (i : Int))), some (.int row), some (.int more), some (.ref px), some (.ref py), some (.ref pg), some (.int (row / 19 % 64)), some (.ref pw), some (.ref ph), some (.ref pd), v11', v12', v13'] ∧ H' = H6, ?_, ?_⟩
      · walk_at "go"
        refine if_b (fun hb1 => ?_) (fun hb1 => ?_)
        · walk_at "go"
          refine iteP (fun hz => ?_) (fun hz => ?_)
          · rw [hb1] at hdue
            have hl := axis_lies (an := row / 13 % 3 - 1) (gr := more / 13 % 3 - 1) (bg := lBeg row) (ln := lLen row) (off := lOff row) (r0 := lR0 row) (t := dB (row / 19 % 64 % 2)) (c := dB (row / 19 % 64 / 16 % 2)) hz
            rw [hdue] at hl
            walk_at "go"
            refine ⟨_, _, _, _, _, rfl, by walk_at "sq", ?_⟩
            rw [hl.1]
            walk_at "go"
            refine if_f (by rw [decide_eq_true (congrArg V.int hl.2)]; rfl) ?_
            exact ⟨rfl, rfl⟩
          · exact ⟨rfl, rfl⟩
        · exact ⟨rfl, rfl⟩
      rintro σ' H7 ⟨rfl, rfl⟩
      walk_at "go"
      refine ⟨_, _, _, _, _, _, _, _, _, _, _, _, _, rfl, by walk_at "sq", by walk_at "sq", nb more, ?_⟩
      generalize hoth : axisI (row / 17 % 3 - 1) (more / 17 % 3 - 1) (lBeg more) (lLen more) (lSiz more) (lOff more) (lR0 more) (lR1 more) (dB (row / 19 % 64 / 2 % 2)) (dB (row / 19 % 64 / 8 % 2)) (dB (row / 19 % 64 / 32 % 2)) = oth
      intro po H8 s8 eo
      have ed8 := s8.sqt ed6
      have frx8 := s8.sqt frx6
      have fpx8 := s8.sqt fpx6
      have fry8 := s8.sqt fry6
      have fpy8 := s8.sqt fpy6
      have eg8 := s8.seq eg6
      have s18 := s8.seq s16
      have eo8 := SqT.of (K := K) eo
      clear frx6 fpx6 fry6 fpy6 eg6 ew6 eh6 s16 ee6 ed6
      walk_at "go"
      refine ⟨_, _, _, _, _, _, _, _, _, _, _, _, _, _, _, _, _, _, _, rfl, by walk_at "sq", by walk_at "sq", ?_⟩
      rw [axis_sign, bit_dec _ _ 0 (by decide) 1 (by decide), bit_dec _ _ 1 (by decide) 2 (by decide), bit_dec _ _ 2 (by decide) 4 (by decide), bit_dec _ _ 3 (by decide) 8 (by decide), bit_dec _ _ 4 (by decide) 16 (by decide), bit_dec _ _ 5 (by decide) 32 (by decide), Int.ediv_one, hdue, hoth]
      intro pt H9 s9 et
      have ed9 := s9.sqt ((same_upd (by assumption)).sqt ((same_upd (by assumption)).sqt ed8))
      have eo9 := s9.sqt ((same_upd (by assumption)).sqt ((same_upd (by assumption)).sqt eo8))
      have s19 := s9.seq ((same_upd (by assumption)).seq ((same_upd (by assumption)).seq s18))
      have et9 := SqT.of (K := K) et
      walk_at "go"
      walk_at "neS"
      · rfl
      exact ⟨_, _, _, _, _, _, _, _, _, _, _, _, _, rfl, by walk_at "sq"⟩
    · rintro σ H' ⟨v1, v2, v3, v4, v5, v6, v7, v8, v9, v10, v11, v12, v13, rfl, s1⟩
      exact q _
end
theorem all_mk {K : PySem.W.Frag} {h : Heap} {mg : Str → Option Value} {fa : Addr} (X : K.In h) (G : h.Ns mainGlobals mg) (hfa : mg "law" = some (.ref fa))
    {foverlap_axis : Addr} {od1 an1 : Option Addr} {sl1 : Array (Option Value)} {oc1 kV1 dc1 pm1 cd1 ct1 : Value}
    {fplace_axis : Addr} {od2 an2 : Option Addr} {sl2 : Array (Option Value)} {oc2 kV2 dc2 pm2 cd2 ct2 : Value}
    {fplace_popup : Addr} {od3 an3 : Option Addr} {sl3 : Array (Option Value)} {oc3 kV3 dc3 pm3 cd3 ct3 : Value}
    {f_start : Addr} {od4 an4 : Option Addr} {sl4 : Array (Option Value)} {oc4 kV4 dc4 pm4 cd4 ct4 : Value}
    {f_lies_in : Addr} {od5 an5 : Option Addr} {sl5 : Array (Option Value)} {oc5 kV5 dc5 pm5 cd5 ct5 : Value}
    {f_slid : Addr} {od6 an6 : Option Addr} {sl6 : Array (Option Value)} {oc6 kV6 dc6 pm6 cd6 ct6 : Value}
    {f_law_cell : Addr} {od7 an7 : Option Addr} {sl7 : Array (Option Value)} {oc7 kV7 dc7 pm7 cd7 ct7 : Value}
    {f_law_row : Addr} {od8 an8 : Option Addr} {sl8 : Array (Option Value)} {oc8 kV8 dc8 pm8 cd8 ct8 : Value}
    {f_law_point : Addr} {od9 an9 : Option Addr} {sl9 : Array (Option Value)} {oc9 kV9 dc9 pm9 cd9 ct9 : Value}
    {f_law_begin : Addr} {od10 an10 : Option Addr} {sl10 : Array (Option Value)} {oc10 kV10 dc10 pm10 cd10 ct10 : Value}
    {f_law_lies : Addr} {od11 an11 : Option Addr} {sl11 : Array (Option Value)} {oc11 kV11 dc11 pm11 cd11 ct11 : Value}
    {f_law_slid : Addr} {od12 an12 : Option Addr} {sl12 : Array (Option Value)} {oc12 kV12 dc12 pm12 cd12 ct12 : Value}
    {f_law_axis : Addr} {od13 an13 : Option Addr} {sl13 : Array (Option Value)} {oc13 kV13 dc13 pm13 cd13 ct13 : Value}
    {f_law_numbers : Addr} {od14 an14 : Option Addr} {sl14 : Array (Option Value)} {oc14 kV14 dc14 pm14 cd14 ct14 : Value}
    {flaw : Addr} {od15 an15 : Option Addr} {sl15 : Array (Option Value)} {oc15 kV15 dc15 pm15 cd15 ct15 : Value}
    (a1 : PySem.W.nsIn K mainGlobals "overlap_axis" = some (some (.ref foverlap_axis)))
    (l1 : K.lookup foverlap_axis = some ⟨oc1, od1, .func (PySem.W.fnOf "overlap_axis" "overlap_axis" (defArgs s_overlap_axis) (defBody s_overlap_axis) (defScope s_overlap_axis) .none kV1 dc1 pm1 an1 cd1 ct1), sl1⟩) (c1 : PySem.W.codeIn K cd1 "overlap_axis" = true) (k1 : PySem.W.keepIn K (.ref foverlap_axis) = true)
    (a2 : PySem.W.nsIn K mainGlobals "place_axis" = some (some (.ref fplace_axis)))
    (l2 : K.lookup fplace_axis = some ⟨oc2, od2, .func (PySem.W.fnOf "place_axis" "place_axis" (defArgs s_place_axis) (defBody s_place_axis) (defScope s_place_axis) .none kV2 dc2 pm2 an2 cd2 ct2), sl2⟩) (c2 : PySem.W.codeIn K cd2 "place_axis" = true) (k2 : PySem.W.keepIn K (.ref fplace_axis) = true)
    (a3 : PySem.W.nsIn K mainGlobals "place_popup" = some (some (.ref fplace_popup)))
    (l3 : K.lookup fplace_popup = some ⟨oc3, od3, .func (PySem.W.fnOf "place_popup" "place_popup" (defArgs s_place_popup) (defBody s_place_popup) (defScope s_place_popup) .none kV3 dc3 pm3 an3 cd3 ct3), sl3⟩) (c3 : PySem.W.codeIn K cd3 "place_popup" = true) (k3 : PySem.W.keepIn K (.ref fplace_popup) = true)
    (a4 : PySem.W.nsIn K mainGlobals "_start" = some (some (.ref f_start)))
    (l4 : K.lookup f_start = some ⟨oc4, od4, .func (PySem.W.fnOf "_start" "_start" (defArgs s__start) (defBody s__start) (defScope s__start) .none kV4 dc4 pm4 an4 cd4 ct4), sl4⟩) (c4 : PySem.W.codeIn K cd4 "_start" = true) (k4 : PySem.W.keepIn K (.ref f_start) = true)
    (a5 : PySem.W.nsIn K mainGlobals "_lies_in" = some (some (.ref f_lies_in)))
    (l5 : K.lookup f_lies_in = some ⟨oc5, od5, .func (PySem.W.fnOf "_lies_in" "_lies_in" (defArgs s__lies_in) (defBody s__lies_in) (defScope s__lies_in) .none kV5 dc5 pm5 an5 cd5 ct5), sl5⟩) (c5 : PySem.W.codeIn K cd5 "_lies_in" = true) (k5 : PySem.W.keepIn K (.ref f_lies_in) = true)
    (a6 : PySem.W.nsIn K mainGlobals "_slid" = some (some (.ref f_slid)))
    (l6 : K.lookup f_slid = some ⟨oc6, od6, .func (PySem.W.fnOf "_slid" "_slid" (defArgs s__slid) (defBody s__slid) (defScope s__slid) .none kV6 dc6 pm6 an6 cd6 ct6), sl6⟩) (c6 : PySem.W.codeIn K cd6 "_slid" = true) (k6 : PySem.W.keepIn K (.ref f_slid) = true)
    (a7 : PySem.W.nsIn K mainGlobals "_law_cell" = some (some (.ref f_law_cell)))
    (l7 : K.lookup f_law_cell = some ⟨oc7, od7, .func (PySem.W.fnOf "_law_cell" "_law_cell" (defArgs s__law_cell) (defBody s__law_cell) (defScope s__law_cell) .none kV7 dc7 pm7 an7 cd7 ct7), sl7⟩) (c7 : PySem.W.codeIn K cd7 "_law_cell" = true) (k7 : PySem.W.keepIn K (.ref f_law_cell) = true)
    (a8 : PySem.W.nsIn K mainGlobals "_law_row" = some (some (.ref f_law_row)))
    (l8 : K.lookup f_law_row = some ⟨oc8, od8, .func (PySem.W.fnOf "_law_row" "_law_row" (defArgs s__law_row) (defBody s__law_row) (defScope s__law_row) .none kV8 dc8 pm8 an8 cd8 ct8), sl8⟩) (c8 : PySem.W.codeIn K cd8 "_law_row" = true) (k8 : PySem.W.keepIn K (.ref f_law_row) = true)
    (a9 : PySem.W.nsIn K mainGlobals "_law_point" = some (some (.ref f_law_point)))
    (l9 : K.lookup f_law_point = some ⟨oc9, od9, .func (PySem.W.fnOf "_law_point" "_law_point" (defArgs s__law_point) (defBody s__law_point) (defScope s__law_point) .none kV9 dc9 pm9 an9 cd9 ct9), sl9⟩) (c9 : PySem.W.codeIn K cd9 "_law_point" = true) (k9 : PySem.W.keepIn K (.ref f_law_point) = true)
    (a10 : PySem.W.nsIn K mainGlobals "_law_begin" = some (some (.ref f_law_begin)))
    (l10 : K.lookup f_law_begin = some ⟨oc10, od10, .func (PySem.W.fnOf "_law_begin" "_law_begin" (defArgs s__law_begin) (defBody s__law_begin) (defScope s__law_begin) .none kV10 dc10 pm10 an10 cd10 ct10), sl10⟩) (c10 : PySem.W.codeIn K cd10 "_law_begin" = true) (k10 : PySem.W.keepIn K (.ref f_law_begin) = true)
    (a11 : PySem.W.nsIn K mainGlobals "_law_lies" = some (some (.ref f_law_lies)))
    (l11 : K.lookup f_law_lies = some ⟨oc11, od11, .func (PySem.W.fnOf "_law_lies" "_law_lies" (defArgs s__law_lies) (defBody s__law_lies) (defScope s__law_lies) .none kV11 dc11 pm11 an11 cd11 ct11), sl11⟩) (c11 : PySem.W.codeIn K cd11 "_law_lies" = true) (k11 : PySem.W.keepIn K (.ref f_law_lies) = true)
    (a12 : PySem.W.nsIn K mainGlobals "_law_slid" = some (some (.ref f_law_slid)))
    (l12 : K.lookup f_law_slid = some ⟨oc12, od12, .func (PySem.W.fnOf "_law_slid" "_law_slid" (defArgs s__law_slid) (defBody s__law_slid) (defScope s__law_slid) .none kV12 dc12 pm12 an12 cd12 ct12), sl12⟩) (c12 : PySem.W.codeIn K cd12 "_law_slid" = true) (k12 : PySem.W.keepIn K (.ref f_law_slid) = true)
    (a13 : PySem.W.nsIn K mainGlobals "_law_axis" = some (some (.ref f_law_axis)))
    (l13 : K.lookup f_law_axis = some ⟨oc13, od13, .func (PySem.W.fnOf "_law_axis" "_law_axis" (defArgs s__law_axis) (defBody s__law_axis) (defScope s__law_axis) .none kV13 dc13 pm13 an13 cd13 ct13), sl13⟩) (c13 : PySem.W.codeIn K cd13 "_law_axis" = true) (k13 : PySem.W.keepIn K (.ref f_law_axis) = true)
    (a14 : PySem.W.nsIn K mainGlobals "_law_numbers" = some (some (.ref f_law_numbers)))
    (l14 : K.lookup f_law_numbers = some ⟨oc14, od14, .func (PySem.W.fnOf "_law_numbers" "_law_numbers" (defArgs s__law_numbers) (defBody s__law_numbers) (defScope s__law_numbers) .none kV14 dc14 pm14 an14 cd14 ct14), sl14⟩) (c14 : PySem.W.codeIn K cd14 "_law_numbers" = true) (k14 : PySem.W.keepIn K (.ref f_law_numbers) = true)
    (a15 : PySem.W.nsIn K mainGlobals "law" = some (some (.ref flaw)))
    (l15 : K.lookup flaw = some ⟨oc15, od15, .func (PySem.W.fnOf "law" "law" (defArgs s_law) (defBody s_law) (defScope s_law) .none kV15 dc15 pm15 an15 cd15 ct15), sl15⟩) (c15 : PySem.W.codeIn K cd15 "law" = true) (k15 : PySem.W.keepIn K (.ref flaw) = true)
    (z_int : PySem.W.nsIn K mainGlobals "int" = some none)
    (z_len : PySem.W.nsIn K mainGlobals "len" = some none)
    (z_max : PySem.W.nsIn K mainGlobals "max" = some none)
    (z_min : PySem.W.nsIn K mainGlobals "min" = some none)
    (z_range : PySem.W.nsIn K mainGlobals "range" = some none)
    : ∃ A : Adr, A.flaw = fa ∧ Txt K mg A ∧ (∀ (s : Shared) (v : Value), BindsTo s A.dlaw ⟨[v], []⟩ [("script", v)]) := by
  have e := hfa.symm.trans (PySem.W.mg_of X G a15)
  cases e
  have F1 := fun_mk (st := s_overlap_axis) l1 c1 k1
  have b1 := F1.binds (ps := ["begin", "length", "other_begin", "other_length"]) fun _ _ _ _ _ _ us hl => match us, hl with | [_, _, _, _], _ => rfl
  have F2 := fun_mk (st := s_place_axis) l2 c2 k2
  have b2 := F2.binds (ps := ["anchor", "gravity", "begin", "length", "size", "offset", "room", "bits"]) fun _ _ _ _ _ _ us hl => match us, hl with | [_, _, _, _, _, _, _, _], _ => rfl
  have F3 := fun_mk (st := s_place_popup) l3 c3 k3
  have b3 := F3.binds (ps := ["positioner", "room"]) fun _ _ _ _ _ _ us hl => match us, hl with | [_, _], _ => rfl
  have F4 := fun_mk (st := s__start) l4 c4 k4
  have b4 := F4.binds (ps := ["anchor", "gravity", "begin", "length", "size", "offset"]) fun _ _ _ _ _ _ us hl => match us, hl with | [_, _, _, _, _, _], _ => rfl
  have F5 := fun_mk (st := s__lies_in) l5 c5 k5
  have b5 := F5.binds (ps := ["begin", "length", "room"]) fun _ _ _ _ _ _ us hl => match us, hl with | [_, _, _], _ => rfl
  have F6 := fun_mk (st := s__slid) l6 c6 k6
  have b6 := F6.binds (ps := ["gravity", "begin", "size", "room"]) fun _ _ _ _ _ _ us hl => match us, hl with | [_, _, _, _], _ => rfl
  have F7 := fun_mk (st := s__law_cell) l7 c7 k7
  have b7 := F7.binds (ps := ["script", "k"]) fun _ _ _ _ _ _ us hl => match us, hl with | [_, _], _ => rfl
  have F8 := fun_mk (st := s__law_row) l8 c8 k8
  have b8 := F8.binds (ps := ["script", "k"]) fun _ _ _ _ _ _ us hl => match us, hl with | [_, _], _ => rfl
  have F9 := fun_mk (st := s__law_point) l9 c9 k9
  have b9 := F9.binds (ps := ["sign", "begin", "length"]) fun _ _ _ _ _ _ us hl => match us, hl with | [_, _, _], _ => rfl
  have F10 := fun_mk (st := s__law_begin) l10 c10 k10
  have b10 := F10.binds (ps := ["anchor", "gravity", "begin", "length", "size", "offset"]) fun _ _ _ _ _ _ us hl => match us, hl with | [_, _, _, _, _, _], _ => rfl
  have F11 := fun_mk (st := s__law_lies) l11 c11 k11
  have b11 := F11.binds (ps := ["begin", "size", "room"]) fun _ _ _ _ _ _ us hl => match us, hl with | [_, _, _], _ => rfl
  have F12 := fun_mk (st := s__law_slid) l12 c12 k12
  have b12 := F12.binds (ps := ["begin", "size", "gravity", "room"]) fun _ _ _ _ _ _ us hl => match us, hl with | [_, _, _, _], _ => rfl
  have F13 := fun_mk (st := s__law_axis) l13 c13 k13
  have b13 := F13.binds (ps := ["anchor", "gravity", "begin", "length", "size", "offset", "room", "bits"]) fun _ _ _ _ _ _ us hl => match us, hl with | [_, _, _, _, _, _, _, _], _ => rfl
  have F14 := fun_mk (st := s__law_numbers) l14 c14 k14
  have b14 := F14.binds (ps := ["row"]) fun _ _ _ _ _ _ us hl => match us, hl with | [_], _ => rfl
  have F15 := fun_mk (st := s_law) l15 c15 k15
  have b15 := F15.binds (ps := ["script"]) fun _ _ _ _ _ _ us hl => match us, hl with | [_], _ => rfl
  refine ⟨{ foverlap_axis := foverlap_axis, doverlap_axis := (PySem.W.fnOf "overlap_axis" "overlap_axis" (defArgs s_overlap_axis) (defBody s_overlap_axis) (defScope s_overlap_axis) .none kV1 dc1 pm1 an1 cd1 ct1), fplace_axis := fplace_axis, dplace_axis := (PySem.W.fnOf "place_axis" "place_axis" (defArgs s_place_axis) (defBody s_place_axis) (defScope s_place_axis) .none kV2 dc2 pm2 an2 cd2 ct2), fplace_popup := fplace_popup, dplace_popup := (PySem.W.fnOf "place_popup" "place_popup" (defArgs s_place_popup) (defBody s_place_popup) (defScope s_place_popup) .none kV3 dc3 pm3 an3 cd3 ct3), f_start := f_start, d_start := (PySem.W.fnOf "_start" "_start" (defArgs s__start) (defBody s__start) (defScope s__start) .none kV4 dc4 pm4 an4 cd4 ct4), f_lies_in := f_lies_in, d_lies_in := (PySem.W.fnOf "_lies_in" "_lies_in" (defArgs s__lies_in) (defBody s__lies_in) (defScope s__lies_in) .none kV5 dc5 pm5 an5 cd5 ct5), f_slid := f_slid, d_slid := (PySem.W.fnOf "_slid" "_slid" (defArgs s__slid) (defBody s__slid) (defScope s__slid) .none kV6 dc6 pm6 an6 cd6 ct6), f_law_cell := f_law_cell, d_law_cell := (PySem.W.fnOf "_law_cell" "_law_cell" (defArgs s__law_cell) (defBody s__law_cell) (defScope s__law_cell) .none kV7 dc7 pm7 an7 cd7 ct7), f_law_row := f_law_row, d_law_row := (PySem.W.fnOf "_law_row" "_law_row" (defArgs s__law_row) (defBody s__law_row) (defScope s__law_row) .none kV8 dc8 pm8 an8 cd8 ct8), f_law_point := f_law_point, d_law_point := (PySem.W.fnOf "_law_point" "_law_point" (defArgs s__law_point) (defBody s__law_point) (defScope s__law_point) .none kV9 dc9 pm9 an9 cd9 ct9), f_law_begin := f_law_begin, d_law_begin := (PySem.W.fnOf "_law_begin" "_law_begin" (defArgs s__law_begin) (defBody s__law_begin) (defScope s__law_begin) .none kV10 dc10 pm10 an10 cd10 ct10), f_law_lies := f_law_lies, d_law_lies := (PySem.W.fnOf "_law_lies" "_law_lies" (defArgs s__law_lies) (defBody s__law_lies) (defScope s__law_lies) .none kV11 dc11 pm11 an11 cd11 ct11), f_law_slid := f_law_slid, d_law_slid := (PySem.W.fnOf "_law_slid" "_law_slid" (defArgs s__law_slid) (defBody s__law_slid) (defScope s__law_slid) .none kV12 dc12 pm12 an12 cd12 ct12), f_law_axis := f_law_axis, d_law_axis := (PySem.W.fnOf "_law_axis" "_law_axis" (defArgs s__law_axis) (defBody s__law_axis) (defScope s__law_axis) .none kV13 dc13 pm13 an13 cd13 ct13), f_law_numbers := f_law_numbers, d_law_numbers := (PySem.W.fnOf "_law_numbers" "_law_numbers" (defArgs s__law_numbers) (defBody s__law_numbers) (defScope s__law_numbers) .none kV14 dc14 pm14 an14 cd14 ct14), flaw := fa, dlaw := (PySem.W.fnOf "law" "law" (defArgs s_law) (defBody s_law) (defScope s_law) .none kV15 dc15 pm15 an15 cd15 ct15) }, rfl, { Foverlap_axis := F1, boverlap_axis := b1, goverlap_axis := PySem.W.mg_of X G a1, koverlap_axis := k1, Fplace_axis := F2, bplace_axis := b2, gplace_axis := PySem.W.mg_of X G a2, kplace_axis := k2, Fplace_popup := F3, bplace_popup := b3, gplace_popup := PySem.W.mg_of X G a3, kplace_popup := k3, F_start := F4, b_start := b4, g_start := PySem.W.mg_of X G a4, k_start := k4, F_lies_in := F5, b_lies_in := b5, g_lies_in := PySem.W.mg_of X G a5, k_lies_in := k5, F_slid := F6, b_slid := b6, g_slid := PySem.W.mg_of X G a6, k_slid := k6, F_law_cell := F7, b_law_cell := b7, g_law_cell := PySem.W.mg_of X G a7, k_law_cell := k7, F_law_row := F8, b_law_row := b8, g_law_row := PySem.W.mg_of X G a8, k_law_row := k8, F_law_point := F9, b_law_point := b9, g_law_point := PySem.W.mg_of X G a9, k_law_point := k9, F_law_begin := F10, b_law_begin := b10, g_law_begin := PySem.W.mg_of X G a10, k_law_begin := k10, F_law_lies := F11, b_law_lies := b11, g_law_lies := PySem.W.mg_of X G a11, k_law_lies := k11, F_law_slid := F12, b_law_slid := b12, g_law_slid := PySem.W.mg_of X G a12, k_law_slid := k12, F_law_axis := F13, b_law_axis := b13, g_law_axis := PySem.W.mg_of X G a13, k_law_axis := k13, F_law_numbers := F14, b_law_numbers := b14, g_law_numbers := PySem.W.mg_of X G a14, k_law_numbers := k14, Flaw := F15, blaw := b15, glaw := PySem.W.mg_of X G a15, klaw := k15, int := PySem.W.mg_none_of X G z_int, len := PySem.W.mg_none_of X G z_len, max := PySem.W.mg_none_of X G z_max, min := PySem.W.mg_none_of X G z_min, range := PySem.W.mg_none_of X G z_range }, fun s v => .of_eq rfl⟩
theorem walk {l : PySem.W.OpenLaw} {q : Program} {loose : List Str} {XP : (Str → Option Value) → Heap → Prop} {YP : World → Heap → Prop} {d : DefRec} {K : Params → PySem.W.Frag} (hn : l.most = some 63) (hdf : d.params.defaults = [])
    (hY : ∀ (w : World) (h : Heap), YP w h → (K w.params).In h)
    (F : ∀ (w : World) (mg : Str → Option Value) (fa : Addr) (h : Heap), (K w.params).In h → h.Ns mainGlobals mg → mg d.name = some (.ref fa) →
      ∃ A : Adr, A.flaw = fa ∧ Txt (K w.params) mg A ∧ (∀ (s : Shared) (v : Value), BindsTo s A.dlaw ⟨[v], []⟩ [("script", v)])) :
    PySem.W.WalkO q loose XP YP l.row.toRowW d [] (fun f vs => PySem.call f vs) :=
  L2.walk_of (n := 63) (k := 4) (x := "script") (CX := fun _ => CX0) (sp := fun w => sp_law (K w.params)) hn (by decide) hdf ⟨rfl, by decide, by decide⟩ hY (fun w mg fa h X G hfa => by
    obtain ⟨A, rfl, T, b⟩ := F w mg fa h X G hfa
    exact ⟨A.dlaw, b, fun base _ _ => ok_law T⟩) (fun _ _ a ns hl _ hS => ⟨a, ns, rfl, hS, hl, fun _ => rfl⟩) fun _ _ _ _ _ z => z
end My
open PySem PySem.W PyProof.Rows
set_option maxRecDepth 100000 in
set_option maxHeartbeats 0 in
theorem PySem.Challenge.cw_sillwatch_k39_popup_places_holds : PySem.Challenge.rw_sillwatch_k39_popup_places.Holds := by
  w_on; o_law; k_head; (case hw => w_witness2)
  k_fill
  refine My.walk (l := PySem.Challenge.rw_sillwatch_k39_popup_places) rfl rfl (fun w h Y => PySem.W.kIn_of Y) ?F
  case F =>
    intro w mg fa h KX G hmg
    refine' My.all_mk KX G hmg ?a1 ?l1 ?c1 ?k1 ?a2 ?l2 ?c2 ?k2 ?a3 ?l3 ?c3 ?k3 ?a4 ?l4 ?c4 ?k4 ?a5 ?l5 ?c5 ?k5 ?a6 ?l6 ?c6 ?k6 ?a7 ?l7 ?c7 ?k7 ?a8 ?l8 ?c8 ?k8 ?a9 ?l9 ?c9 ?k9 ?a10 ?l10 ?c10 ?k10 ?a11 ?l11 ?c11 ?k11 ?a12 ?l12 ?c12 ?k12 ?a13 ?l13 ?c13 ?k13 ?a14 ?l14 ?c14 ?k14 ?a15 ?l15 ?c15 ?k15 ?z_int ?z_len ?z_max ?z_min ?z_range
    (case a1 => k_is)
    (case l1 => k_is)
    (case c1 => k_is)
    (case k1 => k_is)
    (case a2 => k_is)
    (case l2 => k_is)
    (case c2 => k_is)
    (case k2 => k_is)
    (case a3 => k_is)
    (case l3 => k_is)
    (case c3 => k_is)
    (case k3 => k_is)
    (case a4 => k_is)
    (case l4 => k_is)
    (case c4 => k_is)
    (case k4 => k_is)
    (case a5 => k_is)
    (case l5 => k_is)
    (case c5 => k_is)
    (case k5 => k_is)
    (case a6 => k_is)
    (case l6 => k_is)
    (case c6 => k_is)
    (case k6 => k_is)
    (case a7 => k_is)
    (case l7 => k_is)
    (case c7 => k_is)
    (case k7 => k_is)
    (case a8 => k_is)
    (case l8 => k_is)
    (case c8 => k_is)
    (case k8 => k_is)
    (case a9 => k_is)
    (case l9 => k_is)
    (case c9 => k_is)
    (case k9 => k_is)
    (case a10 => k_is)
    (case l10 => k_is)
    (case c10 => k_is)
    (case k10 => k_is)
    (case a11 => k_is)
    (case l11 => k_is)
    (case c11 => k_is)
    (case k11 => k_is)
    (case a12 => k_is)
    (case l12 => k_is)
    (case c12 => k_is)
    (case k12 => k_is)
    (case a13 => k_is)
    (case l13 => k_is)
    (case c13 => k_is)
    (case k13 => k_is)
    (case a14 => k_is)
    (case l14 => k_is)
    (case c14 => k_is)
    (case k14 => k_is)
    (case a15 => k_is)
    (case l15 => k_is)
    (case c15 => k_is)
    (case k15 => k_is)
    (case z_int => k_is)
    (case z_len => k_is)
    (case z_max => k_is)
    (case z_min => k_is)
    (case z_range => k_is)
