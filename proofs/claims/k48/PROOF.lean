import PyProof.Rows.All
import Wide.All
import OpenK.AllK
import Wide.FinOn
import HandS.ForMost
import HandS.Exc
import HandS.TryOnly
import HandS.ExcOwn
import HandS.WordsExc
import HandS.IsInst
import HandS.Wide
import HandS.Flow
import HandS.More
import HandS.Codes
import HandS.Walk
import HandS.TupLe
import HandS.WordsDict
import HandS.Conv
import HandS.TryMany
import HandS.ExcIs
import KE.KBits
import HandS.CallLocal
import HandS.Strs
import HandS.SetFor
import HandS.Set
import HandS.Property
import PySem.Challenge.RW_sillwatch_k48_settled_points
set_option Elab.async false
set_option linter.all false
set_option maxRecDepth 100000
set_option maxHeartbeats 4000000
namespace My
open PySem L2
def topS (i : Nat) : Stmt := PySem.Challenge.pw_sillwatch_k48_settled_points.main.body.getD i (.Pass ⟨0, 0, 0, 0⟩)
abbrev s_has_point : Stmt := topS 1
abbrev s_top_cover : Stmt := topS 3
abbrev s__has_point_in : Stmt := topS 4
abbrev s__disowned : Stmt := topS 8
abbrev s__window_at : Stmt := topS 9
abbrev s__framed_at : Stmt := topS 10
abbrev s__law_cell : Stmt := topS 12
abbrev s__law_row : Stmt := topS 13
abbrev s__law_covers : Stmt := topS 14
abbrev s__law_top : Stmt := topS 15
abbrev s__law_owner : Stmt := topS 16
abbrev s__law_disowned : Stmt := topS 17
abbrev s__law_counting : Stmt := topS 18
abbrev s__law_good : Stmt := topS 19
abbrev s_law : Stmt := topS 20
abbrev s_Painted___init__ : Stmt := inClass (topS 7) 0
abbrev s_Painted_paint : Stmt := inClass (topS 7) 1
abbrev s_Painted_disown : Stmt := inClass (topS 7) 2
abbrev s_Painted_scenes : Stmt := inClass (topS 7) 3
abbrev s_Painted_is_settled : Stmt := inClass (topS 7) 4
abbrev s_Painted_was_seen : Stmt := inClass (topS 7) 5
abbrev s_Painted__latest : Stmt := inClass (topS 7) 6
structure Adr where
  fhas_point : Addr
  dhas_point : FuncData
  ftop_cover : Addr
  dtop_cover : FuncData
  f_has_point_in : Addr
  d_has_point_in : FuncData
  f_disowned : Addr
  d_disowned : FuncData
  f_window_at : Addr
  d_window_at : FuncData
  f_framed_at : Addr
  d_framed_at : FuncData
  f_law_cell : Addr
  d_law_cell : FuncData
  f_law_row : Addr
  d_law_row : FuncData
  f_law_covers : Addr
  d_law_covers : FuncData
  f_law_top : Addr
  d_law_top : FuncData
  f_law_owner : Addr
  d_law_owner : FuncData
  f_law_disowned : Addr
  d_law_disowned : FuncData
  f_law_counting : Addr
  d_law_counting : FuncData
  f_law_good : Addr
  d_law_good : FuncData
  flaw : Addr
  dlaw : FuncData
  fPainted___init__ : Addr
  dPainted___init__ : FuncData
  fPainted_paint : Addr
  dPainted_paint : FuncData
  fPainted_disown : Addr
  dPainted_disown : FuncData
  fPainted_scenes : Addr
  dPainted_scenes : FuncData
  fPainted_is_settled : Addr
  dPainted_is_settled : FuncData
  fPainted_was_seen : Addr
  dPainted_was_seen : FuncData
  fPainted__latest : Addr
  dPainted__latest : FuncData
  tLONGEST_GUARD : Tok
  CPainted : Addr
structure Txt (K : PySem.W.Frag) (mg : Str → Option Value) (A : Adr) : Prop where
  Fhas_point : Fun K "has_point" "has_point" s_has_point A.fhas_point A.dhas_point
  bhas_point : Binds K A.dhas_point ["rectangle", "x", "y"] []
  ghas_point : mg "has_point" = some (.ref A.fhas_point)
  khas_point : PySem.W.keepIn K (.ref A.fhas_point) = true
  Ftop_cover : Fun K "top_cover" "top_cover" s_top_cover A.ftop_cover A.dtop_cover
  btop_cover : Binds K A.dtop_cover ["covers", "x", "y"] []
  gtop_cover : mg "top_cover" = some (.ref A.ftop_cover)
  ktop_cover : PySem.W.keepIn K (.ref A.ftop_cover) = true
  F_has_point_in : Fun K "_has_point_in" "_has_point_in" s__has_point_in A.f_has_point_in A.d_has_point_in
  b_has_point_in : Binds K A.d_has_point_in ["rectangles", "x", "y"] []
  g_has_point_in : mg "_has_point_in" = some (.ref A.f_has_point_in)
  k_has_point_in : PySem.W.keepIn K (.ref A.f_has_point_in) = true
  F_disowned : Fun K "_disowned" "_disowned" s__disowned A.f_disowned A.d_disowned
  b_disowned : Binds K A.d_disowned ["cover", "slot"] []
  g_disowned : mg "_disowned" = some (.ref A.f_disowned)
  k_disowned : PySem.W.keepIn K (.ref A.f_disowned) = true
  F_window_at : Fun K "_window_at" "_window_at" s__window_at A.f_window_at A.d_window_at
  b_window_at : Binds K A.d_window_at ["covers", "x", "y"] []
  g_window_at : mg "_window_at" = some (.ref A.f_window_at)
  k_window_at : PySem.W.keepIn K (.ref A.f_window_at) = true
  F_framed_at : Fun K "_framed_at" "_framed_at" s__framed_at A.f_framed_at A.d_framed_at
  b_framed_at : Binds K A.d_framed_at ["covers", "x", "y"] []
  g_framed_at : mg "_framed_at" = some (.ref A.f_framed_at)
  k_framed_at : PySem.W.keepIn K (.ref A.f_framed_at) = true
  F_law_cell : Fun K "_law_cell" "_law_cell" s__law_cell A.f_law_cell A.d_law_cell
  b_law_cell : Binds K A.d_law_cell ["script", "k"] []
  g_law_cell : mg "_law_cell" = some (.ref A.f_law_cell)
  k_law_cell : PySem.W.keepIn K (.ref A.f_law_cell) = true
  F_law_row : Fun K "_law_row" "_law_row" s__law_row A.f_law_row A.d_law_row
  b_law_row : Binds K A.d_law_row ["script", "k"] []
  g_law_row : mg "_law_row" = some (.ref A.f_law_row)
  k_law_row : PySem.W.keepIn K (.ref A.f_law_row) = true
  F_law_covers : Fun K "_law_covers" "_law_covers" s__law_covers A.f_law_covers A.d_law_covers
  b_law_covers : Binds K A.d_law_covers ["row"] []
  g_law_covers : mg "_law_covers" = some (.ref A.f_law_covers)
  k_law_covers : PySem.W.keepIn K (.ref A.f_law_covers) = true
  F_law_top : Fun K "_law_top" "_law_top" s__law_top A.f_law_top A.d_law_top
  b_law_top : Binds K A.d_law_top ["covers", "x", "y"] []
  g_law_top : mg "_law_top" = some (.ref A.f_law_top)
  k_law_top : PySem.W.keepIn K (.ref A.f_law_top) = true
  F_law_owner : Fun K "_law_owner" "_law_owner" s__law_owner A.f_law_owner A.d_law_owner
  b_law_owner : Binds K A.d_law_owner ["covers", "x", "y", "seen"] []
  g_law_owner : mg "_law_owner" = some (.ref A.f_law_owner)
  k_law_owner : PySem.W.keepIn K (.ref A.f_law_owner) = true
  F_law_disowned : Fun K "_law_disowned" "_law_disowned" s__law_disowned A.f_law_disowned A.d_law_disowned
  b_law_disowned : Binds K A.d_law_disowned ["history", "slot"] []
  g_law_disowned : mg "_law_disowned" = some (.ref A.f_law_disowned)
  k_law_disowned : PySem.W.keepIn K (.ref A.f_law_disowned) = true
  F_law_counting : Fun K "_law_counting" "_law_counting" s__law_counting A.f_law_counting A.d_law_counting
  b_law_counting : Binds K A.d_law_counting ["history", "time", "guard"] []
  g_law_counting : mg "_law_counting" = some (.ref A.f_law_counting)
  k_law_counting : PySem.W.keepIn K (.ref A.f_law_counting) = true
  F_law_good : Fun K "_law_good" "_law_good" s__law_good A.f_law_good A.d_law_good
  b_law_good : Binds K A.d_law_good ["painted", "history", "now", "row", "time"] []
  g_law_good : mg "_law_good" = some (.ref A.f_law_good)
  k_law_good : PySem.W.keepIn K (.ref A.f_law_good) = true
  Flaw : Fun K "law" "law" s_law A.flaw A.dlaw
  blaw : Binds K A.dlaw ["script"] []
  glaw : mg "law" = some (.ref A.flaw)
  klaw : PySem.W.keepIn K (.ref A.flaw) = true
  FPainted___init__ : Fun K "__init__" "Painted.__init__" s_Painted___init__ A.fPainted___init__ A.dPainted___init__
  bPainted___init__ : Binds K A.dPainted___init__ ["self"] []
  MPainted : Mk K A.CPainted A.fPainted___init__
  FPainted_paint : Fun K "paint" "Painted.paint" s_Painted_paint A.fPainted_paint A.dPainted_paint
  bPainted_paint : Binds K A.dPainted_paint ["self", "time", "covers"] []
  mPainted_paint : Meth K A.CPainted "paint" A.fPainted_paint
  FPainted_disown : Fun K "disown" "Painted.disown" s_Painted_disown A.fPainted_disown A.dPainted_disown
  bPainted_disown : Binds K A.dPainted_disown ["self", "slot"] []
  mPainted_disown : Meth K A.CPainted "disown" A.fPainted_disown
  FPainted_scenes : Fun K "scenes" "Painted.scenes" s_Painted_scenes A.fPainted_scenes A.dPainted_scenes
  bPainted_scenes : Binds K A.dPainted_scenes ["self", "time", "guard"] []
  mPainted_scenes : Meth K A.CPainted "scenes" A.fPainted_scenes
  FPainted_is_settled : Fun K "is_settled" "Painted.is_settled" s_Painted_is_settled A.fPainted_is_settled A.dPainted_is_settled
  bPainted_is_settled : Binds K A.dPainted_is_settled ["self", "covers", "time", "guard", "x", "y"] []
  mPainted_is_settled : Meth K A.CPainted "is_settled" A.fPainted_is_settled
  FPainted_was_seen : Fun K "was_seen" "Painted.was_seen" s_Painted_was_seen A.fPainted_was_seen A.dPainted_was_seen
  bPainted_was_seen : Binds K A.dPainted_was_seen ["self", "covers", "time", "guard", "x", "y"] []
  mPainted_was_seen : Meth K A.CPainted "was_seen" A.fPainted_was_seen
  FPainted__latest : Fun K "_latest" "Painted._latest" s_Painted__latest A.fPainted__latest A.dPainted__latest
  bPainted__latest : Binds K A.dPainted__latest ["self", "limit"] []
  mPainted__latest : Meth K A.CPainted "_latest" A.fPainted__latest
  all : mg "all" = none
  any : mg "any" = none
  int : mg "int" = none
  len : mg "len" = none
  list : mg "list" = none
  min : mg "min" = none
  range : mg "range" = none
  reversed : mg "reversed" = none
  zip : mg "zip" = none
  gLONGEST_GUARD : mg "LONGEST_GUARD" = some (.int (1000) A.tLONGEST_GUARD)
  clPainted : Cls K A.CPainted
  gPainted : mg "Painted" = some (.ref A.CPainted)
  nPainted__rows : NoAttr K A.CPainted "_rows"
section
variable {P : Program} {w : World} {K : PySem.W.Frag} {mg : Str → Option Value} {base : Heap} {A : Adr}
/-! ### common: tests, errors, small words -/
theorem exm_self {K : PySem.W.Frag} {S : Addr} (h1 : PySem.W.subIn K (.ref S) (.type "BaseException") = some true) (h2 : PySem.W.isClsIn K S = true) (h3 : PySem.W.typeIn K (.ref S) = some (.type "type")) (h4 : PySem.W.subIn K (.ref S) (.ref S) = some true) :
    PySem.W.exmOne K (.ref S) (.ref S) = some true := by
  have g1 : (PySem.W.subIn K (.ref S) (.type "BaseException") == some true) = true := by rw [h1]; rfl
  have g0 : (PySem.W.clsIn K S).isSome = true := h2
  have g2 : ((PySem.W.clsIn K S).isSome && PySem.W.typeIn K (.ref S) == some (.type "type")) = true := by rw [g0, h3]; rfl
  show (if (PySem.W.subIn K (.ref S) (.type "BaseException") == some true) = true then (if ((PySem.W.clsIn K S).isSome && PySem.W.typeIn K (.ref S) == some (.type "type")) = true then PySem.W.subIn K (.ref S) (.ref S) else none) else none) = some true
  rw [if_pos g1, if_pos g2]
  exact h4
theorem exm_cross {K : PySem.W.Frag} {S R : Addr} {b : Bool} (h1 : PySem.W.subIn K (.ref S) (.type "BaseException") = some true) (h2 : PySem.W.isClsIn K S = true) (h3 : PySem.W.typeIn K (.ref S) = some (.type "type")) (h4 : PySem.W.subIn K (.ref R) (.ref S) = some b) :
    PySem.W.exmOne K (.ref R) (.ref S) = some b := by
  have g1 : (PySem.W.subIn K (.ref S) (.type "BaseException") == some true) = true := by rw [h1]; rfl
  have g0 : (PySem.W.clsIn K S).isSome = true := h2
  have g2 : ((PySem.W.clsIn K S).isSome && PySem.W.typeIn K (.ref S) == some (.type "type")) = true := by rw [g0, h3]; rfl
  show (if (PySem.W.subIn K (.ref S) (.type "BaseException") == some true) = true then (if ((PySem.W.clsIn K S).isSome && PySem.W.typeIn K (.ref S) == some (.type "type")) = true then PySem.W.subIn K (.ref R) (.ref S) else none) else none) = some b
  rw [if_pos g1, if_pos g2]
  exact h4
/-- the law's own promise -/
def sp_law (K : PySem.W.Frag) : Sp := fun vs H Q _ => ∃ (a : Addr) (ns : List Int), vs = [.ref a] ∧ SqL K H a (ns.map V.int) ∧ ns.length ≤ 63 ∧ ∀ H', Q (.bl true) H'
theorem iteP {p A B : Prop} [Decidable p] (h1 : p → A) (h2 : ¬ p → B) : if decide p = true then A else B := by
  by_cases h : p
  · rw [decide_eq_true h]; exact iteT (h1 h)
  · rw [decide_eq_false h]; exact iteF (h2 h)
theorem iteN {p A B : Prop} [Decidable p] (h1 : ¬ p → A) (h2 : p → B) : if (!decide p) = true then A else B := by
  by_cases h : p
  · rw [decide_eq_true h]; exact iteF (h2 h)
  · rw [decide_eq_false h]; exact iteT (h1 h)
theorem iteEq {i j : Int} {A B : Prop} (h1 : i = j → A) (h2 : i ≠ j → B) : if decide (V.int i = V.int j) = true then A else B :=
  iteP (fun h => h1 (V.int.inj h)) (fun h => h2 fun e => h (congrArg V.int e))
theorem iteNe {i j : Int} {A B : Prop} (h1 : i ≠ j → A) (h2 : i = j → B) : if (!decide (V.int i = V.int j)) = true then A else B :=
  iteN (fun h => h1 fun e => h (congrArg V.int e)) (fun h => h2 (V.int.inj h))
theorem if_t {b : Bool} {A B : Prop} (e : b = true) (h : A) : if b = true then A else B := by rw [if_pos e]; exact h
theorem if_f {b : Bool} {A B : Prop} (e : b = false) (h : B) : if b = true then A else B := by rw [e]; exact iteF h
theorem if_b {b : Bool} {A B : Prop} (h1 : b = true → A) (h2 : b = false → B) : if b = true then A else B := by
  cases b with
  | true => exact iteT (h1 rfl)
  | false => exact iteF (h2 rfl)
theorem same_upd {H : Hp} {p : Addr} {o : HO} (h : H p = none) : Same H (upd H p o) := fun b x e => by
  rw [upd_ne (ne_of_none e h)]
  exact e
theorem len_line {n : Nat} (h : n ≤ 100000) : n ≤ sizeLine := Nat.le_trans h (by decide)
theorem lt_line {n : Nat} (h : n < 100000) : n < sizeLine := Nat.lt_of_lt_of_le h (by decide)
local macro_rules | `(tactic| walk_at "rd") => `(tactic| repeat (first
  | refine ⟨_, rfl, ?_⟩
  | refine ⟨_, _, rfl, rfl, ?_⟩
  | refine ⟨rfl, ?_⟩
  | refine Or.inl ⟨_, rfl, ?_⟩
  | refine ⟨(by show (0 : Int) < _; decide), ?_⟩
  | refine ⟨(⟨by decide, by decide⟩ : CDiv _ _), ?_⟩
  | refine ⟨(Or.inl ⟨by decide, by decide⟩ : CMul _ _), ?_⟩
  | refine ⟨(Or.inr ⟨by decide, by decide⟩ : CMul _ _), ?_⟩))
/-! ### data that are compared -/
def Sh (n : Nat) (d : PyData) : Prop := d.canLay0 = true ∧ d.depth ≤ n
theorem Sh.mono {n m : Nat} {d : PyData} (h : Sh n d) (l : n ≤ m) : Sh m d := ⟨h.1, Nat.le_trans h.2 l⟩
theorem sh_all : ∀ {n : Nat} {ds : List PyData}, (∀ d ∈ ds, Sh n d) → PyData.canLayAll0 ds = true ∧ PyData.depthAll ds ≤ n
  | n, [], _ => ⟨by simp [PyData.canLayAll0], by simp [PyData.depthAll]⟩
  | n, d :: ds, h => by
    have h1 := h d List.mem_cons_self
    have h2 := sh_all fun e he => h e (List.mem_cons_of_mem _ he)
    refine ⟨?_, ?_⟩
    · simp only [PyData.canLayAll0, Bool.and_eq_true]; exact ⟨h1.1, h2.1⟩
    · simp only [PyData.depthAll]; exact Nat.max_le.mpr ⟨h1.2, h2.2⟩
theorem sh_list {n : Nat} {ds : List PyData} (h : ∀ d ∈ ds, Sh n d) : Sh (n + 1) (.list ds) := by
  have q := sh_all h
  exact ⟨by simp only [PyData.canLay0]; exact q.1, by simp only [PyData.depth]; exact Nat.succ_le_succ q.2⟩
theorem sh_tuple {n : Nat} {ds : List PyData} (h : ∀ d ∈ ds, Sh n d) : Sh (n + 1) (.tuple ds) := by
  have q := sh_all h
  exact ⟨by simp only [PyData.canLay0]; exact q.1, by simp only [PyData.depth]; exact Nat.succ_le_succ q.2⟩
theorem sh_int (i : Int) : Sh 0 (.int i) := ⟨by simp [PyData.canLay0], by simp [PyData.depth]⟩
theorem sh_bool (i : Bool) : Sh 0 (.bool i) := ⟨by simp [PyData.canLay0], by simp [PyData.depth]⟩
theorem sh_none : Sh 0 .none := ⟨by simp [PyData.canLay0], by simp [PyData.depth]⟩
theorem sh_str {s : Str} (h : PyData.strOk s = true) : Sh 0 (.str s) := ⟨by simp only [PyData.canLay0]; exact h, by simp [PyData.depth]⟩
theorem Sh.shaped {n : Nat} {d : PyData} (h : Sh n d) (l : n ≤ 64 := by decide) : SeqAt.shaped d = true := by
  show (d.canLay0 && decide (d.depth ≤ 64)) = true
  rw [h.1, decide_eq_true (Nat.le_trans h.2 l)]
  rfl
theorem Sh.self {n : Nat} {d : PyData} (h : Sh n d) : PyData.eqv d d = true := SeqAt.eqv_refl d h.1
def pInts (xs : List Int) : PyData := .list (xs.map PyData.int)
theorem sh_ints (xs : List Int) : Sh 1 (pInts xs) := sh_list fun d hd => by
  obtain ⟨i, _, rfl⟩ := List.mem_map.mp hd
  exact sh_int i
theorem dpall_ints {K : PySem.W.Frag} {H : Hp} : ∀ xs : List Int, DpAll K H (xs.map V.int) (xs.map PyData.int)
  | [] => .nil
  | x :: r => .cons (.int x) (dpall_ints r)
theorem dp_ints {K : PySem.W.Frag} {H : Hp} {p : Addr} {xs : List Int} (h : SqL K H p (xs.map V.int)) : Dp K H (.ref p) (pInts xs) := .lst h (dpall_ints xs)
/-! ### views: what is new, what stands -/
structure Ext (V H V' H' : Hp) : Prop where
  vv : Same V V'
  vh : Same V' H'
  hh : Same H H'
  nw : ∀ a, V' a ≠ none → V a ≠ none ∨ H a = none
theorem Ext.refl {V H : Hp} (h : Same V H) : Ext V H V H := ⟨Same.refl V, h, Same.refl H, fun _ h => Or.inl h⟩
theorem Ext.trans {V H V1 H1 V2 H2 : Hp} (a : Ext V H V1 H1) (b : Ext V1 H1 V2 H2) : Ext V H V2 H2 :=
  ⟨a.vv.trans b.vv, b.vh, a.hh.trans b.hh, fun x h => by
    rcases b.nw x h with q | q
    · exact a.nw x q
    · exact Or.inr (a.hh.free q)⟩
theorem none_of_same {V H : Hp} {p : Addr} (s : Same V H) (h : H p = none) : V p = none := s.free h
theorem Ext.new {V H : Hp} {p : Addr} {o : HO} (s : Same V H) (h : H p = none) : Ext V H (upd V p o) (upd H p o) :=
  ⟨same_upd (s.free h), fun b u e => by
    by_cases hb : b = p
    · subst hb; rw [upd_same] at e ⊢; exact e
    · rw [upd_ne hb] at e ⊢; exact s b u e, same_upd h, fun a e => by
    by_cases ha : a = p
    · subst ha; exact Or.inr h
    · rw [upd_ne ha] at e; exact Or.inl e⟩
/-- a new object that the view does not take in -/
theorem Ext.skip {V H : Hp} {p : Addr} {o : HO} (s : Same V H) (h : H p = none) : Ext V H V (upd H p o) :=
  ⟨Same.refl V, s.trans (same_upd h), same_upd h, fun _ e => Or.inl e⟩
theorem Ext.keepOut {V H V' H' : Hp} (x : Ext V H V' H') {D : Addr} (h : V D = none) (hd : H D ≠ none) : V' D = none := by
  cases e : V' D with
  | none => rfl
  | some o =>
    rcases x.nw D (by rw [e]; exact fun z => by cases z) with q | q
    · exact absurd h q
    · exact absurd q hd
/-- an object outside of the view changes -/
theorem Ext.poke {V H V' H' : Hp} (x : Ext V H V' H') {D : Addr} {o : HO} (hd : H D = none) (h : V' D = none) : Ext V H V' (upd H' D o) :=
  ⟨x.vv, fun b u e => by
    have hb : b ≠ D := fun z => by rw [z, h] at e; cases e
    rw [upd_ne hb]; exact x.vh b u e, fun b u e => by
    have hb : b ≠ D := ne_of_none e hd
    rw [upd_ne hb]; exact x.hh b u e, x.nw⟩
/-- the object at D, done, is taken in -/
theorem Ext.take {V H V' H' : Hp} (x : Ext V H V' H') {D : Addr} {o : HO} (hd : H D = none) (h : V' D = none) (e : H' D = some o) : Ext V H (upd V' D o) H' :=
  ⟨x.vv.trans (same_upd h), fun b u q => by
    by_cases hb : b = D
    · subst hb; rw [upd_same] at q; rw [e]; exact q
    · rw [upd_ne hb] at q; exact x.vh b u q, x.hh, fun a q => by
    by_cases ha : a = D
    · subst ha; exact Or.inr hd
    · rw [upd_ne ha] at q; exact x.nw a q⟩
theorem _root_.L2.Same.sqt {K : PySem.W.Frag} {H H' : Hp} {a : Addr} {xs : List V} (e : Same H H') (h : SqT K H a xs) : SqT K H' a xs := by
  rcases h with (h | ⟨o, h⟩) | h
  · exact .inl (.inl (e _ _ h))
  · exact .inl (.inr ⟨o, e _ _ h⟩)
  · exact .inr h
mutual
theorem dp_same {K : PySem.W.Frag} {H H' : Hp} (s : Same H H') : ∀ (d : PyData) (v : V), Dp K H v d → Dp K H' v d
  | .none, _, h => by cases h; exact .non
  | .bool b, _, h => by cases h; exact .bl b
  | .int i, _, h => by cases h; exact .int i
  | .str x, _, h => by cases h; exact .str x
  | .list ds, _, h => by
    cases h with
    | lst q r => exact .lst (s.seq q) (dpall_same s ds _ r)
  | .tuple ds, _, h => by
    cases h with
    | tup q r => exact .tup (s.sqt q) (dpall_same s ds _ r)
  | .dict _, _, h => by cases h
theorem dpall_same {K : PySem.W.Frag} {H H' : Hp} (s : Same H H') : ∀ (ds : List PyData) (vs : List V), DpAll K H vs ds → DpAll K H' vs ds
  | [], _, h => by cases h; exact .nil
  | d :: ds, _, h => by
    cases h with
    | cons q r => exact .cons (dp_same s d _ q) (dpall_same s ds _ r)
end
theorem _root_.L2.Dp.to {K : PySem.W.Frag} {H H' : Hp} {v : V} {d : PyData} (h : Dp K H v d) (s : Same H H') : Dp K H' v d := dp_same s d v h
theorem _root_.L2.DpAll.to {K : PySem.W.Frag} {H H' : Hp} {v : List V} {d : List PyData} (h : DpAll K H v d) (s : Same H H') : DpAll K H' v d := dpall_same s d v h
theorem dpall_len {K : PySem.W.Frag} {H : Hp} : ∀ {vs : List V} {ds : List PyData}, DpAll K H vs ds → vs.length = ds.length
  | _, [], h => by cases h; rfl
  | _, d :: ds, h => by
    cases h with
    | cons q r => exact congrArg (· + 1) (dpall_len r)
theorem dpall_get {K : PySem.W.Frag} {H : Hp} : ∀ {vs : List V} {ds : List PyData} {i : Nat} {v : V}, DpAll K H vs ds → vs[i]? = some v → ∃ d, ds[i]? = some d ∧ Dp K H v d
  | _, [], i, v, h, e => by cases h; cases e
  | _, d :: ds, i, v, h, e => by
    cases h with
    | cons q r =>
      match i, e with
      | 0, e => cases e; exact ⟨d, rfl, q⟩
      | i + 1, e => exact dpall_get (i := i) r e
theorem dpall_get' {K : PySem.W.Frag} {H : Hp} : ∀ {vs : List V} {ds : List PyData} {i : Nat} {d : PyData}, DpAll K H vs ds → ds[i]? = some d → ∃ v, vs[i]? = some v ∧ Dp K H v d
  | _, [], i, d, h, e => by cases e
  | _, d :: ds, i, d', h, e => by
    cases h with
    | cons q r =>
      match i, e with
      | 0, e => cases e; exact ⟨_, rfl, q⟩
      | i + 1, e => exact dpall_get' (i := i) r e
theorem dpall_app {K : PySem.W.Frag} {H : Hp} : ∀ {vs ws : List V} {ds es : List PyData}, DpAll K H vs ds → DpAll K H ws es → DpAll K H (vs ++ ws) (ds ++ es)
  | _, _, [], _, h, g => by cases h; exact g
  | _, _, d :: ds, _, h, g => by
    cases h with
    | cons q r => exact .cons q (dpall_app r g)
theorem dp_list {K : PySem.W.Frag} {H : Hp} {v : V} {ds : List PyData} (h : Dp K H v (.list ds)) : ∃ a xs, v = .ref a ∧ SqL K H a xs ∧ DpAll K H xs ds := by
  cases h with
  | lst q r => exact ⟨_, _, rfl, q, r⟩
theorem dp_tuple {K : PySem.W.Frag} {H : Hp} {v : V} {ds : List PyData} (h : Dp K H v (.tuple ds)) : ∃ a xs, v = .ref a ∧ SqT K H a xs ∧ DpAll K H xs ds := by
  cases h with
  | tup q r => exact ⟨_, _, rfl, q, r⟩
theorem dp_int {K : PySem.W.Frag} {H : Hp} {v : V} {i : Int} (h : Dp K H v (.int i)) : v = .int i := by cases h; rfl
theorem dp_str {K : PySem.W.Frag} {H : Hp} {v : V} {i : Str} (h : Dp K H v (.str i)) : v = .str i := by cases h; rfl
theorem dp_bool {K : PySem.W.Frag} {H : Hp} {v : V} {i : Bool} (h : Dp K H v (.bool i)) : v = .bl i := by cases h; rfl
/-! ### comprehensions over any walk -/
def fm {α : Type} (f : Nat → Option α) (n : Nat) : List α := (List.range n).filterMap f
theorem fm_succ {α : Type} (f : Nat → Option α) (n : Nat) : fm f (n + 1) = fm f n ++ (f n).toList := by
  unfold fm
  rw [List.range_succ, List.filterMap_append]
  congr 1
theorem fm_len {α : Type} (f : Nat → Option α) (n : Nat) : (fm f n).length ≤ n := by
  have h := List.length_filterMap_le f (List.range n)
  rw [List.length_range] at h
  exact h
structure LcInv (K : PySem.W.Frag) (V0 H0 : Hp) (D : Addr) (acc : List PyData) (H : Hp) : Prop where
  ex : ∃ V xs, Ext V0 H0 V H ∧ V D = none ∧ H D = some (.lst xs) ∧ DpAll K V xs acc
theorem LcInv.start {K : PySem.W.Frag} {V0 H0 : Hp} {D : Addr} (s : Same V0 H0) (hD : H0 D = none) : LcInv K V0 H0 D [] (upd H0 D (.lst [])) :=
  ⟨V0, [], Ext.skip s hD, s.free hD, upd_same, .nil⟩
theorem LcInv.done {K : PySem.W.Frag} {V0 H0 H : Hp} {D : Addr} {acc : List PyData} (hD : H0 D = none) (i : LcInv K V0 H0 D acc H) : ∃ U xs, Ext V0 H0 U H ∧ U D = some (.lst xs) ∧ DpAll K U xs acc ∧ Dp K U (.ref D) (.list acc) := by
  obtain ⟨V, xs, x, hv, hd, dp⟩ := i.ex
  exact ⟨_, xs, x.take hD hv hd, upd_same, dp.to (same_upd hv), .lst (SqL.of upd_same) (dp.to (same_upd hv))⟩
/-- one more item -/
theorem LcInv.push {K : PySem.W.Frag} {V0 H0 U H U' H' : Hp} {D : Addr} {acc : List PyData} {xs : List V} {y : V} {d : PyData} (hD : H0 D = none) (x : Ext V0 H0 U H) (hv : U D = none) (hd : H D = some (.lst xs)) (dp : DpAll K U xs acc)
    (x2 : Ext U H U' H') (e : Dp K U' y d) (hl : acc.length < 100000) :
    ∃ acc', H' D = some (.lst acc') ∧ acc'.length < sizeLine ∧ LcInv K V0 H0 D (acc ++ [d]) (upd H' D (.lst (acc' ++ [y]))) := by
  have hv' : U' D = none := x2.keepOut hv (by rw [hd]; exact fun z => by cases z)
  refine ⟨xs, x2.hh _ _ hd, lt_line (by rw [dpall_len dp]; exact hl), U', xs ++ [y], (x.trans x2).poke hD hv', hv', upd_same, dpall_app (dp.to x2.vv) (.cons e .nil)⟩
/-- a comprehension's reading over a walk that leaves the heap as it is: at turn i the item x, then f i: the data of what is put in, or none -/
theorem lc_dp0 {J : It} {n : Nat} {G : Hp → Prop} {Y : Nat → Hp → V → Hp → Prop} (wk : Walk J n G Y) {K : PySem.W.Frag} {V0 H0 : Hp} {D : Addr} {g : TG} {tt : TT} {te : TE} {vs : List Nat} {σ : St} {Qd : Hp → Prop} (f : Nat → Option PyData) (σ0 : St) (hσ : wipe σ vs = σ0) (s0 : Same V0 H0) (hD : H0 D = none) (hn : n < 100000)
    (hG : ∀ H, Same H0 H → G H) (hY : ∀ i H x H', Y i H x H' → H' = H)
    (hs : ∀ i x V H, i < n → Ext V0 H0 V H → Y i H x H → ∀ (Qy : VK) (Qn : Hp → Prop), (∀ d y V' H', f i = some d → Ext V H V' H' → Dp K V' y d → Qy y H') → (f i = none → ∀ V' H', Ext V H V' H' → Qn H') →
      g x σ0 H fun σ2 H2 => wipe σ2 vs = σ0 ∧ tt σ2 H2 fun b H3 => if b = true then te σ2 H3 Qy else Qn H3)
    (hd : ∀ (U H : Hp) (xs : List V), Ext V0 H0 U H → U D = none → H D = some (.lst xs) → DpAll K U xs (fm f n) → Qd H) :
    ∃ W : Nat → Nat → Hp → Prop, (∃ m, W 0 m (upd H0 D (.lst []))) ∧ ∀ i m H, W i m H →
      (J.stop i H ∧ Qd H) ∨ (J.go i H ∧ ∃ Nx : Hp → Prop, (∀ H', Nx H' → ∃ m', m' < m ∧ W (i + 1) m' H') ∧ ∀ x H', J.yld i H x H' → g x (wipe σ vs) H' fun σ2 H2 => wipe σ2 vs = wipe σ vs ∧ tt σ2 H2 fun b H3 =>
        if b = true then te σ2 H3 fun y H4 => ∃ acc, H4 D = some (.lst acc) ∧ acc.length < sizeLine ∧ Nx (upd H4 D (.lst (acc ++ [y]))) else Nx H3) := by
  subst hσ
  refine lc_it wk (fun i H => LcInv K V0 H0 D (fm f i) H) (LcInv.start s0 hD) (fun i H _ p => ?_) (fun i x H H' hi p y => ?_) (fun H p => ?_)
  · obtain ⟨V, xs, x, _⟩ := p.ex
    exact hG H x.hh
  · obtain ⟨V, xs, x0, hv, hdd, dp⟩ := p.ex
    obtain rfl := hY i H x H' y
    refine hs i x V H' hi x0 y _ _ (fun d y' V' H4 e x2 dy => ?_) (fun e V' H4 x2 => ?_)
    · have hl : (fm f i).length < 100000 := Nat.lt_of_le_of_lt (fm_len f i) (Nat.lt_trans hi hn)
      obtain ⟨acc', a1, a2, a3⟩ := LcInv.push hD x0 hv hdd dp x2 dy hl
      refine ⟨acc', a1, a2, ?_⟩
      rw [fm_succ, e]
      exact a3
    · have hv' : V' D = none := x2.keepOut hv (by rw [hdd]; exact fun z => by cases z)
      rw [fm_succ, e]
      show LcInv K V0 H0 D (fm f i ++ []) H4
      rw [List.append_nil]
      exact ⟨V', xs, x0.trans x2, hv', x2.hh _ _ hdd, dp.to x2.vv⟩
  · obtain ⟨U, xs, x, hv, hdd, dp⟩ := p.ex
    exact hd U H xs x hv hdd dp
/-- a comprehension's reading over a walk that leaves the heap as it is: at turn i the item x, then f i: the data of what is put in, or none -/
theorem lc_dp {J : It} {n : Nat} {G : Hp → Prop} {Y : Nat → Hp → V → Hp → Prop} (wk : Walk J n G Y) {K : PySem.W.Frag} {V0 H0 : Hp} {D : Addr} {g : TG} {tt : TT} {te : TE} {vs : List Nat} {σ : St} {Qd : Hp → Prop} (f : Nat → Option PyData) (σ0 : St) (hσ : wipe σ vs = σ0) (s0 : Same V0 H0) (hD : H0 D = none) (hn : n < 100000)
    (hG : ∀ H, Same H0 H → G H) (hY : ∀ i H x H', Y i H x H' → H' = H)
    (hs : ∀ i x V H, i < n → Ext V0 H0 V H → Y i H x H → ∀ (Qy : VK) (Qn : Hp → Prop), (∀ d y V' H', f i = some d → Ext V H V' H' → Dp K V' y d → Qy y H') → (f i = none → ∀ V' H', Ext V H V' H' → Qn H') →
      g x σ0 H fun σ2 H2 => wipe σ2 vs = σ0 ∧ tt σ2 H2 fun b H3 => if b = true then te σ2 H3 Qy else Qn H3)
    (hd : ∀ (U H : Hp) (xs : List V), Ext V0 H0 U H → U D = some (.lst xs) → DpAll K U xs (fm f n) → Dp K U (.ref D) (.list (fm f n)) → Qd H) :
    ∃ W : Nat → Nat → Hp → Prop, (∃ m, W 0 m (upd H0 D (.lst []))) ∧ ∀ i m H, W i m H →
      (J.stop i H ∧ Qd H) ∨ (J.go i H ∧ ∃ Nx : Hp → Prop, (∀ H', Nx H' → ∃ m', m' < m ∧ W (i + 1) m' H') ∧ ∀ x H', J.yld i H x H' → g x (wipe σ vs) H' fun σ2 H2 => wipe σ2 vs = wipe σ vs ∧ tt σ2 H2 fun b H3 =>
        if b = true then te σ2 H3 fun y H4 => ∃ acc, H4 D = some (.lst acc) ∧ acc.length < sizeLine ∧ Nx (upd H4 D (.lst (acc ++ [y]))) else Nx H3) := by
  refine lc_dp0 wk f σ0 hσ s0 hD hn hG hY hs fun U H xs x hv hdd dp => ?_
  exact hd _ H xs (x.take hD hv hdd) upd_same (dp.to (same_upd hv)) (.lst (SqL.of upd_same) (dp.to (same_upd hv)))
theorem fm_map {α β : Type} (f : α → β) : ∀ (xs : List α), fm (fun i => (xs[i]?).map f) xs.length = xs.map f := by
  intro xs
  have h : ∀ n, n ≤ xs.length → fm (fun i => (xs[i]?).map f) n = (xs.take n).map f := by
    intro n
    induction n with
    | zero => intro _; rfl
    | succ n ih =>
      intro hn
      rw [fm_succ, ih (by omega), List.getElem?_eq_getElem (by omega), List.take_succ_eq_append_getElem (by omega), List.map_append]
      rfl
  rw [h _ (Nat.le_refl _), List.take_length]

theorem lc2_outer {J : It} {n : Nat} {G : Hp → Prop} {Y : Nat → Hp → V → Hp → Prop} (wk : Walk J n G Y) {K : PySem.W.Frag} {V0 H0 : Hp} {D : Addr} {g : TG} {vs : List Nat} {σ : St} {body : St → Hp → (Hp → Prop) → Prop} {Qd : Hp → Prop} (F : Nat → List PyData) (σ0 : St) (hσ : wipe σ vs = σ0) (s0 : Same V0 H0) (hD : H0 D = none) (hF : F 0 = [])
    (hG : ∀ H, Same H0 H → G H) (hY : ∀ i H x H', Y i H x H' → H' = H)
    (hs : ∀ i x H, i < n → LcInv K V0 H0 D (F i) H → Y i H x H → ∀ Nx : Hp → Prop, (∀ H', LcInv K V0 H0 D (F (i + 1)) H' → Nx H') → g x σ0 H fun σ2 H2 => wipe σ2 vs = σ0 ∧ body σ2 H2 Nx)
    (hd : ∀ (U H : Hp) (xs : List V), Ext V0 H0 U H → U D = some (.lst xs) → DpAll K U xs (F n) → Dp K U (.ref D) (.list (F n)) → Qd H) :
    ∃ W : Nat → Nat → Hp → Prop, (∃ m, W 0 m (upd H0 D (.lst []))) ∧ ∀ i m H, W i m H →
      (J.stop i H ∧ Qd H) ∨ (J.go i H ∧ ∃ Nx : Hp → Prop, (∀ H', Nx H' → ∃ m', m' < m ∧ W (i + 1) m' H') ∧ ∀ x H', J.yld i H x H' → g x (wipe σ vs) H' fun σ2 H2 => wipe σ2 vs = wipe σ vs ∧ body σ2 H2 Nx) := by
  subst hσ
  refine ⟨fun i m H => m = n - i ∧ i ≤ n ∧ LcInv K V0 H0 D (F i) H, ⟨n, by simp, Nat.zero_le _, by rw [hF]; exact LcInv.start s0 hD⟩, ?_⟩
  rintro i m H ⟨rfl, hi, p⟩
  have sH : Same H0 H := by obtain ⟨_, _, x, _⟩ := p.ex; exact x.hh
  by_cases hlt : i < n
  · refine .inr ⟨wk.goes i H hlt (hG H sH), fun H' => LcInv K V0 H0 D (F (i + 1)) H', fun H' p' => ⟨n - (i + 1), by omega, rfl, hlt, p'⟩, fun x H' y => ?_⟩
    have y' := wk.yields i H x H' hlt (hG H sH) y
    obtain rfl := hY i H x H' y'
    exact hs i x H' hlt p y' _ fun _ h => h
  · have e : i = n := by omega
    subst e
    obtain ⟨U, xs, x, e1, e2, e3⟩ := p.done hD
    exact .inl ⟨wk.stops H (hG H sH), hd U H xs x e1 e2 e3⟩
theorem lc2_inner {J : It} {n : Nat} {G : Hp → Prop} {Y : Nat → Hp → V → Hp → Prop} (wk : Walk J n G Y) {K : PySem.W.Frag} {V0 H0 H4 : Hp} {D : Addr} {acc0 : List PyData} {g : TG} {tt : TT} {te : TE} {vs : List Nat} {σ : St} {Nx : Hp → Prop} (f : Nat → Option PyData) (σ0 : St) (hσ : wipe σ vs = σ0) (hD : H0 D = none)
    (inv : LcInv K V0 H0 D acc0 H4) (hn : acc0.length + n < 100000) (hG : ∀ H, Same H0 H → G H) (hY : ∀ i H x H', Y i H x H' → H' = H)
    (hs : ∀ i x V H, i < n → Ext V0 H0 V H → Y i H x H → ∀ (Qy : VK) (Qn : Hp → Prop), (∀ d y V' H', f i = some d → Ext V H V' H' → Dp K V' y d → Qy y H') → (f i = none → ∀ V' H', Ext V H V' H' → Qn H') →
      g x σ0 H fun σ2 H2 => wipe σ2 vs = σ0 ∧ tt σ2 H2 fun b H3 => if b = true then te σ2 H3 Qy else Qn H3)
    (hd : ∀ H, LcInv K V0 H0 D (acc0 ++ fm f n) H → Nx H) :
    ∃ W : Nat → Nat → Hp → Prop, (∃ m, W 0 m H4) ∧ ∀ i m H, W i m H →
      (J.stop i H ∧ Nx H) ∨ (J.go i H ∧ ∃ Nx1 : Hp → Prop, (∀ H', Nx1 H' → ∃ m', m' < m ∧ W (i + 1) m' H') ∧ ∀ x H', J.yld i H x H' → g x (wipe σ vs) H' fun σ2 H2 => wipe σ2 vs = wipe σ vs ∧ tt σ2 H2 fun b H3 =>
        if b = true then te σ2 H3 fun y H4 => ∃ acc, H4 D = some (.lst acc) ∧ acc.length < sizeLine ∧ Nx1 (upd H4 D (.lst (acc ++ [y]))) else Nx1 H3) := by
  subst hσ
  refine ⟨fun i m H => m = n - i ∧ i ≤ n ∧ LcInv K V0 H0 D (acc0 ++ fm f i) H, ⟨n, by simp, Nat.zero_le _, by rw [show fm f 0 = [] from rfl, List.append_nil]; exact inv⟩, ?_⟩
  rintro i m H ⟨rfl, hi, p⟩
  have sH : Same H0 H := by obtain ⟨_, _, x, _⟩ := p.ex; exact x.hh
  by_cases hlt : i < n
  · refine .inr ⟨wk.goes i H hlt (hG H sH), fun H' => LcInv K V0 H0 D (acc0 ++ fm f (i + 1)) H', fun H' p' => ⟨n - (i + 1), by omega, rfl, hlt, p'⟩, fun x H' y => ?_⟩
    have y' := wk.yields i H x H' hlt (hG H sH) y
    obtain rfl := hY i H x H' y'
    obtain ⟨V, xs, x0, hv, hdd, dp⟩ := p.ex
    refine hs i x V H' hlt x0 y' _ _ (fun d y' V' H4 e x2 dy => ?_) (fun e V' H4 x2 => ?_)
    · have hl : (acc0 ++ fm f i).length < 100000 := by have := fm_len f i; rw [List.length_append]; omega
      obtain ⟨acc', a1, a2, a3⟩ := LcInv.push hD x0 hv hdd dp x2 dy hl
      refine ⟨acc', a1, a2, ?_⟩
      rw [fm_succ, e, ← List.append_assoc]
      exact a3
    · have hv' : V' D = none := x2.keepOut hv (by rw [hdd]; exact fun z => by cases z)
      rw [fm_succ, e]
      show LcInv K V0 H0 D (acc0 ++ (fm f i ++ [])) H4
      rw [List.append_nil]
      exact ⟨V', xs, x0.trans x2, hv', x2.hh _ _ hdd, dp.to x2.vv⟩
  · have e : i = n := by omega
    subst e
    exact .inl ⟨wk.stops H (hG H sH), hd H p⟩
theorem fm_some {α : Type} (f : Nat → α) (n : Nat) : fm (fun i => some (f i)) n = (List.range n).map f := by
  induction n with
  | zero => rfl
  | succ n ih => rw [fm_succ, ih, List.range_succ, List.map_append]; rfl
theorem fl_take' {α : Type} {β : Type} (f : α → List β) : ∀ (xs : List α) (i : Nat) (x : α), xs[i]? = some x → (xs.take (i + 1)).flatMap f = (xs.take i).flatMap f ++ f x := by
  intro xs i x h
  obtain ⟨hi, e⟩ := List.getElem?_eq_some_iff.mp h
  rw [List.take_succ_eq_append_getElem hi, List.flatMap_append, e]
  show _ ++ (f x ++ []) = _
  rw [List.append_nil]
theorem fl_le' {α : Type} {β : Type} (f : α → List β) (xs : List α) (i : Nat) : ((xs.take i).flatMap f).length ≤ (xs.flatMap f).length := by
  have : xs.flatMap f = (xs.take i).flatMap f ++ (xs.drop i).flatMap f := by rw [← List.flatMap_append, List.take_append_drop]
  rw [this, List.length_append]; omega
/-! ### lists of ints, texts -/
theorem tyL {K : PySem.W.Frag} {H : Hp} {a : Addr} {xs : List V} (h : SqL K H a xs) : TyX K H (.ref a) (.type "list") := by
  rcases h with (h | ⟨o, h⟩) | ⟨o, its, n, h, c, _⟩
  · exact .base (.lst h)
  · exact .base (.frz h)
  · exact .kList h c
theorem tyT {K : PySem.W.Frag} {H : Hp} {a : Addr} {xs : List V} (h : SqT K H a xs) : TyX K H (.ref a) (.type "tuple") := by
  rcases h with (h | ⟨o, h⟩) | ⟨o, its, n, h, c, _⟩
  · exact .base (.tup h)
  · exact .fTuple h
  · exact .kTuple h c
theorem dp_intsV {K : PySem.W.Frag} {H : Hp} : ∀ {xs : List V} {is : List Int}, DpAll K H xs (is.map PyData.int) → xs = is.map V.int
  | _, [], r => by cases r; rfl
  | _, i :: is, r => by
    cases r with
    | cons r1 r2 => cases r1; rw [dp_intsV r2]; rfl
theorem dp_intsL {K : PySem.W.Frag} {H : Hp} {a : Addr} {is : List Int} (h : Dp K H (.ref a) (.list (is.map PyData.int))) : SqL K H a (is.map V.int) := by
  obtain ⟨a', xs, e, q, r⟩ := dp_list h
  cases e
  rw [← dp_intsV r]; exact q
theorem dp_strsV {K : PySem.W.Frag} {H : Hp} : ∀ {xs : List V} {is : List Str}, DpAll K H xs (is.map PyData.str) → xs = is.map V.str
  | _, [], r => by cases r; rfl
  | _, i :: is, r => by
    cases r with
    | cons r1 r2 => cases r1; rw [dp_strsV r2]; rfl
theorem dp_boolsV {K : PySem.W.Frag} {H : Hp} : ∀ {xs : List V} {is : List Bool}, DpAll K H xs (is.map PyData.bool) → xs = is.map V.bl
  | _, [], r => by cases r; rfl
  | _, i :: is, r => by
    cases r with
    | cons r1 r2 => cases r1; rw [dp_boolsV r2]; rfl
theorem dp_boolsL {K : PySem.W.Frag} {H : Hp} {a : Addr} {is : List Bool} (h : Dp K H (.ref a) (.list (is.map PyData.bool))) : SqL K H a (is.map V.bl) := by
  obtain ⟨a', xs, e, q, r⟩ := dp_list h
  cases e
  rw [← dp_boolsV r]; exact q
theorem size_eq (z : Str) : z.cps.size = z.cps.toList.length := by simp
theorem cps_at (z : Str) (i : Nat) : z.cps[i]? = z.cps.toList[i]? := by simp
theorem fm_list {α β : Type} (f : α → β) (xs : List α) (n : Nat) (h : n = xs.length) (g : Nat → Option β) (hg : ∀ i x, xs[i]? = some x → g i = some (f x)) : fm g n = xs.map f := by
  subst h
  rw [← fm_map f xs]
  unfold fm
  have : ∀ l : List Nat, (∀ i ∈ l, i < xs.length) → l.filterMap g = l.filterMap fun i => (xs[i]?).map f := by
    intro l
    induction l with
    | nil => intro _; rfl
    | cons i l ih =>
      intro hl
      have hi' := hl i List.mem_cons_self
      rw [List.filterMap_cons, List.filterMap_cons, hg i _ (List.getElem?_eq_getElem hi'), List.getElem?_eq_getElem hi', ih fun j hj => hl j (List.mem_cons_of_mem _ hj)]
      rfl
  exact this _ fun i hi => List.mem_range.mp hi
theorem rep_flat {α : Type} (v : α) : ∀ n : Nat, (List.replicate n [v]).flatten = List.replicate n v
  | 0 => rfl
  | n + 1 => by rw [List.replicate_succ, List.replicate_succ, List.flatten_cons, rep_flat v n]; rfl
/-- a list's object that is tracked, at p, new -/
structure NewL (H H' : Hp) (p : Addr) (xs : List V) : Prop where
  new : H p = none
  same : Same H H'
  at_ : H' p = some (.lst xs)
theorem NewL.ext {U H H' : Hp} {p : Addr} {xs : List V} (n : NewL H H' p xs) (s : Same U H) : Ext U H (upd U p (.lst xs)) H' :=
  ⟨same_upd (s.free n.new), fun b u e => by
    by_cases hb : b = p
    · subst hb; rw [upd_same] at e; rw [n.at_]; exact e
    · rw [upd_ne hb] at e; exact n.same _ _ (s b u e), n.same, fun a e => by
    by_cases ha : a = p
    · subst ha; exact Or.inr n.new
    · rw [upd_ne ha] at e; exact Or.inl e⟩
theorem str_app (x y : Str) : (x ++ y).cps.toList = x.cps.toList ++ y.cps.toList := Array.toList_append
theorem str_len_app (x y : Str) : (x ++ y).length = x.length + y.length := by
  show (x ++ y).cps.size = x.cps.size + y.cps.size
  rw [size_eq, str_app, List.length_append, ← size_eq, ← size_eq]
/-! ### _law_cell, _law_row -/
def lawCell (ns : List Int) (k : Nat) : Int :=
  let c := if 0 < ns.length then ns.getD (k % ns.length) 0 else 0
  if c < 0 then 1 - 2 * c else c
theorem lawCell_nn (ns : List Int) (k : Nat) : 0 ≤ lawCell ns k := by
  unfold lawCell
  simp only
  split <;> omega
def lawOne (c : Int) (k : Nat) : Int := (c * 48271 + (k : Int) * 69621 + 12345) % 2147483647
def lawTwo (o : Int) (k : Nat) : Int := (o * o + 16807 * (k : Int) + 7) % 2147483629
def lawRow (ns : List Int) (k : Nat) : Int :=
  if k < ns.length ∧ 1000000000 ≤ lawCell ns k then lawCell ns k
  else (lawTwo (lawOne (lawCell ns k) k) k * lawTwo (lawOne (lawCell ns k) k) k + lawOne (lawCell ns k) k) % 4294967291 + 4294967296 * (lawOne (lawCell ns k) k + 1)
theorem lawOne_b (c : Int) (k : Nat) : 0 ≤ lawOne c k ∧ lawOne c k < 2147483647 := by unfold lawOne; omega
theorem lawTwo_b (c : Int) (k : Nat) : 0 ≤ lawTwo c k ∧ lawTwo c k < 2147483629 := by
  unfold lawTwo
  generalize c * c + 16807 * (k : Int) + 7 = x
  omega
theorem lawRow_nn (ns : List Int) (k : Nat) : 0 ≤ lawRow ns k := by
  unfold lawRow
  have h1 := lawOne_b (lawCell ns k) k
  split
  · exact lawCell_nn ns k
  · generalize lawTwo (lawOne (lawCell ns k) k) k * lawTwo (lawOne (lawCell ns k) k) k + lawOne (lawCell ns k) k = x
    omega
def sp__law_cell (K : PySem.W.Frag) : Sp := fun vs H Q _ => ∃ (a : Addr) (ns : List Int) (k : Nat), vs = [.ref a, .int (k : Int)] ∧ SqL K H a (ns.map V.int) ∧ Q (.int (lawCell ns k)) H
theorem sc__law_cell : FnScope ["script", "k", "cell"] ["script", "k"] (defScope s__law_cell) := ⟨rfl, rfl, rfl, by decide +kernel, rfl, by decide +kernel, by decide +kernel⟩
theorem ok__law_cell (T : Txt K mg A) : FnOk P w K mg base CX0 1 A.f_law_cell A.d_law_cell ["script", "k"] (sp__law_cell K) := by
  refine T.F_law_cell.ok sc__law_cell (fun vs H Q E h => ?_) (fun cdv Ar outer s H vs Q E hr h => ?_)
  · obtain ⟨a, ns, k, rfl, _⟩ := h
    rfl
  · obtain ⟨a, ns, k, rfl, hS, q⟩ := h
    refine ⟨_, (pss_cons (ps_set (i := 2) sc__law_cell.nd rfl (Or.inl rfl) pe_int)
      (pss_cons (ps_if (pt_cmpR op_gt (pe_callB call_len_seq (by rfl) T.len PySem.boot_len (pa_cons (pv 0) pa_nil)) pe_int (nomark _))
      (pss_one (ps_set (i := 2) sc__law_cell.nd rfl (Or.inl rfl) (pe_ix ix_list (pv 0) (pe_op op_mod (pe_callTy call_int1 (by rfl) T.int (by decide +kernel) (pa_cons (pv 1) pa_nil)) (pe_callB call_len_seq (by rfl) T.len PySem.boot_len (pa_cons (pv 0) pa_nil))) (fun _ _ => rfl))))
      pss_nil)
      (pss_cons (ps_if (pt_cmpR op_lt (pv 2) pe_int (nomark _))
      (pss_one (ps_set (i := 2) sc__law_cell.nd rfl (Or.inl rfl) (pe_op op_sub pe_int (pe_op op_mul pe_int (pv 2)))))
      pss_nil)
      (pss_one (ps_ret (pv 2)))))), ?_⟩
    have two : ∀ (c : Int), (if c < 0 then 1 - 2 * c else c) = lawCell ns k → tSeq (tIfS (tTest (tOp (rI0 fun i j => .bl (decide (i < j))) (tVar 2) (tC (.int 0)))) (tAsg (tOp (rI0 fun i j => .int (i - j)) (tC (.int 1)) (tOp (rI CMul fun i j => .int (i * j)) (tC (.int 2)) (tVar 2))) (gName 2)) tNext) (tRet (tVar 2))
        { nx := fun _ H' => Q .non H', rt := Q } [some (.ref a), some (.int (k : Int)), some (.int c)] H := by
      intro c hc
      walk_at "rd"
      refine iteP (fun h => ?_) (fun h => ?_)
      · rw [if_pos h] at hc
        walk_at "rd"
        rw [← hc] at q; exact q
      · rw [if_neg h] at hc
        walk_at "rd"
        rw [← hc] at q; exact q
    refine ⟨.ref a, rfl, a, _, rfl, .inl hS, _, _, rfl, rfl, _, rfl, iteP (fun h => ?_) (fun h => ?_)⟩
    · have h0 : 0 < ns.length := by rw [List.length_map] at h; omega
      refine ⟨_, rfl, _, rfl, Or.inl ⟨_, rfl, ?_⟩⟩
      refine ⟨_, rfl, a, _, rfl, .inl hS, _, _, rfl, rfl, by show (0 : Int) < _; omega, a, _, _, .int (ns.getD (k % ns.length) 0), rfl, rfl, hS, ?_, ?_⟩
      · refine at_of (j := k % ns.length) ?_ ?_
        · rw [List.length_map]; exact (Int.natCast_emod _ _).symm
        · rw [List.getElem?_map, List.getElem?_eq_getElem (Nat.mod_lt _ h0), List.getD_eq_getElem?_getD, List.getElem?_eq_getElem (Nat.mod_lt _ h0)]; rfl
      · refine two _ ?_
        unfold lawCell; rw [if_pos h0]
    · have h0 : ¬ 0 < ns.length := by rw [List.length_map] at h; omega
      refine two _ ?_
      unfold lawCell; rw [if_neg h0]
def sp__law_row (K : PySem.W.Frag) : Sp := fun vs H Q _ => ∃ (a : Addr) (ns : List Int) (k : Nat), vs = [.ref a, .int (k : Int)] ∧ SqL K H a (ns.map V.int) ∧ Q (.int (lawRow ns k)) H
theorem sc__law_row : FnScope ["script", "k", "cell", "one", "two"] ["script", "k"] (defScope s__law_row) := ⟨rfl, rfl, rfl, by decide +kernel, rfl, by decide +kernel, by decide +kernel⟩
theorem ok__law_row (T : Txt K mg A) : FnOk P w K mg base CX0 2 A.f_law_row A.d_law_row ["script", "k"] (sp__law_row K) := by
  refine T.F_law_row.ok sc__law_row (fun vs H Q E h => ?_) (fun cdv Ar outer s H vs Q E hr h => ?_)
  · obtain ⟨a, ns, k, rfl, _⟩ := h
    rfl
  · obtain ⟨a, ns, k, rfl, hS, q⟩ := h
    refine ⟨_, (pss_cons (ps_set (i := 2) sc__law_row.nd rfl (Or.inl rfl) (pe_call (ok__law_cell T) (hr.mono (by decide)) rfl T.g_law_cell T.k_law_cell T.b_law_cell .nil pass0 (pa_cons (pv 0) (pa_cons (pv 1) pa_nil))))
      (pss_cons (ps_if (PW.pt (pw_and (pt_cmpR op_lt (pv 1) (pe_callB call_len_seq (by rfl) T.len PySem.boot_len (pa_cons (pv 0) pa_nil)) (nomark _)) (pw_and1 (pt_cmpR op_ge (pv 2) pe_int (nomark _)))))
      (pss_one (ps_ret (pv 2)))
      pss_nil)
      (pss_cons (ps_set (i := 3) sc__law_row.nd rfl (Or.inl rfl) (pe_op op_mod (pe_callTy call_int1 (by rfl) T.int (by decide +kernel) (pa_cons (pe_op op_add (pe_op op_add (pe_op op_mul (pv 2) pe_int) (pe_op op_mul (pv 1) pe_int)) pe_int) pa_nil)) pe_int))
      (pss_cons (ps_set (i := 4) sc__law_row.nd rfl (Or.inl rfl) (pe_op op_mod (pe_callTy call_int1 (by rfl) T.int (by decide +kernel) (pa_cons (pe_op op_add (pe_op op_add (pe_op op_mul (pv 3) (pv 3)) (pe_op op_mul pe_int (pv 1))) pe_int) pa_nil)) pe_int))
      (pss_one (ps_ret (pe_op op_add (pe_op op_mod (pe_callTy call_int1 (by rfl) T.int (by decide +kernel) (pa_cons (pe_op op_add (pe_op op_mul (pv 4) (pv 4)) (pv 3)) pa_nil)) pe_int) (pe_op op_mul pe_int (pe_op op_add (pv 3) pe_int))))))))), ?_⟩
    have b1 := lawOne_b (lawCell ns k) k
    have b2 := lawTwo_b (lawOne (lawCell ns k) k) k
    have m1 : CMul (lawOne (lawCell ns k) k) (lawOne (lawCell ns k) k) := Or.inl ⟨by omega, by omega⟩
    have m2 : CMul (lawTwo (lawOne (lawCell ns k) k) k) (lawTwo (lawOne (lawCell ns k) k) k) := Or.inl ⟨by omega, by omega⟩
    refine ⟨_, rfl, _, rfl, a, ns, k, rfl, hS, ?_⟩
    refine ⟨_, rfl, _, rfl, a, _, rfl, .inl hS, _, _, rfl, rfl, _, rfl, ?_⟩
    refine iteP (fun h => ?_) (fun h => ?_)
    · refine ⟨_, rfl, _, _, rfl, rfl, _, rfl, iteP (fun h2 => ?_) (fun h2 => ?_)⟩
      · have e : lawRow ns k = lawCell ns k := by unfold lawRow; rw [if_pos ⟨by rw [List.length_map] at h; omega, h2⟩]
        rw [e] at q
        exact ⟨_, rfl, q⟩
      · unfold lawRow at q
        rw [if_neg fun z => h2 z.2] at q
        walk_at "rd"
        refine ⟨m1, ?_⟩
        walk_at "rd"
        refine ⟨m2, ?_⟩
        walk_at "rd"
        exact q
    · unfold lawRow at q
      rw [if_neg fun z => h (by rw [List.length_map]; omega)] at q
      walk_at "rd"
      refine ⟨m1, ?_⟩
      walk_at "rd"
      refine ⟨m2, ?_⟩
      walk_at "rd"
      exact q
/-! ### a word that goes on by itself -/
theorem iteVP {p A B : Prop} [Decidable p] (h1 : p → A) (h2 : ¬ p → B) : if p then A else B := by
  by_cases h : p
  · rw [if_pos h]; exact h1 h
  · rw [if_neg h]; exact h2 h
/-- a new tuple is handed back -/
def RetT (H : Hp) (Q : VK) (xs : List V) : Prop := ∀ p H', Same H H' → H' p = some (.tup xs) → Q (.ref p) H'
theorem RetT.go {H : Hp} {Q : VK} {xs : List V} (h : ∀ p H', Same H H' → H' p = some (.tup xs) → Q (.ref p) H') : RetT H Q xs := h
theorem ne_self {d e : PyData} {A B : Prop} (hs : SeqAt.shaped d = true) (h : d = e) (hB : B) : if (!PyData.eqv d e) = true then A else B := by
  subst h
  have h2 : (d.canLay0 && decide (d.depth ≤ 64)) = true := hs
  have : PyData.eqv d d = true := SeqAt.eqv_refl d (by rw [Bool.and_eq_true] at h2; exact h2.1)
  rw [this]
  exact iteF hB
theorem eq_self {d e : PyData} {A B : Prop} (hs : SeqAt.shaped d = true) (h : d = e) (hA : A) : if PyData.eqv d e = true then A else B := by
  subst h
  have h2 : (d.canLay0 && decide (d.depth ≤ 64)) = true := hs
  have : PyData.eqv d d = true := SeqAt.eqv_refl d (by rw [Bool.and_eq_true] at h2; exact h2.1)
  rw [this]
  exact iteT hA
theorem t_ne {K : PySem.W.Frag} {x y : V} {H : Hp} {Q : VK} {d e : PyData} (h1 : Dp K H x d) (h2 : Dp K H y e) (s1 : SeqAt.shaped d = true) (s2 : SeqAt.shaped e = true) (q : Q (.bl (!PyData.eqv d e)) H) : rNeD K x y H Q := ⟨d, e, h1, h2, s1, s2, q⟩
theorem t_eq {K : PySem.W.Frag} {x y : V} {H : Hp} {Q : VK} {d e : PyData} (h1 : Dp K H x d) (h2 : Dp K H y e) (s1 : SeqAt.shaped d = true) (s2 : SeqAt.shaped e = true) (q : Q (.bl (PyData.eqv d e)) H) : rEqD K x y H Q := ⟨d, e, h1, h2, s1, s2, q⟩
/-! words that go on by themselves -/
local macro_rules | `(tactic| walk_at "sq") => `(tactic| first
  | exact SqT.of upd_same
  | exact SqL.of upd_same
  | assumption
  | exact SqT.of (by assumption)
  | exact SqL.of (by assumption)
  | (apply Same.sqt (same_upd (by assumption)); walk_at "sq")
  | (apply Same.seq (same_upd (by assumption)); walk_at "sq")
  | (apply Same.sqt (by assumption); walk_at "sq")
  | (apply Same.seq (by assumption); walk_at "sq"))
local macro_rules | `(tactic| walk_at "sm") => `(tactic| first
  | exact Same.refl _
  | assumption
  | (apply Same.trans _ (same_upd (by assumption)); walk_at "sm")
  | (apply Same.trans _ (by assumption); walk_at "sm"))
local macro_rules | `(tactic| walk_at "at") => `(tactic| first
  | exact atI_nat (j := 0) rfl
  | exact atI_nat (j := 1) rfl
  | exact atI_nat (j := 2) rfl
  | exact atI_nat (j := 3) rfl
  | exact atI_nat (j := 4) rfl
  | exact atI_nat (j := 5) rfl)
local macro_rules | `(tactic| walk_at "go1") => `(tactic| first
  | refine ⟨_, rfl, ?_⟩
  | refine ⟨_, _, rfl, rfl, ?_⟩
  | refine ⟨rfl, ?_⟩
  | refine Or.inl ⟨_, rfl, ?_⟩
  | refine ⟨(by show (0 : Int) < _; decide), ?_⟩
  | refine ⟨(⟨by decide, by decide⟩ : CDiv _ _), ?_⟩
  | refine ⟨(Or.inl ⟨by decide, by decide⟩ : CMul _ _), ?_⟩
  | refine ⟨(Or.inr ⟨by decide, by decide⟩ : CMul _ _), ?_⟩
  | refine ⟨_, _, rfl, ?_⟩
  | refine ⟨_, _, _, rfl, ?_⟩
  | refine ⟨_, _, _, _, rfl, ?_⟩
  | (refine And.intro (a := (0 : Int) ≤ _) ?_ ?_; focus omega)
  | (refine And.intro (a := _ ≤ sizeLine) ?_ (fun p hp => ?_); (focus (exact len_line (Nat.le_of_ble_eq_true rfl))))
  | refine RetT.go (fun p H' s e => ?_)
  | refine if_t rfl ?_
  | refine if_f rfl ?_
  | refine ⟨_, _, rfl, (by walk_at "sq"), rfl, ?_⟩
  | refine ⟨_, _, rfl, Or.inl (by walk_at "sq"), ?_⟩
  | refine ⟨_, _, rfl, Or.inr (by walk_at "sq"), ?_⟩
  | refine ⟨_, _, _, _, rfl, rfl, (by walk_at "sq"), (by walk_at "at"), ?_⟩
  | refine ⟨_, _, rfl, (by walk_at "sq"), (by show ¬(HT.sIx 4 0 (some 2) = 0 ∧ HT.sIx 4 4 none = 4); decide), fun p hp => ?_⟩
  | refine ⟨_, _, _, _, rfl, rfl, (by walk_at "sq"), (by walk_at "sq"), (by intro h; cases h), len_line (Nat.le_of_ble_eq_true rfl), (fun h => by cases h), fun _ p hp => ?_⟩)
local macro_rules | `(tactic| walk_at "go") => `(tactic| repeat walk_at "go1")
local macro_rules | `(tactic| walk_at "dps") => `(tactic| first
  | exact DpAll.nil
  | (apply DpAll.cons; (focus (walk_at "dp")); (focus (walk_at "dps"))))
local macro_rules | `(tactic| walk_at "dp") => `(tactic| first
  | exact Dp.int _
  | exact Dp.bl _
  | exact Dp.str _
  | exact Dp.non
  | (apply Dp.tup; (focus (walk_at "sq")); (focus (walk_at "dps")))
  | (apply Dp.lst; (focus (walk_at "sq")); (focus (walk_at "dps"))))
local macro_rules | `(tactic| walk_at "sh") => `(tactic| (show (PyData.canLay0 _ && decide (PyData.depth _ ≤ 64)) = true; simp [PyData.canLay0, PyData.canLayAll0, PyData.depth, PyData.depthAll]))
/-- a deep comparison: what is left is the if -/
local macro_rules | `(tactic| walk_at "ne") => `(tactic| (apply t_ne; (focus (walk_at "dp")); (focus (walk_at "dp")); (focus (walk_at "sh")); (focus (walk_at "sh")); refine ⟨_, rfl, ?_⟩))
local macro_rules | `(tactic| walk_at "neS") => `(tactic| (walk_at "ne"; refine ne_self ?_ ?_ ?_; (focus (walk_at "sh"))))
/-! ### more words -/
local macro_rules | `(tactic| walk_at "go2") => `(tactic| first
  | walk_at "go1"
  | refine ⟨(⟨by omega, by omega⟩ : CDiv _ _), ?_⟩
  | refine ⟨(Or.inl ⟨by omega, by omega⟩ : CMul _ _), ?_⟩
  | refine ⟨(Or.inr ⟨by omega, by omega⟩ : CMul _ _), ?_⟩
  | refine ⟨(by show (0 : Int) < _; omega), ?_⟩)
local macro_rules | `(tactic| walk_at "gx") => `(tactic| repeat walk_at "go2")
/-! ### rectangles, alone -/
def mx (i j : Int) : Int := if j > i then j else i
def mn (i j : Int) : Int := if j < i then j else i
structure Rc where
  x : Int
  y : Int
  w : Int
  h : Int
def rv (r : Rc) : List V := [.int r.x, .int r.y, .int r.w, .int r.h]
def rD (r : Rc) : PyData := .tuple [.int r.x, .int r.y, .int r.w, .int r.h]
theorem sh_rD (r : Rc) : Sh 1 (rD r) := sh_tuple fun d hd => by
  simp only [List.mem_cons, List.not_mem_nil, or_false] at hd
  rcases hd with rfl | rfl | rfl | rfl <;> exact sh_int _
theorem dp_rD {K : PySem.W.Frag} {H : Hp} {v : V} {r : Rc} (h : Dp K H v (rD r)) : ∃ a, v = .ref a ∧ SqT K H a (rv r) := by
  obtain ⟨a, xs, rfl, q, r⟩ := dp_tuple h
  refine ⟨a, rfl, ?_⟩
  cases r with
  | cons r1 r2 => cases r2 with
    | cons r2 r3 => cases r3 with
      | cons r3 r4 => cases r4 with
        | cons r4 r5 => cases r5; cases r1; cases r2; cases r3; cases r4; exact q
theorem rD_dp {K : PySem.W.Frag} {H : Hp} {a : Addr} {r : Rc} (h : SqT K H a (rv r)) : Dp K H (.ref a) (rD r) := .tup h (.cons (.int _) (.cons (.int _) (.cons (.int _) (.cons (.int _) .nil))))
theorem dp_rDs {K : PySem.W.Frag} {H : Hp} {v : V} {rs : List Rc} (h : Dp K H v (.list (rs.map rD))) : ∃ p xs, v = .ref p ∧ SqL K H p xs ∧ xs.length = rs.length ∧ ∀ (i : Nat) (y : V), xs[i]? = some y → ∃ a r, y = .ref a ∧ rs[i]? = some r ∧ SqT K H a (rv r) := by
  obtain ⟨p, xs, rfl, q, r⟩ := dp_list h
  refine ⟨p, xs, rfl, q, by rw [dpall_len r, List.length_map], fun i y hy => ?_⟩
  obtain ⟨d, hd, dv⟩ := dpall_get r hy
  rw [List.getElem?_map] at hd
  obtain ⟨c, hc, rfl⟩ := Option.map_eq_some_iff.mp hd
  obtain ⟨a, rfl, hs⟩ := dp_rD dv
  exact ⟨a, c, rfl, hc, hs⟩
/-! ### views that grow while objects outside of them change -/
structure Grow (U H U' H' : Hp) : Prop where
  vv : Same U U'
  vh : Same U' H'
  nw : ∀ a, U' a ≠ none → U a ≠ none ∨ H a = none
theorem Ext.grow {U H U' H' : Hp} (x : Ext U H U' H') : Grow U H U' H' := ⟨x.vv, x.vh, x.nw⟩
theorem Grow.refl {U H : Hp} (s : Same U H) : Grow U H U H := ⟨Same.refl U, s, fun _ h => Or.inl h⟩
theorem Grow.keepOut {U H U' H' : Hp} (x : Grow U H U' H') {D : Addr} (h : U D = none) (hd : H D ≠ none) : U' D = none := by
  cases e : U' D with
  | none => rfl
  | some o =>
    rcases x.nw D (by rw [e]; exact fun z => by cases z) with q | q
    · exact absurd h q
    · exact absurd q hd
/-- an object outside of the view changes -/
theorem Grow.poke {U H U' H' : Hp} (x : Grow U H U' H') {D : Addr} {o : HO} (h : U' D = none) : Grow U H U' (upd H' D o) :=
  ⟨x.vv, fun b u e => by
    have hb : b ≠ D := fun z => by rw [z, h] at e; cases e
    rw [upd_ne hb]; exact x.vh b u e, x.nw⟩
theorem same_poke {U H : Hp} (s : Same U H) {D : Addr} {o : HO} (h : U D = none) : Same U (upd H D o) := fun b u e => by
  have hb : b ≠ D := fun z => by rw [z, h] at e; cases e
  rw [upd_ne hb]; exact s b u e
/-- what was new behind a change of what the view has not is new ahead of it, if that was there -/
theorem Grow.from_ {U H H1 U' H' : Hp} (x : Grow U H1 U' H') (h : ∀ a, H1 a = none → H a = none) : Grow U H U' H' :=
  ⟨x.vv, x.vh, fun a e => (x.nw a e).imp id (h a)⟩
theorem Grow.trans {U H U1 H1 U2 H2 : Hp} (a : Grow U H U1 H1) (b : Grow U1 H1 U2 H2) (h : ∀ a, H1 a = none → H a = none) : Grow U H U2 H2 :=
  ⟨a.vv.trans b.vv, b.vh, fun x e => by
    rcases b.nw x e with q | q
    · exact a.nw x q
    · exact Or.inr (h x q)⟩
theorem none_poke {H : Hp} {D : Addr} {o : HO} (hd : H D ≠ none) : ∀ a, upd H D o a = none → H a = none := fun a e => by
  by_cases h : a = D
  · subst h; rw [upd_same] at e; cases e
  · rw [upd_ne h] at e; exact e
theorem none_same {H H' : Hp} (s : Same H H') : ∀ a, H' a = none → H a = none := fun a e => s.free e
/-! ### comprehensions over a walk that makes objects (zip) -/
theorem Ext.later {V H V' H' H2 : Hp} (x : Ext V H V' H') (s : Same H' H2) : Ext V H V' H2 := ⟨x.vv, x.vh.trans s, x.hh.trans s, x.nw⟩
theorem lc_dpS {J : It} {n : Nat} {G : Hp → Prop} {Y : Nat → Hp → V → Hp → Prop} (wk : Walk J n G Y) {K : PySem.W.Frag} {V0 H0 : Hp} {D : Addr} {g : TG} {tt : TT} {te : TE} {vs : List Nat} {σ : St} {Qd : Hp → Prop} (f : Nat → Option PyData) (σ0 : St) (hσ : wipe σ vs = σ0) (s0 : Same V0 H0) (hD : H0 D = none) (hn : n < 100000)
    (hG : ∀ H, Same H0 H → G H) (hY : ∀ i H x H', Y i H x H' → Same H H')
    (hs : ∀ i x V H H', i < n → Ext V0 H0 V H → Y i H x H' → ∀ (Qy : VK) (Qn : Hp → Prop), (∀ d y V' H2, f i = some d → Ext V H' V' H2 → Dp K V' y d → Qy y H2) → (f i = none → ∀ V' H2, Ext V H' V' H2 → Qn H2) →
      g x σ0 H' fun σ2 H2 => wipe σ2 vs = σ0 ∧ tt σ2 H2 fun b H3 => if b = true then te σ2 H3 Qy else Qn H3)
    (hd : ∀ (U H : Hp) (xs : List V), Ext V0 H0 U H → U D = some (.lst xs) → DpAll K U xs (fm f n) → Dp K U (.ref D) (.list (fm f n)) → Qd H) :
    ∃ W : Nat → Nat → Hp → Prop, (∃ m, W 0 m (upd H0 D (.lst []))) ∧ ∀ i m H, W i m H →
      (J.stop i H ∧ Qd H) ∨ (J.go i H ∧ ∃ Nx : Hp → Prop, (∀ H', Nx H' → ∃ m', m' < m ∧ W (i + 1) m' H') ∧ ∀ x H', J.yld i H x H' → g x (wipe σ vs) H' fun σ2 H2 => wipe σ2 vs = wipe σ vs ∧ tt σ2 H2 fun b H3 =>
        if b = true then te σ2 H3 fun y H4 => ∃ acc, H4 D = some (.lst acc) ∧ acc.length < sizeLine ∧ Nx (upd H4 D (.lst (acc ++ [y]))) else Nx H3) := by
  subst hσ
  refine lc_it wk (fun i H => LcInv K V0 H0 D (fm f i) H) (LcInv.start s0 hD) (fun i H _ p => ?_) (fun i x H H' hi p y => ?_) (fun H p => ?_)
  · obtain ⟨V, xs, x, _⟩ := p.ex
    exact hG H x.hh
  · obtain ⟨V, xs, x0, hv, hdd, dp⟩ := p.ex
    have sy := hY i H x H' y
    have x1 := x0.later sy
    have hdd' := sy _ _ hdd
    refine hs i x V H H' hi x0 y _ _ (fun d y' V' H4 e x2 dy => ?_) (fun e V' H4 x2 => ?_)
    · have hl : (fm f i).length < 100000 := Nat.lt_of_le_of_lt (fm_len f i) (Nat.lt_trans hi hn)
      obtain ⟨acc', a1, a2, a3⟩ := LcInv.push hD x1 hv hdd' dp x2 dy hl
      refine ⟨acc', a1, a2, ?_⟩
      rw [fm_succ, e]
      exact a3
    · have hv' : V' D = none := x2.keepOut hv (by rw [hdd']; exact fun z => by cases z)
      rw [fm_succ, e]
      show LcInv K V0 H0 D (fm f i ++ []) H4
      rw [List.append_nil]
      exact ⟨V', xs, x1.trans x2, hv', x2.hh _ _ hdd', dp.to x2.vv⟩
  · obtain ⟨U, xs, x, hv, hdd, dp⟩ := p.ex
    exact hd _ H xs (x.take hD hv hdd) upd_same (dp.to (same_upd hv)) (.lst (SqL.of upd_same) (dp.to (same_upd hv)))
theorem fm_fmap {α β : Type} (f : α → Option β) (xs : List α) (n : Nat) (h : n = xs.length) (g : Nat → Option β) (hg : ∀ i x, xs[i]? = some x → g i = f x) : fm g n = xs.filterMap f := by
  subst h
  have : ∀ (m : Nat), m ≤ xs.length → fm g m = (xs.take m).filterMap f := by
    intro m
    induction m with
    | zero => intro _; rfl
    | succ m ih =>
      intro hm
      rw [fm_succ, ih (by omega), hg m _ (List.getElem?_eq_getElem (by omega)), List.take_succ_eq_append_getElem (by omega), List.filterMap_append]
      congr 1
  rw [this _ (Nat.le_refl _), List.take_length]
def rListOf (K : PySem.W.Frag) : List V → Hp → VK → Prop := fun xs H Q => ∃ p ys, xs = [V.ref p] ∧ (SqL K H p ys ∨ SqT K H p ys) ∧ ∀ l, H l = none → Q (V.ref l) (upd H l (HO.lst ys))
/-! ### what counts of what was painted -/
structure Cv where
  s : Option Int
  w : Int
  f : Rc
  rs : List Rc
abbrev Scn := List Cv
abbrev Row := Option Int × Scn
def tm (r : Row) : Int := r.1.getD 0
def latR : List Row → Int → List Row
  | [], _ => []
  | [r], _ => [r]
  | r :: n :: t, lim => if lim < tm n then r :: latR (n :: t) lim else latR (n :: t) lim
/-- of rows, those behind which one stands that is later than the limit -/
def selR (R : List Row) (lim : Int) : List Row := (R.zip R.tail).filterMap fun p => if lim < tm p.2 then some p.1 else none
theorem latR_eq (lim : Int) : ∀ R : List Row, latR R lim = selR R lim ++ R.drop (R.length - 1)
  | [] => rfl
  | [r] => rfl
  | r :: n :: t => by
    have ih := latR_eq lim (n :: t)
    have e : selR (r :: n :: t) lim = (if lim < tm n then [r] else []) ++ selR (n :: t) lim := by
      unfold selR
      show ((r, n) :: (n :: t).zip t).filterMap _ = _
      rw [List.filterMap_cons]
      dsimp only
      split
      · next h => split at h <;> simp_all
      · next h => split at h <;> simp_all
    have e2 : (r :: n :: t).drop ((r :: n :: t).length - 1) = (n :: t).drop ((n :: t).length - 1) := by
      show (r :: n :: t).drop (t.length + 1) = (n :: t).drop t.length
      rw [List.drop_succ_cons]
    rw [latR, e, e2, ih]
    split <;> rfl
def IncF : List Row → Prop
  | [] => True
  | [_] => True
  | _ :: n :: t => (∀ m ∈ t, tm n < tm m) ∧ IncF (n :: t)
theorem latR_all {lim : Int} : ∀ {R : List Row}, (∀ n ∈ R.tail, lim < tm n) → latR R lim = R
  | [], _ => rfl
  | [r], _ => rfl
  | r :: n :: t, h => by
    rw [latR, if_pos (h n List.mem_cons_self), latR_all (R := n :: t) fun m hm => h m (List.mem_cons_of_mem _ hm)]
theorem latR_comp {l0 l1 : Int} (hl : l0 ≤ l1) : ∀ {F : List Row}, IncF F → latR (latR F l0) l1 = latR F l1
  | [], _ => rfl
  | [r], _ => rfl
  | r :: n :: t, h => by
    by_cases c : l0 < tm n
    · rw [latR_all (lim := l0) (R := r :: n :: t) fun m hm => ?_]
      rcases List.mem_cons.mp hm with rfl | hm
      · exact c
      · have := h.1 m hm; omega
    · have e0 : latR (r :: n :: t) l0 = latR (n :: t) l0 := by rw [latR, if_neg c]
      have e1 : latR (r :: n :: t) l1 = latR (n :: t) l1 := by rw [latR, if_neg (by omega)]
      rw [e0, e1]
      exact latR_comp hl h.2
def onS (g : Scn → Scn) (r : Row) : Row := (r.1, g r.2)
theorem latR_map {lim : Int} (g : Scn → Scn) : ∀ R : List Row, latR (R.map (onS g)) lim = (latR R lim).map (onS g)
  | [] => rfl
  | [r] => rfl
  | r :: n :: t => by
    have ih := latR_map (lim := lim) g (n :: t)
    have e : latR ((r :: n :: t).map (onS g)) lim = if lim < tm n then onS g r :: latR ((n :: t).map (onS g)) lim else latR ((n :: t).map (onS g)) lim := rfl
    rw [e, ih, latR]
    split <;> rfl
theorem latR_ne {lim : Int} : ∀ {R : List Row}, R ≠ [] → latR R lim ≠ []
  | [], h => absurd rfl h
  | [r], _ => fun z => by cases z
  | r :: n :: t, _ => by
    rw [latR]
    split
    · exact fun z => by cases z
    · exact latR_ne (R := n :: t) fun z => by cases z
/-- the last one behind others -/
theorem latR_snoc {lim : Int} (x : Row) : ∀ (A : List Row), A ≠ [] → latR (A ++ [x]) lim = (latR A lim).dropLast ++ (if lim < tm x then (latR A lim).drop ((latR A lim).length - 1) else []) ++ [x]
  | [], h => absurd rfl h
  | [r], _ => by
    show (if lim < tm x then r :: latR [x] lim else latR [x] lim) = _
    show (if lim < tm x then r :: [x] else [x]) = [] ++ (if lim < tm x then [r] else []) ++ [x]
    split <;> rfl
  | r :: n :: t, _ => by
    have ih := latR_snoc (lim := lim) x (n :: t) fun z => by cases z
    have hne := latR_ne (lim := lim) (R := n :: t) fun z => by cases z
    show (if lim < tm n then r :: latR ((n :: t) ++ [x]) lim else latR ((n :: t) ++ [x]) lim) = _
    rw [ih, latR]
    by_cases c : lim < tm n
    · rw [if_pos c, if_pos c]
      generalize latR (n :: t) lim = L at hne
      cases L with
      | nil => exact absurd rfl hne
      | cons a l =>
        rw [List.dropLast_cons_cons]
        show r :: (_ ++ _) = _
        have : (r :: a :: l).drop ((r :: a :: l).length - 1) = (a :: l).drop ((a :: l).length - 1) := by
          show (r :: a :: l).drop (l.length + 1) = (a :: l).drop l.length
          rw [List.drop_succ_cons]
        rw [this]; rfl
    · rw [if_neg c, if_neg c]
theorem latR_last {lim : Int} : ∀ {R : List Row}, R ≠ [] → (latR R lim).getLast? = R.getLast?
  | [], h => absurd rfl h
  | [r], _ => rfl
  | r :: n :: t, _ => by
    have ih := latR_last (lim := lim) (R := n :: t) fun z => by cases z
    have hne := latR_ne (lim := lim) (R := n :: t) fun z => by cases z
    rw [latR, List.getLast?_cons_cons, ← ih]
    split
    · generalize latR (n :: t) lim = L at hne
      cases L with
      | nil => exact absurd rfl hne
      | cons a l => rw [List.getLast?_cons_cons]
    · rfl
theorem drop_last_ : ∀ {L : List Row}, L ≠ [] → L.dropLast ++ L.drop (L.length - 1) = L
  | [], h => absurd rfl h
  | a :: l, _ => by
    rw [List.dropLast_eq_take]
    exact List.take_append_drop _ _
/-- one more row, later than the limit -/
theorem latR_add {l0 : Int} {F : List Row} (hF : F ≠ []) (x : Row) (h : l0 < tm x) : latR F l0 ++ [x] = latR (F ++ [x]) l0 := by
  rw [latR_snoc x F hF, if_pos h, drop_last_ (latR_ne hF)]
/-- another row in place of the last one, of the same time -/
theorem latR_swap {l0 : Int} {A : List Row} (hA : A ≠ []) (x y : Row) (h : tm x = tm y) : (latR (A ++ [y]) l0).dropLast ++ [x] = latR (A ++ [x]) l0 := by
  rw [latR_snoc x A hA, latR_snoc y A hA, List.dropLast_concat, h]
abbrev Hist := List (Int × Scn)
def toR (h : Int × Scn) : Row := (some h.1, h.2)
def toF (hs : Hist) : List Row := (none, []) :: hs.map toR
theorem toF_ne (hs : Hist) : toF hs ≠ [] := fun z => by cases z
theorem toF_add (hs : Hist) (h : Int × Scn) : toF (hs ++ [h]) = toF hs ++ [toR h] := by
  unfold toF
  rw [List.map_append]; rfl
theorem incF_of : ∀ {hs : Hist} (r : Row), hs.Pairwise (fun a b => a.1 < b.1) → IncF (r :: hs.map toR)
  | [], _, _ => trivial
  | h :: t, r, p => by
    have q := List.pairwise_cons.mp p
    refine ⟨fun m hm => ?_, incF_of (toR h) q.2⟩
    obtain ⟨k, hk, rfl⟩ := List.mem_map.mp hm
    exact q.1 k hk
def cntS (hs : Hist) (lim : Int) : List Scn := (hs.zip hs.tail).filterMap fun p => if lim < p.2.1 then some p.1.2 else none
/-- what counts, as the law lists it -/
def cnt (hs : Hist) (lim : Int) : List Scn := match hs with
  | [] => [[]]
  | h :: t => ((h :: t).getLast (fun z => by cases z)).2 :: (cntS (h :: t) lim ++ if lim < h.1 then [[]] else [])
theorem selR_map (lim : Int) : ∀ (h : Int × Scn) (t : Hist), (selR ((h :: t).map toR) lim).map (·.2) = cntS (h :: t) lim
  | h, [] => rfl
  | h, n :: t => by
    have ih := selR_map lim n t
    have e : ((selR ((h :: n :: t).map toR) lim).map (·.2)) = (if lim < n.1 then [h.2] else []) ++ (selR ((n :: t).map toR) lim).map (·.2) := by
      unfold selR
      show List.map _ (List.filterMap _ ((toR h, toR n) :: ((n :: t).map toR).zip (t.map toR))) = _
      rw [List.filterMap_cons]
      dsimp only
      have et : tm (toR n) = n.1 := rfl
      rw [et]
      by_cases c : lim < n.1
      · rw [if_pos c, if_pos c]; rfl
      · rw [if_neg c, if_neg c]; rfl
    rw [e, ih]
    unfold cntS
    show _ = List.filterMap _ ((h, n) :: (n :: t).zip t)
    rw [List.filterMap_cons]
    dsimp only
    split <;> rfl
theorem cnt_all (e : Scn → Bool) (hs : Hist) (lim : Int) : ((latR (toF hs) lim).map (·.2)).all e = (cnt hs lim).all e := by
  cases hs with
  | nil => rfl
  | cons h t =>
    have e1 : latR (toF (h :: t)) lim = (if lim < h.1 then [((none, []) : Row)] else []) ++ latR ((h :: t).map toR) lim := by
      show (if lim < tm (toR h) then _ else _) = _
      have et : tm (toR h) = h.1 := rfl
      rw [et]
      split <;> rfl
    have e2 : (((h :: t).map toR).drop (((h :: t).map toR).length - 1)).map (·.2) = [((h :: t).getLast (fun z => by cases z)).2] := by
      have : ∀ (h : Int × Scn) (t : Hist), (((h :: t).map toR).drop (((h :: t).map toR).length - 1)).map (·.2) = [((h :: t).getLast (fun z => by cases z)).2] := by
        intro h t
        induction t generalizing h with
        | nil => rfl
        | cons n t ih =>
          rw [List.getLast_cons (by exact fun z => by cases z), ← ih n]
          show ((toR h :: (n :: t).map toR).drop ((t.map toR).length + 1)).map _ = _
          rw [List.drop_succ_cons]; rfl
      exact this h t
    rw [e1, List.map_append, List.all_append, latR_eq, List.map_append, List.all_append, selR_map, e2]
    have e4 : cnt (h :: t) lim = ((h :: t).getLast (fun z => by cases z)).2 :: (cntS (h :: t) lim ++ if lim < h.1 then [[]] else []) := rfl
    rw [e4, List.all_cons (l := cntS (h :: t) lim ++ _), List.all_append]
    have e3 : (((if lim < h.1 then [((none, []) : Row)] else []).map (·.2)).all e) = ((if lim < h.1 then [([] : Scn)] else []).all e) := by split <;> rfl
    rw [e3]
    generalize ((if lim < h.1 then [([] : Scn)] else []).all e) = x
    generalize (cntS (h :: t) lim).all e = y
    rw [List.all_cons, List.all_nil, Bool.and_true]
    generalize e ((h :: t).getLast (fun z => by cases z)).2 = z
    cases x <;> cases y <;> cases z <;> rfl
def popH (hs : Hist) (t : Int) : Hist := if hs.getLast?.map (·.1) = some t then hs.dropLast else hs
theorem popH_nil (t : Int) : popH [] t = [] := if_neg fun z => by cases z
theorem popH_snoc (A : Hist) (h : Int × Scn) (t : Int) : popH (A ++ [h]) t = if h.1 = t then A else A ++ [h] := by
  unfold popH
  rw [List.getLast?_concat, List.dropLast_concat]
  by_cases c : h.1 = t
  · rw [if_pos c, if_pos (by rw [← c]; rfl)]
  · rw [if_neg c]
    exact if_neg fun z => c (Option.some.inj z)
theorem hist_cases (hs : Hist) : hs = [] ∨ ∃ A h, hs = A ++ [h] := by
  rcases List.eq_nil_or_concat hs with h | ⟨A, x, h⟩
  · exact .inl h
  · exact .inr ⟨A, x, by rw [h, List.concat_eq_append]⟩
theorem pop_pw {hs : Hist} {t : Int} (now : Scn) (pw : hs.Pairwise fun a b => a.1 < b.1) (le : ∀ h ∈ hs, h.1 ≤ t) : (popH hs t ++ [(t, now)]).Pairwise fun a b => a.1 < b.1 := by
  rcases hist_cases hs with rfl | ⟨A, h, rfl⟩
  · rw [popH_nil]; exact List.pairwise_singleton _ _
  · rw [popH_snoc]
    have p := List.pairwise_append.mp pw
    have hA : ∀ a ∈ A, a.1 < h.1 := fun a ha => p.2.2 a ha h (List.mem_singleton.mpr rfl)
    have hh := le h (List.mem_append_right _ (List.mem_singleton.mpr rfl))
    split
    · next c =>
      refine List.pairwise_append.mpr ⟨p.1, List.pairwise_singleton _ _, fun a ha b hb => ?_⟩
      rw [List.mem_singleton.mp hb]
      have := hA a ha
      show a.1 < t
      omega
    · next c =>
      refine List.pairwise_append.mpr ⟨pw, List.pairwise_singleton _ _, fun a ha b hb => ?_⟩
      rw [List.mem_singleton.mp hb]
      show a.1 < t
      rcases List.mem_append.mp ha with ha | ha
      · have := hA a ha; omega
      · rw [List.mem_singleton.mp ha]; omega
theorem pop_mem {hs : Hist} {t : Int} : ∀ h ∈ popH hs t, h ∈ hs := by
  unfold popH
  intro h hh
  split at hh
  · rw [List.dropLast_eq_take] at hh; exact List.mem_of_mem_take hh
  · exact hh
theorem pop_len (hs : Hist) (t : Int) : (popH hs t).length ≤ hs.length := by
  unfold popH
  split
  · rw [List.length_dropLast]; omega
  · exact Nat.le_refl _
theorem paint_eq {hs : Hist} {t l0 : Int} (now : Scn) (pw : hs.Pairwise fun a b => a.1 < b.1) (le : ∀ h ∈ hs, h.1 ≤ t) (lo : l0 ≤ t - 1000) {R0 : List Row} {r : Row} (hR : latR (toF hs) l0 = R0 ++ [r]) :
    latR ((if r.1 = some t then R0 else R0 ++ [r]) ++ [(some t, now)]) (t - 1000) = latR (toF (popH hs t ++ [(t, now)])) (t - 1000) := by
  have pw2 := pop_pw now pw le
  have comp := latR_comp lo (incF_of (none, []) pw2)
  have e1 : (if r.1 = some t then R0 else R0 ++ [r]) ++ [(some t, now)] = latR (toF (popH hs t ++ [(t, now)])) l0 := by
    have add : R0 ++ [r] ++ [(some t, now)] = latR (toF (hs ++ [(t, now)])) l0 := by
      rw [← hR, toF_add]
      exact latR_add (toF_ne hs) (some t, now) (by show l0 < t; omega)
    rcases hist_cases hs with rfl | ⟨A, h, rfl⟩
    · have hr : r.1 = none := by
        have : [((none, []) : Row)] = R0 ++ [r] := hR
        cases R0 with
        | nil => injection this with h1 _; rw [← h1]
        | cons a l => injection this with _ h2; cases l <;> cases h2
      rw [if_neg (by rw [hr]; exact fun z => by cases z), popH_nil]
      exact add
    · have hl : r = toR h := by
        have h1 := latR_last (lim := l0) (toF_ne (A ++ [h]))
        rw [hR, toF_add, List.getLast?_concat, List.getLast?_concat] at h1
        exact Option.some.inj h1
      rw [popH_snoc]
      by_cases c : h.1 = t
      · rw [if_pos c, if_pos (by rw [hl, ← c]; rfl), toF_add]
        have := latR_swap (l0 := l0) (toF_ne A) (some t, now) (toR h) (by show t = h.1; omega)
        rw [← toF_add, hR, List.dropLast_concat] at this
        exact this
      · rw [if_neg c, if_neg (by rw [hl]; exact fun z => c (Option.some.inj z))]
        exact add
  rw [e1]
  exact comp
theorem snoc_of {R : List Row} (h : R ≠ []) : ∃ R0 r, R = R0 ++ [r] := ⟨_, _, (List.dropLast_concat_getLast h).symm⟩
/-! ### covers as data -/
def sD : Option Int → PyData
  | none => .none
  | some i => .int i
def sV : Option Int → V
  | none => .non
  | some i => .int i
theorem sh_sD (s : Option Int) : Sh 0 (sD s) := by cases s with
  | none => exact sh_none
  | some i => exact sh_int i
theorem dp_sD {K : PySem.W.Frag} {H : Hp} {v : V} {s : Option Int} (h : Dp K H v (sD s)) : v = sV s := by
  cases s with
  | none => cases h; rfl
  | some i => cases h; rfl
theorem sD_dp {K : PySem.W.Frag} {H : Hp} (s : Option Int) : Dp K H (sV s) (sD s) := by
  cases s with
  | none => exact .non
  | some i => exact .int i
def cvD (c : Cv) : PyData := .tuple [sD c.s, .int c.w, rD c.f, .list (c.rs.map rD)]
def scD (s : Scn) : PyData := .list (s.map cvD)
theorem sh_cvD (c : Cv) : Sh 3 (cvD c) := sh_tuple fun d hd => by
  simp only [List.mem_cons, List.not_mem_nil, or_false] at hd
  rcases hd with rfl | rfl | rfl | rfl
  · exact (sh_sD _).mono (by decide)
  · exact (sh_int _).mono (by decide)
  · exact (sh_rD _).mono (by decide)
  · refine sh_list fun d hd => ?_
    obtain ⟨r, _, rfl⟩ := List.mem_map.mp hd
    exact sh_rD r
theorem sh_scD (s : Scn) : Sh 4 (scD s) := sh_list fun d hd => by
  obtain ⟨c, _, rfl⟩ := List.mem_map.mp hd
  exact sh_cvD c
theorem dp_cvD {K : PySem.W.Frag} {H : Hp} {v : V} {c : Cv} (h : Dp K H v (cvD c)) : ∃ a pf vr, v = .ref a ∧ SqT K H a [sV c.s, .int c.w, .ref pf, vr] ∧ SqT K H pf (rv c.f) ∧ Dp K H vr (.list (c.rs.map rD)) := by
  obtain ⟨a, xs, rfl, q, r⟩ := dp_tuple h
  cases r with
  | cons r1 r2 => cases r2 with
    | cons r2 r3 => cases r3 with
      | cons r3 r4 => cases r4 with
        | cons r4 r5 =>
          cases r5
          cases r2
          rw [dp_sD r1] at q
          obtain ⟨pf, rfl, hf⟩ := dp_rD r3
          exact ⟨a, pf, _, rfl, q, hf, r4⟩
def inR (r : Rc) (x y : Int) : Bool := decide ((r.x ≤ x ∧ x < r.x + r.w) ∧ r.y ≤ y ∧ y < r.y + r.h)
def hasC (x y : Int) (c : Cv) : Bool := c.rs.any fun r => inR r x y
def topC (s : Scn) (x y : Int) : Option Cv := s.reverse.find? (hasC x y)
def optD : Option Cv → PyData
  | none => .none
  | some c => cvD c
def winO : Option Cv → PyData
  | none => .none
  | some c => .tuple [sD c.s, .int c.w]
def frmO : Option Cv → PyData
  | none => .none
  | some c => .tuple [sD c.s, .int c.w, rD c.f]
theorem sh_winO (c : Option Cv) : Sh 1 (winO c) := by
  cases c with
  | none => exact sh_none.mono (by decide)
  | some c =>
    refine sh_tuple fun d hd => ?_
    simp only [List.mem_cons, List.not_mem_nil, or_false] at hd
    rcases hd with rfl | rfl
    · exact sh_sD _
    · exact sh_int _
theorem sh_frmO (c : Option Cv) : Sh 2 (frmO c) := by
  cases c with
  | none => exact sh_none.mono (by decide)
  | some c =>
    refine sh_tuple fun d hd => ?_
    simp only [List.mem_cons, List.not_mem_nil, or_false] at hd
    rcases hd with rfl | rfl | rfl
    · exact (sh_sD _).mono (by decide)
    · exact (sh_int _).mono (by decide)
    · exact sh_rD _
def OkS (s : Scn) : Prop := s.length < 1000 ∧ ∀ c ∈ s, c.rs.length < 1000
def sp_has_point (K : PySem.W.Frag) : Sp := fun vs H Q _ => ∃ (p : Addr) (r : Rc) (x y : Int), vs = [.ref p, .int x, .int y] ∧ SqT K H p (rv r) ∧ Q (.bl (inR r x y)) H
theorem sc_has_point : FnScope ["rectangle", "x", "y"] ["rectangle", "x", "y"] (defScope s_has_point) := ⟨rfl, rfl, rfl, by decide +kernel, rfl, by decide +kernel, by decide +kernel⟩
theorem ok_has_point (T : Txt K mg A) : FnOk P w K mg base CX0 1 A.fhas_point A.dhas_point ["rectangle", "x", "y"] (sp_has_point K) := by
  refine T.Fhas_point.ok sc_has_point (fun vs H Q E h => ?_) (fun cdv Ar outer s H vs Q E hr h => ?_)
  · obtain ⟨_, _, _, _, rfl, _⟩ := h
    rfl
  · obtain ⟨p, r, x, y, rfl, hp, q⟩ := h
    refine ⟨_, (pss_one (ps_ret (pe_and (pe_chain op_le op_lt (pe_ix (r := rIxT K) ix_tup (pv 0) pe_int (fun _ _ => rfl)) (pv 1) (pe_op op_add (pe_ix (r := rIxT K) ix_tup (pv 0) pe_int (fun _ _ => rfl)) (pe_ix (r := rIxT K) ix_tup (pv 0) pe_int (fun _ _ => rfl)))) (pe_one (pe_chain op_le op_lt (pe_ix (r := rIxT K) ix_tup (pv 0) pe_int (fun _ _ => rfl)) (pv 2) (pe_op op_add (pe_ix (r := rIxT K) ix_tup (pv 0) pe_int (fun _ _ => rfl)) (pe_ix (r := rIxT K) ix_tup (pv 0) pe_int (fun _ _ => rfl)))))))), ?_⟩
    unfold inR at q
    walk_at "go"
    refine iteP (fun h1 => ?_) (fun h1 => ?_)
    · walk_at "go"
      by_cases h2 : x < r.x + r.w
      · rw [decide_eq_true h2]
        walk_at "go"
        refine iteP (fun h3 => ?_) (fun h3 => ?_)
        · walk_at "go"
          by_cases h4 : y < r.y + r.h
          · rw [decide_eq_true ⟨⟨h1, h2⟩, h3, h4⟩] at q
            show Q (V.bl (decide (y < r.y + r.h))) H
            rw [decide_eq_true h4]; exact q
          · rw [decide_eq_false fun z => h4 z.2.2] at q
            show Q (V.bl (decide (y < r.y + r.h))) H
            rw [decide_eq_false h4]; exact q
        · rw [decide_eq_false fun z => h3 z.2.1] at q; exact q
      · rw [decide_eq_false fun z => h2 z.1.2] at q
        rw [decide_eq_false h2]
        walk_at "go"
        exact q
    · rw [decide_eq_false fun z => h1 z.1.1] at q
      walk_at "go"
      exact q
def sp__has_point_in (K : PySem.W.Frag) : Sp := fun vs H Q _ => ∃ (v : V) (rs : List Rc) (x y : Int), vs = [v, .int x, .int y] ∧ Dp K H v (.list (rs.map rD)) ∧ rs.length < 1000 ∧ ∀ H', Same H H' → Q (.bl (rs.any fun r => inR r x y)) H'
theorem sc__has_point_in : FnScope ["rectangles", "x", "y", "rectangle"] ["rectangles", "x", "y"] (defScope s__has_point_in) := ⟨rfl, rfl, rfl, by decide +kernel, rfl, by decide +kernel, by decide +kernel⟩
theorem ok__has_point_in (T : Txt K mg A) : FnOk P w K mg base CX0 2 A.f_has_point_in A.d_has_point_in ["rectangles", "x", "y"] (sp__has_point_in K) := by
  refine T.F_has_point_in.ok sc__has_point_in (fun vs H Q E h => ?_) (fun cdv Ar outer s H vs Q E hr h => ?_)
  · obtain ⟨_, _, _, _, rfl, _⟩ := h
    rfl
  · obtain ⟨v, rs, x, y, rfl, hd, hl, q⟩ := h
    obtain ⟨p, xs, rfl, hS, hxl, hxat⟩ := dp_rDs hd
    refine ⟨_, (pss_one (ps_ret (pe_callB (cr_any rfl) (by rfl) T.any (by decide +kernel) (pa_cons (pe_lc (own := [("rectangle", 3)]) (g := (gName 3)) (tt := tYes) rfl sc__has_point_in.nd (pi_list (pv 0)) (blkOk_by (own := [("rectangle", 3)]) (N := ["rectangles", "x", "y", "rectangle"]) (sc := defScope s__has_point_in) (by decide +kernel)) (fun _ _ _ _ _ => (pg_name (i := 3) sc__has_point_in.nd rfl (Or.inl rfl))) (fun _ _ _ _ _ => pts_nil) (fun _ _ _ _ _ => by exact (pe_call (ok_has_point T) (hr.mono (by decide)) rfl T.ghas_point T.khas_point T.bhas_point .nil pass0 (pa_cons (pv 3) (pa_cons (pv 1) (pa_cons (pv 2) pa_nil)))))) pa_nil)))), ?_⟩
    walk_at "go"
    refine ⟨⟨_, hS⟩, fun D hD => ?_⟩
    refine lc_dp (walk_list (K := K) (a := p) (xs := xs)) (K := K) (V0 := H) (H0 := H) (fun i => (rs[i]?).map fun r => PyData.bool (inR r x y)) _ rfl (Same.refl _) hD (by omega) (fun H' s => s.seq hS) (fun i x H H' y => y.1) ?_ ?_
    · rintro n z U2 H4 hn' xx ⟨_, hz⟩ Qy Qn hy hno
      obtain ⟨az, rz, rfl, hrz, hsz⟩ := hxat n z hz
      refine ⟨rfl, ?_⟩
      walk_at "go"
      refine ⟨az, rz, _, _, rfl, xx.hh.sqt hsz, ?_⟩
      exact hy (.bool (inR rz x y)) _ _ _ (by rw [hrz]; rfl) (Ext.refl xx.vh) (.bl _)
    · rintro U2 H4 ys xx hDU dl _
      rw [hxl, fm_map] at dl
      have hys : ys = (rs.map fun r => inR r x y).map V.bl := dp_boolsV (K := K) (H := U2) (by rw [List.map_map]; exact dl)
      subst hys
      refine ⟨_, _, rfl, SqL.of (xx.vh _ _ hDU), ?_⟩
      rw [List.any_map]
      exact q _ xx.hh
def sp_top_cover (K : PySem.W.Frag) : Sp := fun vs H Q _ => ∃ (v : V) (s : Scn) (x y : Int), vs = [v, .int x, .int y] ∧ Dp K H v (scD s) ∧ OkS s ∧ ∀ r H', Same H H' → Dp K H' r (optD (topC s x y)) → Q r H'
theorem find_rev {α : Type} (f : α → Bool) (xs : List α) (i : Nat) (hi : i < xs.length) (h : ∀ j (hj : j < xs.length), xs.length - 1 - i < j → f xs[j] = false) (ht : f (xs[xs.length - 1 - i]'(by omega)) = true) : xs.reverse.find? f = some (xs[xs.length - 1 - i]'(by omega)) := by
  refine List.find?_eq_some_iff_getElem.mpr ⟨ht, i, by rw [List.length_reverse]; exact hi, by rw [List.getElem_reverse], fun j hj => ?_⟩
  rw [List.getElem_reverse, h (xs.length - 1 - j) (by omega) (by omega)]; rfl
theorem find_none {α : Type} (f : α → Bool) (xs : List α) (h : ∀ j (hj : j < xs.length), f xs[j] = false) : xs.reverse.find? f = none := by
  rw [List.find?_eq_none]
  intro x hx
  obtain ⟨j, hj, e⟩ := List.getElem_of_mem (List.mem_reverse.mp hx)
  rw [← e, h j hj]; exact Bool.false_ne_true
theorem sc_top_cover : FnScope ["covers", "x", "y", "row"] ["covers", "x", "y"] (defScope s_top_cover) := ⟨rfl, rfl, rfl, by decide +kernel, rfl, by decide +kernel, by decide +kernel⟩
theorem ok_top_cover (T : Txt K mg A) : FnOk P w K mg base CX0 3 A.ftop_cover A.dtop_cover ["covers", "x", "y"] (sp_top_cover K) := by
  refine T.Ftop_cover.ok sc_top_cover (fun vs H Q E h => ?_) (fun cdv Ar outer s H vs Q E hr h => ?_)
  · obtain ⟨_, _, _, _, rfl, _⟩ := h
    rfl
  · obtain ⟨v, sc, x, y, rfl, hd, ok, q⟩ := h
    obtain ⟨p, xs, rfl, hS, hx⟩ := dp_list hd
    have hxl : xs.length = sc.length := by rw [dpall_len hx, List.length_map]
    refine ⟨_, (pss_cons (ps_for PassesOwn.never rfl (pi_reversed (by rfl) T.reversed (pa_cons (pv 0) pa_nil)) (pg_name (i := 3) sc_top_cover.nd rfl (Or.inl rfl))
      (pss_one (ps_if (pt_val (pe_call (ok__has_point_in T) (hr.mono (by decide)) rfl T.g_has_point_in T.k_has_point_in T.b_has_point_in .nil pass0 (pa_cons (pe_ix (r := rIxT K) ix_tup (pv 3) pe_int (fun _ _ => rfl)) (pa_cons (pv 1) (pa_cons (pv 2) pa_nil)))))
      (pss_one (ps_ret (pv 3)))
      pss_nil)))
      (pss_one (ps_ret pe_non))), ?_⟩
    walk_at "go"
    refine ⟨p, xs, rfl, hS, ?_⟩
    refine for_it (walk_rev (K := K) (a := p) (xs := xs)) (fun i σ H' => ∃ v3 : Option V, σ = [some (.ref p), some (.int x), some (.int y), v3] ∧ Same H H' ∧ ∀ j (hj : j < sc.length), sc.length ≤ i + j → hasC x y sc[j] = false) ⟨_, rfl, Same.refl _, fun j hj h => by omega⟩ (fun i σ H' _ ⟨_, _, s, _⟩ => s.seq hS) ?_ ?_
    · rintro i z σ H1 H' hi ⟨v3, rfl, s1, hno⟩ ⟨rfl, hz⟩
      obtain ⟨d, hd2, dv⟩ := dpall_get hx hz
      rw [List.getElem?_map] at hd2
      obtain ⟨c, hc, rfl⟩ := Option.map_eq_some_iff.mp hd2
      rw [hxl] at hc hi
      obtain ⟨hc1, hc2⟩ := List.getElem?_eq_some_iff.mp hc
      obtain ⟨a, pf, vr, rfl, qa, qf, qr⟩ := dp_cvD (dv.to s1)
      walk_at "go"
      refine ⟨_, c.rs, _, _, rfl, qr, ok.2 c (List.mem_of_getElem? hc), fun H2 s2 => ?_⟩
      walk_at "go"
      refine if_b (fun h => ?_) (fun h => ?_)
      · walk_at "go"
        refine q _ _ (s1.trans s2) ?_
        have e : topC sc x y = some c := by
          have := find_rev (hasC x y) sc i hi (fun j hj h => hno j hj (by omega)) (by rw [hc2]; exact h)
          rw [hc2] at this
          exact this
        rw [e]
        exact (dv.to s1).to s2
      · refine ⟨_, rfl, s1.trans s2, fun j hj hij => ?_⟩
        by_cases e : j = sc.length - 1 - i
        · subst e; rw [hc2]; exact h
        · exact hno j hj (by omega)
    · rintro σ H' ⟨v3, rfl, s1, hno⟩
      walk_at "go"
      refine q _ _ s1 ?_
      have e : topC sc x y = none := find_none _ _ fun j hj => hno j hj (by omega)
      rw [e]; exact .non
def sp__window_at (K : PySem.W.Frag) : Sp := fun vs H Q _ => ∃ (v : V) (s : Scn) (x y : Int), vs = [v, .int x, .int y] ∧ Dp K H v (scD s) ∧ OkS s ∧ ∀ r H', Same H H' → Dp K H' r (winO (topC s x y)) → Q r H'
theorem sc__window_at : FnScope ["covers", "x", "y", "cover"] ["covers", "x", "y"] (defScope s__window_at) := ⟨rfl, rfl, rfl, by decide +kernel, rfl, by decide +kernel, by decide +kernel⟩
theorem ok__window_at (T : Txt K mg A) : FnOk P w K mg base CX0 4 A.f_window_at A.d_window_at ["covers", "x", "y"] (sp__window_at K) := by
  refine T.F_window_at.ok sc__window_at (fun vs H Q E h => ?_) (fun cdv Ar outer s H vs Q E hr h => ?_)
  · obtain ⟨_, _, _, _, rfl, _⟩ := h
    rfl
  · obtain ⟨v, sc, x, y, rfl, hd, ok, q⟩ := h
    refine ⟨_, (pss_cons (ps_set (i := 3) sc__window_at.nd rfl (Or.inl rfl) (pe_call (ok_top_cover T) (hr.mono (by decide)) rfl T.gtop_cover T.ktop_cover T.btop_cover .nil pass0 (pa_cons (pv 0) (pa_cons (pv 1) (pa_cons (pv 2) pa_nil)))))
      (pss_one (ps_ret (pe_ifExp (pt_cmpR op_isN (pv 3) pe_non (nomark _)) pe_non (pe_slice (r := rSlT K) sl_tup (pv 3) po_none (po_some pe_int)))))), ?_⟩
    walk_at "go"
    refine ⟨v, sc, x, y, rfl, hd, ok, fun r H1 s1 dr => ?_⟩
    cases e : topC sc x y with
    | none =>
      rw [e] at dr q
      cases dr
      walk_at "go"
      exact q _ _ s1 .non
    | some c =>
      rw [e] at dr q
      obtain ⟨a, pf, vr, rfl, qa, qf, qr⟩ := dp_cvD dr
      walk_at "go"
      refine ⟨a, _, rfl, qa, (by show ¬(HT.sIx 4 0 none = 0 ∧ HT.sIx 4 4 (some 2) = 4); decide), fun p hp => ?_⟩
      exact q _ _ (s1.trans (same_upd hp)) (.tup (SqT.of upd_same) (.cons (sD_dp _) (.cons (.int _) .nil)))
def sp__framed_at (K : PySem.W.Frag) : Sp := fun vs H Q _ => ∃ (v : V) (s : Scn) (x y : Int), vs = [v, .int x, .int y] ∧ Dp K H v (scD s) ∧ OkS s ∧ ∀ r H', Same H H' → Dp K H' r (frmO (topC s x y)) → Q r H'
theorem sc__framed_at : FnScope ["covers", "x", "y", "cover"] ["covers", "x", "y"] (defScope s__framed_at) := ⟨rfl, rfl, rfl, by decide +kernel, rfl, by decide +kernel, by decide +kernel⟩
theorem ok__framed_at (T : Txt K mg A) : FnOk P w K mg base CX0 4 A.f_framed_at A.d_framed_at ["covers", "x", "y"] (sp__framed_at K) := by
  refine T.F_framed_at.ok sc__framed_at (fun vs H Q E h => ?_) (fun cdv Ar outer s H vs Q E hr h => ?_)
  · obtain ⟨_, _, _, _, rfl, _⟩ := h
    rfl
  · obtain ⟨v, sc, x, y, rfl, hd, ok, q⟩ := h
    refine ⟨_, (pss_cons (ps_set (i := 3) sc__framed_at.nd rfl (Or.inl rfl) (pe_call (ok_top_cover T) (hr.mono (by decide)) rfl T.gtop_cover T.ktop_cover T.btop_cover .nil pass0 (pa_cons (pv 0) (pa_cons (pv 1) (pa_cons (pv 2) pa_nil)))))
      (pss_one (ps_ret (pe_ifExp (pt_cmpR op_isN (pv 3) pe_non (nomark _)) pe_non (pe_slice (r := rSlT K) sl_tup (pv 3) po_none (po_some pe_int)))))), ?_⟩
    walk_at "go"
    refine ⟨v, sc, x, y, rfl, hd, ok, fun r H1 s1 dr => ?_⟩
    cases e : topC sc x y with
    | none =>
      rw [e] at dr q
      cases dr
      walk_at "go"
      exact q _ _ s1 .non
    | some c =>
      rw [e] at dr q
      obtain ⟨a, pf, vr, rfl, qa, qf, qr⟩ := dp_cvD dr
      walk_at "go"
      refine ⟨a, _, rfl, qa, (by show ¬(HT.sIx 4 0 none = 0 ∧ HT.sIx 4 4 (some 3) = 4); decide), fun p hp => ?_⟩
      exact q _ _ (s1.trans (same_upd hp)) (.tup (SqT.of upd_same) (.cons (sD_dp _) (.cons (.int _) (.cons ((rD_dp qf).to (same_upd hp)) .nil))))
def disC (sl : Int) (c : Cv) : Cv := if c.s = some sl then { c with s := none } else c
def sp__disowned (K : PySem.W.Frag) : Sp := fun vs H Q _ => ∃ (v : V) (c : Cv) (sl : Int) (U : Hp), vs = [v, .int sl] ∧ Same U H ∧ Dp K U v (cvD c) ∧ ∀ r U' H', Ext U H U' H' → Dp K U' r (cvD (disC sl c)) → Q r H'
theorem eqv_sD (s : Option Int) (sl : Int) : PyData.eqv (sD s) (.int sl) = decide (s = some sl) := by
  cases s with
  | none => rfl
  | some i =>
    by_cases h : i = sl
    · subst h
      rw [decide_eq_true rfl]
      exact (sh_int i).self
    · rw [decide_eq_false fun z => h (Option.some.inj z)]
      simp [sD, PyData.eqv, h]
theorem sc__disowned : FnScope ["cover", "slot"] ["cover", "slot"] (defScope s__disowned) := ⟨rfl, rfl, rfl, by decide +kernel, rfl, by decide +kernel, by decide +kernel⟩
theorem ok__disowned (T : Txt K mg A) : FnOk P w K mg base CX0 1 A.f_disowned A.d_disowned ["cover", "slot"] (sp__disowned K) := by
  refine T.F_disowned.ok sc__disowned (fun vs H Q E h => ?_) (fun cdv Ar outer s H vs Q E hr h => ?_)
  · obtain ⟨_, _, _, _, rfl, _⟩ := h
    rfl
  · obtain ⟨v, c, sl, U, rfl, sU, hd, q⟩ := h
    obtain ⟨a, pf, vr, rfl, qa, qf, qr⟩ := dp_cvD hd
    have qa' := sU.sqt qa
    refine ⟨_, (pss_one (ps_ret (pe_ifExp (pt_cmpR (op_eqD hr.units) (pe_ix (r := rIxT K) ix_tup (pv 0) pe_int (fun _ _ => rfl)) (pv 1) (nomark _)) (pe_tup (pa_cons pe_non (pa_cons (pe_ix (r := rIxT K) ix_tup (pv 0) pe_int (fun _ _ => rfl)) (pa_cons (pe_ix (r := rIxT K) ix_tup (pv 0) pe_int (fun _ _ => rfl)) (pa_cons (pe_ix (r := rIxT K) ix_tup (pv 0) pe_int (fun _ _ => rfl)) pa_nil))))) (pv 0)))), ?_⟩
    walk_at "go"
    refine t_eq (sD_dp _) (.int sl) ((sh_sD _).shaped) ((sh_int _).shaped) ?_
    rw [eqv_sD]
    by_cases h : c.s = some sl
    · have e : disC sl c = ⟨none, c.w, c.f, c.rs⟩ := if_pos h
      rw [decide_eq_true h]
      rw [e] at q
      walk_at "go"
      rename_i p hp
      have x1 := Ext.new (o := .tup [.non, .int c.w, .ref pf, vr]) sU hp
      have s1 := same_upd (o := .tup [.non, .int c.w, .ref pf, vr]) (none_of_same sU hp)
      exact q _ _ _ x1 (.tup (SqT.of upd_same) (.cons .non (.cons (.int _) (.cons ((rD_dp qf).to s1) (.cons (qr.to s1) .nil)))))
    · have e : disC sl c = c := if_neg h
      rw [decide_eq_false h]
      rw [e] at q
      walk_at "go"
      exact q _ _ _ (Ext.refl sU) hd
/-! ### what was painted: the object -/
def rowD (r : Row) : PyData := .tuple [sD r.1, scD r.2]
theorem dp_rowD {K : PySem.W.Frag} {H : Hp} {v : V} {r : Row} (h : Dp K H v (rowD r)) : ∃ a vs, v = .ref a ∧ SqT K H a [sV r.1, vs] ∧ Dp K H vs (scD r.2) := by
  obtain ⟨a, xs, rfl, q, r⟩ := dp_tuple h
  cases r with
  | cons r1 r2 => cases r2 with
    | cons r2 r3 =>
      cases r3
      rw [dp_sD r1] at q
      exact ⟨a, _, rfl, q, r2⟩
def pF (pr : Addr) : List (Str × V) := [("_rows", .ref pr)]
theorem pF_r (d : Addr) : (pF d).lookup ("_rows" : Str) = some (.ref d) := by
  unfold pF; rw [List.lookup_cons_self]
theorem pF_put (d d' : Addr) : putF "_rows" (.ref d') (pF d) = pF d' := by
  unfold pF
  show (if ("_rows" : Str) = "_rows" then _ else _) = _
  rw [if_pos rfl]
theorem pF_no (d : Addr) {m : Str} (h1 : (m == ("_rows" : Str)) = false) : (pF d).lookup m = none := by
  unfold pF
  rw [List.lookup_cons, h1]; rfl
structure PtAt (C : Addr) (K : PySem.W.Frag) (U H : Hp) (o pr : Addr) (R : List Row) : Prop where
  ob : ∃ dx, H o = some (.ins C dx (pF pr))
  ls : ∃ ys, H pr = some (.lst ys) ∧ DpAll K U ys (R.map rowD)
theorem PtAt.ne {C o pr : Addr} {K : PySem.W.Frag} {U H : Hp} {R : List Row} (h : PtAt C K U H o pr R) : o ≠ pr := by
  obtain ⟨dx, e⟩ := h.ob
  obtain ⟨ys, e2, _⟩ := h.ls
  exact ne_of e e2 (by intro z; cases z)
theorem PtAt.same {C o pr : Addr} {K : PySem.W.Frag} {U U' H H' : Hp} {R : List Row} (h : PtAt C K U H o pr R) (s : Same H H') (u : Same U U') : PtAt C K U' H' o pr R := by
  obtain ⟨dx, e⟩ := h.ob
  obtain ⟨ys, e2, d⟩ := h.ls
  exact ⟨⟨dx, s _ _ e⟩, ys, s _ _ e2, d.to u⟩
def Timed (R : List Row) : Prop := ∀ r ∈ R.tail, ∃ t, r.1 = some t
def OkR (R : List Row) : Prop := R.length < 1000 ∧ ∀ r ∈ R, OkS r.2
theorem selR_len (R : List Row) (lim : Int) : (selR R lim).length ≤ R.length := by
  unfold selR
  refine Nat.le_trans (List.length_filterMap_le _ _) ?_
  rw [List.length_zip]; omega
def sp_Painted__latest (C : Addr) (K : PySem.W.Frag) : Sp := fun vs H Q _ => ∃ (o pr : Addr) (R : List Row) (lim : Int) (U : Hp), vs = [.ref o, .int lim] ∧ PtAt C K U H o pr R ∧ Same U H ∧ Timed R ∧ OkR R ∧
  ∀ p ys U' H', Ext U H U' H' → H p = none → H' p = some (.lst ys) → U' p = none → DpAll K U' ys ((latR R lim).map rowD) → Q (.ref p) H'
theorem sc_Painted__latest : FnScope ["self", "limit", "rows", "row", "behind"] ["self", "limit"] (defScope s_Painted__latest) := ⟨rfl, rfl, rfl, by decide +kernel, rfl, by decide +kernel, by decide +kernel⟩
theorem ok_Painted__latest (T : Txt K mg A) : FnOk P w K mg base CX0 1 A.fPainted__latest A.dPainted__latest ["self", "limit"] (sp_Painted__latest A.CPainted K) := by
  refine T.FPainted__latest.ok sc_Painted__latest (fun vs H Q E h => ?_) (fun cdv Ar outer s H vs Q E hr h => ?_)
  · obtain ⟨_, _, _, _, _, rfl, _⟩ := h
    rfl
  · obtain ⟨o, pr, R, lim, U, rfl, hP, sU, ht, ok, q⟩ := h
    obtain ⟨dx, e1⟩ := hP.ob
    obtain ⟨ys, e2, d2⟩ := hP.ls
    have hyl : ys.length = R.length := by rw [dpall_len d2, List.length_map]
    have ok1 := ok.1
    refine ⟨_, (pss_cons (ps_setLc (i := 2) (own := [("row", 3), ("behind", 4)]) (g := (gTup K 2 (gCons (gName 3) (gCons (gName 4) gNil)))) rfl sc_Painted__latest.nd rfl rfl (sw_true rfl rfl rfl (by decide +kernel)) (pi_zip (by rfl) T.zip (pa_cons (pe_fld (pv 0) rfl) (pa_cons (pe_slice (r := rSlL K) sl_list (pe_fld (pv 0) rfl) (po_some pe_int) po_none) pa_nil))) (blkOk_by (own := [("row", 3), ("behind", 4)]) (N := ["self", "limit", "rows", "row", "behind"]) (sc := defScope s_Painted__latest) (by decide +kernel)) (fun _ _ _ _ _ => by exact (pg_tup rfl (pgs_cons (pg_name (i := 3) sc_Painted__latest.nd rfl (Or.inl rfl)) (pgs_cons (pg_name (i := 4) sc_Painted__latest.nd rfl (Or.inl rfl)) pgs_nil)))) (fun _ _ _ _ _ => (pts_one (pt_cmpR op_gt (pe_ix (r := rIxT K) ix_tup (pv 4) pe_int (fun _ _ => rfl)) (pv 1) (nomark _)))) (fun _ _ _ _ _ => by exact (pv 3)))
      (pss_one (ps_ret (pe_op op_cat (pv 2) (pe_slice (r := rSlL K) sl_list (pe_fld (pv 0) rfl) (po_some (pe_un un_neg pe_int)) po_none))))), ?_⟩
    walk_at "go"
    refine ⟨o, _, dx, _, _, rfl, e1, T.clPainted, T.nPainted__rows, pF_r _, ?_⟩
    walk_at "go"
    refine ⟨o, _, dx, _, _, rfl, e1, T.clPainted, T.nPainted__rows, pF_r _, ?_⟩
    walk_at "go"
    refine ⟨pr, _, rfl, SqL.of e2, fun p1 h1 => ?_⟩
    have s1 := same_upd (o := .lst (cutV ys (some 1) none)) h1
    have ev1 : cutV ys (some 1) none = ys.tail := by
      unfold cutV
      have : HT.sIx ys.length 0 (some 1) = min 1 ys.length := HT.sIx_nat ys.length 0 1
      rw [this, HT.sIx_none]
      cases ys with
      | nil => rfl
      | cons a l =>
        rw [show min 1 (a :: l).length = 1 from Nat.min_eq_left (by rw [List.length_cons]; omega), List.drop_succ_cons, List.drop_zero]
        exact List.take_of_length_le (by rw [List.length_cons]; omega)
    rw [ev1] at s1 ⊢
    walk_at "go"
    refine ⟨pr, p1, ys, ys.tail, rfl, SqL.of (s1 _ _ e2), SqL.of upd_same, fun D hD => ?_⟩
    have e11 : (upd H p1 (.lst ys.tail)) p1 = some (.lst ys.tail) := upd_same
    have hnH : ∀ c, (upd H p1 (.lst ys.tail)) c = none → H c = none := none_same s1
    generalize upd H p1 (.lst ys.tail) = H1 at s1 e11 hD hnH ⊢
    have hz : (R.zip R.tail).length = min ys.length ys.tail.length := by
      rw [List.length_zip, List.length_tail, List.length_tail, hyl]
    refine lc_dpS (walk_zip (K := K) (a := pr) (b := p1) (xs := ys) (ys := ys.tail) rfl) (K := K) (V0 := U) (H0 := H1) (fun i => ((R.zip R.tail)[i]?).bind fun p => if lim < tm p.2 then some (rowD p.1) else none) _ rfl (sU.trans s1) hD (by omega) (fun H' s => ⟨s.seq (SqL.of (s1 _ _ e2)), s.seq (SqL.of e11)⟩) (fun i x H H' y => ?_) ?_ ?_
    · obtain ⟨T', x', y', _, h, rfl, _, _⟩ := y
      exact same_upd h
    · rintro n z U2 H4 H5 hn' xx ⟨T', x', y', rfl, hT, rfl, hx', hy'⟩ Qy Qn hy hno
      have sT := same_upd (o := .tup [x', y']) hT
      obtain ⟨d, hd1, dv1⟩ := dpall_get d2 hx'
      rw [List.getElem?_map] at hd1
      obtain ⟨r1, hr1, rfl⟩ := Option.map_eq_some_iff.mp hd1
      have hy2 : ys[n + 1]? = some y' := by rw [← List.getElem?_tail]; exact hy'
      obtain ⟨d, hd3, dv3⟩ := dpall_get d2 hy2
      rw [List.getElem?_map] at hd3
      obtain ⟨r2, hr2, rfl⟩ := Option.map_eq_some_iff.mp hd3
      have hzz : (R.zip R.tail)[n]? = some (r1, r2) := by
        rw [List.getElem?_zip_eq_some]
        exact ⟨hr1, by rw [List.getElem?_tail]; exact hr2⟩
      obtain ⟨t2, ht2⟩ := ht r2 (List.mem_of_getElem? (i := n) (by rw [List.getElem?_tail]; exact hr2))
      obtain ⟨a3, v3, rfl, q3, _⟩ := dp_rowD dv3
      rw [ht2] at q3
      have q3' := sT.sqt ((xx.vh).sqt (xx.vv.sqt q3))
      walk_at "go"
      have et : tm r2 = t2 := by unfold tm; rw [ht2]; rfl
      refine iteP (fun h => ?_) (fun h => ?_)
      · refine ⟨_, rfl, hy (rowD r1) _ _ _ ?_ (Ext.refl (xx.vh.trans sT)) (dv1.to xx.vv)⟩
        rw [hzz]
        show (if lim < tm r2 then some (rowD r1) else none) = _
        rw [et, if_pos h]
      · refine hno ?_ _ _ (Ext.refl (xx.vh.trans sT))
        rw [hzz]
        show (if lim < tm r2 then some (rowD r1) else none) = _
        rw [et, if_neg h]
    · rintro U2 H4 xs xx hDU dl _
      have efm : fm (fun i => ((R.zip R.tail)[i]?).bind fun p => if lim < tm p.2 then some (rowD p.1) else none) (min ys.length ys.tail.length) = (selR R lim).map rowD := by
        rw [fm_fmap (fun p : Row × Row => if lim < tm p.2 then some (rowD p.1) else none) (R.zip R.tail) _ hz.symm _ (fun i x hx => by rw [hx]; rfl)]
        unfold selR
        rw [List.map_filterMap]
        congr 1
        funext p
        split <;> rfl
      rw [efm] at dl
      have e14 := xx.hh _ _ (s1 _ _ e1)
      have e24 := xx.hh _ _ (s1 _ _ e2)
      have eD4 := xx.vh _ _ hDU
      walk_at "go"
      refine ⟨o, _, dx, _, _, rfl, e14, T.clPainted, T.nPainted__rows, pF_r _, ?_⟩
      walk_at "go"
      refine ⟨pr, _, rfl, SqL.of e24, fun p5 h5 => ?_⟩
      have ev5 : cutV ys (some (-1)) none = ys.drop (ys.length - 1) := by
        unfold cutV
        have : HT.sIx ys.length 0 (some (-1)) = ys.length - 1 := by
          show (if (-1 : Int) < 0 then ((-1 : Int) + (ys.length : Int)).toNat else min (-1 : Int).toNat ys.length) = _
          rw [if_pos (by decide)]; omega
        rw [this, HT.sIx_none]
        exact List.take_of_length_le (by rw [List.length_drop]; omega)
      rw [ev5]
      have s5 := same_upd (o := .lst (ys.drop (ys.length - 1))) h5
      have dl5 : DpAll K U2 (ys.drop (ys.length - 1)) ((R.drop (R.length - 1)).map rowD) := by
        have : ∀ {vs : List V} {ds : List PyData} (n : Nat), DpAll K U2 vs ds → DpAll K U2 (vs.drop n) (ds.drop n) := by
          intro vs ds n h
          induction n generalizing vs ds with
          | zero => exact h
          | succ n ih =>
            cases h with
            | nil => rw [List.drop_nil, List.drop_nil]; exact .nil
            | cons q r => exact ih r
        have h := this (ys.length - 1) (d2.to xx.vv)
        rw [hyl] at h
        rw [hyl, List.map_drop]; exact h
      refine ⟨D, p5, xs, _, rfl, rfl, s5 _ _ eD4, upd_same, ?_, fun p6 h6 => ?_⟩
      · have l1 := dpall_len dl
        rw [List.length_map] at l1
        have l2 := selR_len R lim
        rw [List.length_drop]
        exact len_line (by omega)
      have s6 := same_upd (o := .lst (xs ++ ys.drop (ys.length - 1))) h6
      have sH := ((s1.trans xx.hh).trans s5).trans s6
      refine q p6 _ U2 _ ⟨xx.vv, (xx.vh.trans s5).trans s6, sH, fun a e => (xx.nw a e).imp id (hnH a)⟩ ?_ upd_same (none_of_same (xx.vh.trans s5) h6) ?_
      · exact ((s1.trans xx.hh).trans s5).free h6
      · rw [latR_eq, List.map_append]
        exact dpall_app dl dl5
def sp_Painted___init__ (C : Addr) (K : PySem.W.Frag) : Sp := fun vs H Q _ => ∃ (o dx : Addr) (U : Hp), vs = [.ref o] ∧ H o = some (.ins C dx []) ∧ Same U H ∧ U o = none ∧
  ∀ (pr : Addr) (U' H' : Hp), Grow U H U' H' → PtAt C K U' H' o pr [(none, [])] → H pr = none → U' pr = none → (∀ b u, H b = some u → b ≠ o → H' b = some u) → Q .non H'
theorem sc_Painted___init__ : FnScope ["self"] ["self"] (defScope s_Painted___init__) := ⟨rfl, rfl, rfl, by decide +kernel, rfl, by decide +kernel, by decide +kernel⟩
theorem ok_Painted___init__ (T : Txt K mg A) : FnOk P w K mg base CX0 1 A.fPainted___init__ A.dPainted___init__ ["self"] (sp_Painted___init__ A.CPainted K) := by
  refine T.FPainted___init__.ok sc_Painted___init__ (fun vs H Q E h => ?_) (fun cdv Ar outer s H vs Q E hr h => ?_)
  · obtain ⟨o, dx, U, rfl, _⟩ := h
    rfl
  · obtain ⟨o, dx, U, rfl, ho, sU, uo, q⟩ := h
    refine ⟨_, (pss_one (ps_fld (pv 0) (pe_lst (pa_cons (pe_tup (pa_cons pe_non (pa_cons (pe_lst pa_nil) pa_nil))) pa_nil)) rfl)), ?_⟩
    walk_at "go"
    rename_i p1 h1 p2 h2 p3 h3
    have x1 := Ext.new (o := .lst []) sU h1
    have x2 := x1.trans (Ext.new (o := .tup [.non, .ref p1]) x1.vh h2)
    have x3 : Ext U H _ (upd (upd (upd H p1 (.lst [])) p2 (.tup [.non, .ref p1])) p3 (.lst [.ref p2])) := x2.trans (Ext.skip x2.vh h3)
    have s1 := same_upd (o := .tup [.non, .ref p1]) (none_of_same x1.vh h2)
    have d2 : Dp K (upd (upd U p1 (.lst [])) p2 (.tup [.non, .ref p1])) (.ref p2) (rowD (none, [])) := .tup (SqT.of upd_same) (.cons .non (.cons ((Dp.lst (SqL.of upd_same) .nil).to s1) .nil))
    have e3 : (upd (upd (upd H p1 (.lst [])) p2 (.tup [.non, .ref p1])) p3 (.lst [.ref p2])) p3 = some (.lst [.ref p2]) := upd_same
    have n3 : (upd (upd U p1 (.lst [])) p2 (.tup [.non, .ref p1])) p3 = none := none_of_same x2.vh h3
    have hp3 : H p3 = none := x2.hh.free h3
    generalize upd (upd (upd H p1 (.lst [])) p2 (.tup [.non, .ref p1])) p3 (.lst [.ref p2]) = H3 at x3 e3 ⊢
    have uo3 : (upd (upd U p1 (.lst [])) p2 (.tup [.non, .ref p1])) o = none := x3.keepOut uo (by rw [ho]; exact fun z => by cases z)
    have o3 := x3.hh _ _ ho
    refine ⟨o, _, dx, _, rfl, o3, T.clPainted, T.nPainted__rows, (by show 0 < 1000; decide), ?_⟩
    have hpo : p3 ≠ o := fun z => by rw [z, ho] at hp3; cases hp3
    refine q p3 _ _ (x3.grow.poke uo3) ⟨⟨dx, upd_same⟩, [.ref p2], by rw [upd_ne hpo]; exact e3, .cons d2 .nil⟩ hp3 n3 fun b u e hb => by rw [upd_ne hb]; exact x3.hh _ _ e
theorem timed_snoc {R0 : List Row} {r : Row} (h : Timed (R0 ++ [r])) (t : Int) (s : Scn) : Timed (R0 ++ [(some t, s)]) ∧ Timed ((R0 ++ [r]) ++ [(some t, s)]) := by
  have key : ∀ (A : List Row) (x : Row), (∀ m ∈ A.tail, ∃ t, m.1 = some t) → (A ≠ [] → ∃ t, x.1 = some t) → Timed (A ++ [x]) := by
    intro A x h1 h2 m hm
    cases A with
    | nil => cases hm
    | cons a l =>
      rw [List.cons_append, List.tail_cons] at hm
      rcases List.mem_append.mp hm with hm | hm
      · exact h1 m hm
      · rw [List.mem_singleton.mp hm]; exact h2 (fun z => by cases z)
  refine ⟨key R0 _ (fun m hm => ?_) fun _ => ⟨t, rfl⟩, key (R0 ++ [r]) _ h fun _ => ⟨t, rfl⟩⟩
  refine h m ?_
  cases R0 with
  | nil => cases hm
  | cons a l => exact List.mem_append_left _ hm
def sp_Painted_paint (C : Addr) (K : PySem.W.Frag) : Sp := fun vs H Q _ => ∃ (o pr : Addr) (R0 : List Row) (r : Row) (t : Int) (v : V) (sc : Scn) (U : Hp), vs = [.ref o, .int t, v] ∧ PtAt C K U H o pr (R0 ++ [r]) ∧ Same U H ∧ U o = none ∧ U pr = none ∧ Dp K U v (scD sc) ∧ OkS sc ∧ Timed (R0 ++ [r]) ∧ OkR (R0 ++ [r]) ∧ R0.length < 900 ∧
  ∀ (pr' : Addr) (U' H' : Hp), Grow U H U' H' → PtAt C K U' H' o pr' (latR ((if r.1 = some t then R0 else R0 ++ [r]) ++ [(some t, sc)]) (t - 1000)) → H pr' = none → U' pr' = none → (∀ b u, H b = some u → b ≠ o → b ≠ pr → H' b = some u) → Q .non H'
theorem sc_Painted_paint : FnScope ["self", "time", "covers"] ["self", "time", "covers"] (defScope s_Painted_paint) := ⟨rfl, rfl, rfl, by decide +kernel, rfl, by decide +kernel, by decide +kernel⟩
theorem ok_Painted_paint (T : Txt K mg A) : FnOk P w K mg base CX0 2 A.fPainted_paint A.dPainted_paint ["self", "time", "covers"] (sp_Painted_paint A.CPainted K) := by
  refine T.FPainted_paint.ok sc_Painted_paint (fun vs H Q E h => ?_) (fun cdv Ar outer s H vs Q E hr h => ?_)
  · obtain ⟨o, pr, R0, r, t, v, sc, U, rfl, _⟩ := h
    rfl
  · obtain ⟨o, pr, R0, r, t, v, sc, U, rfl, hP, sU, uo, ur, dv, oks, ht, okr, hl, q⟩ := h
    have hne := hP.ne
    obtain ⟨dx, e1⟩ := hP.ob
    obtain ⟨ys, e2, d2⟩ := hP.ls
    obtain ⟨ys0, y, rfl, dy0, dy⟩ : ∃ ys0 y, ys = ys0 ++ [y] ∧ DpAll K U ys0 (R0.map rowD) ∧ Dp K U y (rowD r) := by
      have key : ∀ {ys : List V} {A : List PyData} {x : PyData}, DpAll K U ys (A ++ [x]) → ∃ ys0 y, ys = ys0 ++ [y] ∧ DpAll K U ys0 A ∧ Dp K U y x := by
        intro ys A x h
        induction A generalizing ys with
        | nil =>
          cases h with
          | cons q r => cases r; exact ⟨[], _, rfl, .nil, q⟩
        | cons a l ih =>
          cases h with
          | cons q r =>
            obtain ⟨y0, y, rfl, h1, h2⟩ := ih r
            exact ⟨_ :: y0, y, rfl, .cons q h1, h2⟩
      rw [List.map_append] at d2
      exact key d2
    obtain ⟨ay, vy, rfl, qy, _⟩ := dp_rowD dy
    refine ⟨_, (C8.pss_cut (ps_if (pt_cmpR (op_eqD hr.units) (pe_ix (r := rIxT K) ix_tup (pe_ix (r := rIxL K) ix_list (pe_fld (pv 0) rfl) (pe_un un_neg pe_int) (fun _ _ => rfl)) pe_int (fun _ _ => rfl)) (pv 1) (nomark _))
      (pss_one (ps_delL (pe_fld (pv 0) rfl) (pe_un un_neg pe_int)))
      pss_nil)
      (pss_cons (ps_expr (pe_bm PySem.F.plainAttrs_list PySem.F.slot_list_append PySem.F.type_list_append mt_append (pe_fld (pv 0) rfl) (pa_cons (pe_tup (pa_cons (pv 1) (pa_cons (pe_callTy call_list_of (by rfl) T.list (by decide +kernel) (pa_cons (pv 2) pa_nil)) pa_nil))) pa_nil)))
      (pss_one (ps_fld (pv 0) (pe_meth (pv 0) T.clPainted T.mPainted__latest (ok_Painted__latest T) (hr.mono (by decide)) T.bPainted__latest .nil pass0 (pa_cons (pe_op op_sub (pv 1) (pe_glob (v := .int (1000)) rfl T.gLONGEST_GUARD ⟨_, rfl⟩)) pa_nil)) rfl)))), ?_⟩
    refine ⟨fun σ' H' => σ' = [some (.ref o), some (.int t), some v] ∧ (∀ c, c ≠ pr → H' c = H c) ∧ ∃ ys', H' pr = some (.lst ys') ∧ DpAll K U ys' ((if r.1 = some t then R0 else R0 ++ [r]).map rowD), ?_, ?_⟩
    · walk_at "go"
      refine ⟨o, _, dx, _, _, rfl, e1, T.clPainted, T.nPainted__rows, pF_r _, ?_⟩
      walk_at "go"
      refine ⟨pr, _, _, .ref ay, rfl, rfl, SqL.of e2, atI_last _ _, ?_⟩
      walk_at "go"
      refine t_eq (sD_dp _) (.int t) (sh_sD _).shaped (sh_int _).shaped ⟨_, rfl, ?_⟩
      rw [eqv_sD]
      by_cases h : r.1 = some t
      · rw [decide_eq_true h, if_pos h]
        walk_at "go"
        refine ⟨o, _, dx, _, _, rfl, e1, T.clPainted, T.nPainted__rows, pF_r _, ?_⟩
        walk_at "go"
        refine ⟨pr, _, _, ys0.length, rfl, rfl, e2, by decide, by decide, ?_, ?_⟩
        · rw [seqIndex_neg (by decide) (by rw [List.length_append]; show -(((ys0.length + 1 : Nat) : Int)) ≤ -1; omega), List.length_append]
          show some ((-1 + ((ys0.length + 1 : Nat) : Int)).toNat) = _
          congr 1; omega
        refine ⟨rfl, fun c hc => upd_ne hc, ys0, ?_, dy0⟩
        rw [upd_same]
        congr 2
        rw [List.eraseIdx_append_of_length_le (Nat.le_refl _), Nat.sub_self]
        show ys0 ++ [] = ys0
        exact List.append_nil _
      · rw [decide_eq_false h, if_neg h]
        walk_at "go"
        refine ⟨fun c hc => rfl, _, e2, ?_⟩
        exact d2
    rintro σ' H1 ⟨rfl, hkeep, ys', e21, d21⟩
    have e11 : H1 o = some (.ins A.CPainted dx (pF pr)) := by rw [hkeep o hne]; exact e1
    have sU1 : Same U H1 := fun b u e => by
      rw [hkeep b (fun z => by rw [z, ur] at e; cases e)]; exact sU _ _ e
    have hn1 : ∀ c, H1 c = none → H c = none := fun c e => by
      by_cases hc : c = pr
      · rw [hc, e21] at e; cases e
      · rw [hkeep c hc] at e; exact e
    obtain ⟨pv, xv, rfl, qv, rv_⟩ := dp_list dv
    have qv1 := sU1.seq qv
    obtain ⟨tm1, tm2⟩ := timed_snoc ht t sc
    have htd : Timed ((if r.1 = some t then R0 else R0 ++ [r]) ++ [(some t, sc)]) := by
      by_cases h : r.1 = some t
      · rw [if_pos h]; exact tm1
      · rw [if_neg h]; exact tm2
    have hok : OkR ((if r.1 = some t then R0 else R0 ++ [r]) ++ [(some t, sc)]) := by
      have l1 : (if r.1 = some t then R0 else R0 ++ [r]).length ≤ R0.length + 1 := by
        split
        · omega
        · rw [List.length_append]; exact Nat.le_refl _
      refine ⟨by rw [List.length_append]; show _ + 1 < 1000; omega, fun m hm => ?_⟩
      rcases List.mem_append.mp hm with hm | hm
      · refine okr.2 m ?_
        split at hm
        · exact List.mem_append_left _ hm
        · exact hm
      · rw [List.mem_singleton.mp hm]; exact oks
    have hlen : ys'.length ≤ 2000 := by
      have l1 := dpall_len d21
      have l2 : (if r.1 = some t then R0 else R0 ++ [r]).length ≤ R0.length + 1 := by
        split
        · omega
        · rw [List.length_append]; exact Nat.le_refl _
      rw [List.length_map] at l1; omega
    have dl21 := d21
    generalize (if r.1 = some t then R0 else R0 ++ [r]) = R1 at d21 htd hok q
    walk_at "go"
    refine ⟨o, _, dx, _, _, rfl, e11, T.clPainted, T.nPainted__rows, pF_r _, ?_⟩
    walk_at "go"
    refine ⟨.inl ⟨rfl, _, SqL.of e21⟩, ?_⟩
    walk_at "go"
    intro l hl
    have x1 := Ext.new (o := .lst xv) sU1 hl
    walk_at "go"
    rename_i p2 hp2
    have x2 := x1.trans (Ext.new (o := .tup [.int t, .ref l]) x1.vh hp2)
    have sl := same_upd (o := .tup [.int t, .ref l]) (none_of_same x1.vh hp2)
    have d2 : Dp K (upd (upd U l (.lst xv)) p2 (.tup [.int t, .ref l])) (.ref p2) (rowD (some t, sc)) := .tup (SqT.of upd_same) (.cons (.int _) (.cons ((Dp.lst (SqL.of upd_same) (rv_.to (same_upd (none_of_same sU1 hl)))).to sl) .nil))
    have e12 := x2.hh _ _ e11
    have e22 := x2.hh _ _ e21
    have dR2 := d21.to x2.vv
    have uo2 := x2.keepOut uo (by rw [e11]; exact fun z => by cases z)
    have ur2 := x2.keepOut ur (by rw [e21]; exact fun z => by cases z)
    generalize upd (upd H1 l (.lst xv)) p2 (.tup [.int t, .ref l]) = H2 at x2 e12 e22 ⊢
    generalize upd (upd U l (.lst xv)) p2 (.tup [.int t, .ref l]) = U2 at x2 d2 dR2 uo2 ur2
    clear x1 sl hl hp2
    refine ⟨pr, ys', _, rfl, rfl, e22, lt_line (by omega), ?_⟩
    have e13 : (upd H2 pr (.lst (ys' ++ [.ref p2]))) o = some (.ins A.CPainted dx (pF pr)) := by rw [upd_ne hne]; exact e12
    have g3 := x2.grow.poke (o := .lst (ys' ++ [.ref p2])) ur2
    have sU3 : Same U2 (upd H2 pr (.lst (ys' ++ [.ref p2]))) := g3.vh
    have hP3 : PtAt A.CPainted K U2 (upd H2 pr (.lst (ys' ++ [.ref p2]))) o pr (R1 ++ [(some t, sc)]) := ⟨⟨dx, e13⟩, _, upd_same, by rw [List.map_append]; exact dpall_app dR2 (.cons d2 .nil)⟩
    have hn3 : ∀ c, (upd H2 pr (.lst (ys' ++ [.ref p2]))) c = none → H c = none := fun c e => hn1 c (x2.hh.free (none_poke (by rw [e22]; exact fun z => by cases z) c e))
    have hk3 : ∀ b u, H b = some u → b ≠ pr → (upd H2 pr (.lst (ys' ++ [.ref p2]))) b = some u := fun b u e hb => by
      rw [upd_ne hb]; exact x2.hh _ _ (by rw [hkeep b hb]; exact e)
    generalize upd H2 pr (.lst (ys' ++ [.ref p2])) = H3 at e13 g3 sU3 hP3 hn3 hk3 ⊢
    walk_at "go"
    refine ⟨o, dx, _, rfl, e13, pF_no _ (by decide +kernel), ?_⟩
    walk_at "go"
    refine ⟨o, pr, R1 ++ [(some t, sc)], t - 1000, U2, rfl, hP3, sU3, htd, hok, fun p4 ys4 U4 H4 x4 n4 e4 u4 d4 => ?_⟩
    walk_at "go"
    have e14 := x4.hh _ _ e13
    have uo4 : U4 o = none := x4.keepOut uo2 (by rw [e13]; exact fun z => by cases z)
    refine ⟨o, _, dx, _, rfl, e14, T.clPainted, T.nPainted__rows, (by show 1 < 1000; decide), ?_⟩
    rw [pF_put]
    have h4o : p4 ≠ o := fun z => by rw [z, e13] at n4; cases n4
    refine q p4 U4 _ ⟨x2.vv.trans x4.vv, ?_, fun a e => ?_⟩ ⟨⟨dx, upd_same⟩, ys4, by rw [upd_ne h4o]; exact e4, d4⟩ (hn3 _ n4) u4 fun b u e hb hb2 => ?_
    · exact same_poke x4.vh uo4
    · rcases x4.nw a e with h | h
      · rcases x2.nw a h with h | h
        · exact .inl h
        · exact .inr (hn1 a h)
      · exact .inr (hn3 a h)
    · rw [upd_ne hb]
      exact x4.hh _ _ (hk3 b u e hb2)
def disS (sl : Int) (s : Scn) : Scn := s.map (disC sl)
def sp_Painted_disown (C : Addr) (K : PySem.W.Frag) : Sp := fun vs H Q _ => ∃ (o pr : Addr) (R : List Row) (sl : Int) (U : Hp), vs = [.ref o, .int sl] ∧ PtAt C K U H o pr R ∧ Same U H ∧ U o = none ∧ OkR R ∧
  ∀ (pr' : Addr) (U' H' : Hp), Grow U H U' H' → PtAt C K U' H' o pr' (R.map (onS (disS sl))) → H pr' = none → U' pr' = none → (∀ b u, H b = some u → b ≠ o → H' b = some u) → Q .non H'
theorem sc_Painted_disown : FnScope ["self", "slot", "cover", "time", "covers"] ["self", "slot"] (defScope s_Painted_disown) := ⟨rfl, rfl, rfl, by decide +kernel, rfl, by decide +kernel, by decide +kernel⟩
theorem ok_Painted_disown (T : Txt K mg A) : FnOk P w K mg base CX0 2 A.fPainted_disown A.dPainted_disown ["self", "slot"] (sp_Painted_disown A.CPainted K) := by
  refine T.FPainted_disown.ok sc_Painted_disown (fun vs H Q E h => ?_) (fun cdv Ar outer s H vs Q E hr h => ?_)
  · obtain ⟨o, pr, R, sl, U, rfl, _⟩ := h
    rfl
  · obtain ⟨o, pr, R, sl, U, rfl, hP, sU, uo, ok, q⟩ := h
    obtain ⟨dx, e1⟩ := hP.ob
    obtain ⟨ys, e2, d2⟩ := hP.ls
    have hyl : ys.length = R.length := by rw [dpall_len d2, List.length_map]
    have ok1 := ok.1
    refine ⟨_, (pss_one (ps_fld (pv 0) (pe_lc (own := [("time", 3), ("covers", 4)]) (g := (gTup K 2 (gCons (gName 3) (gCons (gName 4) gNil)))) (tt := tYes) rfl sc_Painted_disown.nd (pi_list (pe_fld (pv 0) rfl)) (blkOk_by (own := [("time", 3), ("covers", 4)]) (N := ["self", "slot", "cover", "time", "covers"]) (sc := defScope s_Painted_disown) (by decide +kernel)) (fun _ _ _ _ _ => by exact (pg_tup rfl (pgs_cons (pg_name (i := 3) sc_Painted_disown.nd rfl (Or.inl rfl)) (pgs_cons (pg_name (i := 4) sc_Painted_disown.nd rfl (Or.inl rfl)) pgs_nil)))) (fun _ _ _ _ _ => pts_nil) (fun _ _ _ _ _ => by exact (pe_tup (pa_cons (pv 3) (pa_cons (pe_lc (wi := iList K (tVar 4)) (own := [("cover", 2)]) (g := (gName 2)) (tt := tYes) rfl sc_Painted_disown.nd (pi_list (pv 4)) (blkOk_by (own := [("cover", 2)]) (N := ["self", "slot", "cover", "time", "covers"]) (sc := { kind := ScopeKind.function, names := [(".0", NameKind.local), ("time", NameKind.local), ("covers", NameKind.local), ("slot", NameKind.cell)], isGenerator := false, isCoroutine := false }) (by decide +kernel)) (fun _ _ _ _ _ => (pg_name (i := 2) sc_Painted_disown.nd rfl (Or.inl rfl))) (fun _ _ _ _ _ => pts_nil) (fun _ _ _ _ _ => by exact (pe_call (ok__disowned T) (hr.mono (by decide)) rfl T.g_disowned T.k_disowned T.b_disowned .nil pass0 (pa_cons (pv 2) (pa_cons (pv 1) pa_nil))))) pa_nil))))) rfl)), ?_⟩
    walk_at "go"
    refine ⟨o, _, dx, _, _, rfl, e1, T.clPainted, T.nPainted__rows, pF_r _, ?_⟩
    refine ⟨pr, rfl, ⟨_, SqL.of e2⟩, fun D hD => ?_⟩
    refine lc_dp0 (walk_list (K := K) (a := pr) (xs := ys)) (K := K) (V0 := U) (H0 := H) (fun i => (R[i]?).map fun r => rowD (onS (disS sl) r)) [some (.ref o), some (.int sl), none, none, none] rfl sU hD (by omega) (fun H' s => s.seq (SqL.of e2)) (fun i x H H' y => y.1) ?_ ?_
    · rintro n z U2 H4 hn' xx ⟨_, hz⟩ Qy Qn hy hno
      obtain ⟨d, hd, dv⟩ := dpall_get d2 hz
      rw [List.getElem?_map] at hd
      obtain ⟨r, hr, rfl⟩ := Option.map_eq_some_iff.mp hd
      obtain ⟨ar, vr, rfl, qr, dr⟩ := dp_rowD (dv.to xx.vv)
      obtain ⟨ps, zs, rfl, qs, ds⟩ := dp_list dr
      have okr := ok.2 r (List.mem_of_getElem? hr)
      have hzl : zs.length = r.2.length := by rw [dpall_len ds, List.length_map]
      have ok2 := okr.1
      refine ⟨ar, _, rfl, xx.vh.sqt qr, rfl, _, _, rfl, _, _, rfl, rfl, rfl, ?_⟩
      refine ⟨_, rfl, _, rfl, ps, rfl, ⟨_, xx.vh.seq qs⟩, fun D2 hD2 => ?_⟩
      refine lc_dp (walk_list (K := K) (a := ps) (xs := zs)) (K := K) (V0 := U2) (H0 := H4) (fun i => (r.2[i]?).map fun c => cvD (disC sl c)) _ rfl xx.vh hD2 (by omega) (fun H' s => s.seq (xx.vh.seq qs)) (fun i x H H' y => y.1) ?_ ?_
      · rintro k z3 U3 H5 hk x3 ⟨_, hz3⟩ Qy2 Qn2 hy2 hno2
        obtain ⟨d, hd, dv3⟩ := dpall_get ds hz3
        rw [List.getElem?_map] at hd
        obtain ⟨c, hc, rfl⟩ := Option.map_eq_some_iff.mp hd
        refine ⟨rfl, _, rfl, _, rfl, z3, c, sl, U3, rfl, x3.vh, dv3.to x3.vv, fun rr U6 H6 x6 d6 => ?_⟩
        exact hy2 (cvD (disC sl c)) _ _ _ (by rw [hc]; rfl) x6 d6
      · rintro U3 H5 ws x3 hw d3 dl3
        rw [hzl, fm_map] at d3 dl3
        walk_at "go"
        rename_i p4 hp4
        have x4 := x3.trans (Ext.new (o := .tup [sV r.1, .ref D2]) x3.vh hp4)
        have s4 := same_upd (o := .tup [sV r.1, .ref D2]) (none_of_same x3.vh hp4)
        refine hy (rowD (onS (disS sl) r)) _ _ _ (by rw [hr]; rfl) x4 (.tup (SqT.of upd_same) (.cons (sD_dp _) (.cons ?_ .nil)))
        have : scD (onS (disS sl) r).2 = .list (r.2.map fun c => cvD (disC sl c)) := by
          show PyData.list ((r.2.map (disC sl)).map cvD) = _
          rw [List.map_map]; rfl
        rw [this]
        exact dl3.to s4
    · rintro U2 H4 ws xx uD eD dl
      rw [hyl, fm_map] at dl
      have e14 := xx.hh _ _ e1
      have uo4 : U2 o = none := xx.keepOut uo (by rw [e1]; exact fun z => by cases z)
      have hDo : D ≠ o := fun z => by rw [z, e1] at hD; cases hD
      refine ⟨_, rfl, o, _, dx, _, rfl, e14, T.clPainted, T.nPainted__rows, (by show 1 < 1000; decide), ?_⟩
      rw [pF_put]
      refine q D U2 _ (xx.grow.poke uo4) ⟨⟨dx, upd_same⟩, ws, by rw [upd_ne hDo]; exact eD, ?_⟩ hD uD fun b u e hb => by rw [upd_ne hb]; exact xx.hh _ _ e
      rw [List.map_map]; exact dl
def boolsD (bs : List Bool) : PyData := .list (bs.map PyData.bool)
def sp_Painted_scenes (C : Addr) (K : PySem.W.Frag) : Sp := fun vs H Q _ => ∃ (o pr : Addr) (R : List Row) (t g : Int) (U : Hp), vs = [.ref o, .int t, .int g] ∧ PtAt C K U H o pr R ∧ Same U H ∧ Timed R ∧ OkR R ∧
  ∀ v U' H', Ext U H U' H' → Dp K U' v (.list ((latR R (t - g)).reverse.map fun r => scD r.2)) → Q v H'
theorem latR_len (R : List Row) (lim : Int) : (latR R lim).length ≤ 2 * R.length := by
  rw [latR_eq, List.length_append, List.length_drop]
  have := selR_len R lim
  omega
theorem latR_mem {R : List Row} {lim : Int} : ∀ r ∈ latR R lim, r ∈ R := by
  rw [latR_eq]
  intro r hr
  rcases List.mem_append.mp hr with h | h
  · unfold selR at h
    obtain ⟨p, hp, e⟩ := List.mem_filterMap.mp h
    split at e
    · cases e; exact (List.of_mem_zip hp).1
    · cases e
  · exact List.mem_of_mem_drop h
theorem sc_Painted_scenes : FnScope ["self", "time", "guard", "_", "covers"] ["self", "time", "guard"] (defScope s_Painted_scenes) := ⟨rfl, rfl, rfl, by decide +kernel, rfl, by decide +kernel, by decide +kernel⟩
theorem ok_Painted_scenes (T : Txt K mg A) : FnOk P w K mg base CX0 2 A.fPainted_scenes A.dPainted_scenes ["self", "time", "guard"] (sp_Painted_scenes A.CPainted K) := by
  refine T.FPainted_scenes.ok sc_Painted_scenes (fun vs H Q E h => ?_) (fun cdv Ar outer s H vs Q E hr h => ?_)
  · obtain ⟨_, _, _, _, _, _, rfl, _⟩ := h
    rfl
  · obtain ⟨o, pr, R, t, g, U, rfl, hP, sU, ht, ok, q⟩ := h
    obtain ⟨dx, e1⟩ := hP.ob
    refine ⟨_, (pss_one (ps_ret (pe_lc (own := [("_", 3), ("covers", 4)]) (g := (gTup K 2 (gCons (gName 3) (gCons (gName 4) gNil)))) (tt := tYes) rfl sc_Painted_scenes.nd (pi_reversed (by rfl) T.reversed (pa_cons (pe_meth (pv 0) T.clPainted T.mPainted__latest (ok_Painted__latest T) (hr.mono (by decide)) T.bPainted__latest .nil pass0 (pa_cons (pe_op op_sub (pv 1) (pv 2)) pa_nil)) pa_nil)) (blkOk_by (own := [("_", 3), ("covers", 4)]) (N := ["self", "time", "guard", "_", "covers"]) (sc := defScope s_Painted_scenes) (by decide +kernel)) (fun _ _ _ _ _ => by exact (pg_tup rfl (pgs_cons (pg_name (i := 3) sc_Painted_scenes.nd rfl (Or.inl rfl)) (pgs_cons (pg_name (i := 4) sc_Painted_scenes.nd rfl (Or.inl rfl)) pgs_nil)))) (fun _ _ _ _ _ => pts_nil) (fun _ _ _ _ _ => by exact (pe_callTy (r := rListOf K) call_list_of (by rfl) T.list (by decide +kernel) (pa_cons (pv 4) pa_nil)))))), ?_⟩
    walk_at "go"
    refine ⟨o, dx, _, rfl, e1, pF_no _ (by decide +kernel), ?_⟩
    walk_at "go"
    refine ⟨o, pr, R, t - g, U, rfl, hP, sU, ht, ok, fun p4 ys4 U4 H4 x4 n4 e4 u4 d4 => ?_⟩
    walk_at "go"
    refine ⟨p4, ys4, rfl, SqL.of e4, fun D hD => ?_⟩
    have hyl : ys4.length = (latR R (t - g)).length := by rw [dpall_len d4, List.length_map]
    have hl := latR_len R (t - g)
    have ok1 := ok.1
    refine lc_dp (walk_rev (K := K) (a := p4) (xs := ys4)) (K := K) (V0 := U4) (H0 := H4) (fun i => ((latR R (t - g)).reverse[i]?).map fun r => scD r.2) _ rfl x4.vh hD (by omega) (fun H' s => s.seq (SqL.of e4)) (fun i x H H' y => y.1) ?_ ?_
    · rintro n z U2 H5 hn' xx ⟨_, hz⟩ Qy Qn hy hno
      obtain ⟨d, hd, dv⟩ := dpall_get d4 hz
      rw [List.getElem?_map] at hd
      obtain ⟨r, hr, rfl⟩ := Option.map_eq_some_iff.mp hd
      obtain ⟨ar, vr, rfl, qr, dr⟩ := dp_rowD (dv.to xx.vv)
      obtain ⟨ps, zs, rfl, qs, ds⟩ := dp_list dr
      have hrr : (latR R (t - g)).reverse[n]? = some r := by
        rw [List.getElem?_reverse (by omega), ← hyl]; exact hr
      refine ⟨ar, _, rfl, xx.vh.sqt qr, rfl, _, _, rfl, _, _, rfl, rfl, rfl, ?_⟩
      walk_at "go"
      refine ⟨ps, zs, rfl, .inl (xx.vh.seq qs), fun l hl2 => ?_⟩
      have x5 := Ext.new (o := .lst zs) xx.vh hl2
      exact hy (scD r.2) _ _ _ (by rw [hrr]; rfl) x5 (.lst (SqL.of upd_same) (ds.to (same_upd (none_of_same xx.vh hl2))))
    · rintro U2 H5 ws xx hw dl dv
      have : fm (fun i => ((latR R (t - g)).reverse[i]?).map fun r => scD r.2) ys4.length = (latR R (t - g)).reverse.map fun r => scD r.2 := by
        rw [hyl, ← List.length_reverse, fm_map]
      rw [this] at dv
      exact q _ _ _ ⟨x4.vv.trans xx.vv, xx.vh, x4.hh.trans xx.hh, fun a e => by
        rcases xx.nw a e with h | h
        · exact x4.nw a h
        · exact .inr (x4.hh.free h)⟩ dv
def eqW (x y : Int) (now s : Scn) : Bool := PyData.eqv (winO (topC s x y)) (winO (topC now x y))
def eqF (x y : Int) (now s : Scn) : Bool := PyData.eqv (frmO (topC s x y)) (frmO (topC now x y))
def sp_Painted_is_settled (C : Addr) (K : PySem.W.Frag) : Sp := fun vs H Q _ => ∃ (o pr : Addr) (R : List Row) (v : V) (now : Scn) (t g x y : Int) (U : Hp), vs = [.ref o, v, .int t, .int g, .int x, .int y] ∧ PtAt C K U H o pr R ∧ Same U H ∧ Timed R ∧ OkR R ∧ Dp K U v (scD now) ∧ OkS now ∧
  ∀ H', Same H H' → Q (.bl (((latR R (t - g)).map (·.2)).all (eqW x y now))) H'
theorem all_rev {α : Type} (f : α → Bool) (xs : List α) : xs.reverse.all f = xs.all f := by
  induction xs with
  | nil => rfl
  | cons a l ih => rw [List.reverse_cons, List.all_append, ih, List.all_cons, List.all_cons, List.all_nil, Bool.and_true, Bool.and_comm]
theorem sc_Painted_is_settled : FnScope ["self", "covers", "time", "guard", "x", "y", "window", "scene"] ["self", "covers", "time", "guard", "x", "y"] (defScope s_Painted_is_settled) := ⟨rfl, rfl, rfl, by decide +kernel, rfl, by decide +kernel, by decide +kernel⟩
theorem ok_Painted_is_settled (T : Txt K mg A) : FnOk P w K mg base CX0 5 A.fPainted_is_settled A.dPainted_is_settled ["self", "covers", "time", "guard", "x", "y"] (sp_Painted_is_settled A.CPainted K) := by
  refine T.FPainted_is_settled.ok sc_Painted_is_settled (fun vs H Q E h => ?_) (fun cdv Ar outer s H vs Q E hr h => ?_)
  · obtain ⟨_, _, _, _, _, _, _, _, _, _, rfl, _⟩ := h
    rfl
  · obtain ⟨o, pr, R, v, now, t, g, x, y, U, rfl, hP, sU, ht, ok, dn, okn, q⟩ := h
    obtain ⟨dx, e1⟩ := hP.ob
    refine ⟨_, (pss_cons (ps_set (i := 6) sc_Painted_is_settled.nd rfl (Or.inr rfl) (pe_call (ok__window_at T) (hr.mono (by decide)) rfl T.g_window_at T.k_window_at T.b_window_at .nil pass0 (pa_cons (pv 1) (pa_cons (pv 4) (pa_cons (pv 5) pa_nil)))))
      (pss_one (ps_ret (pe_callB (cr_all rfl) (by rfl) T.all (by decide +kernel) (pa_cons (pe_lc (own := [("scene", 7)]) (g := (gName 7)) (tt := tYes) rfl sc_Painted_is_settled.nd (pi_list (pe_meth (pv 0) T.clPainted T.mPainted_scenes (ok_Painted_scenes T) (hr.mono (by decide)) T.bPainted_scenes .nil pass0 (pa_cons (pv 2) (pa_cons (pv 3) pa_nil)))) (blkOk_by (own := [("scene", 7)]) (N := ["self", "covers", "time", "guard", "x", "y", "window", "scene"]) (sc := defScope s_Painted_is_settled) (by decide +kernel)) (fun _ _ _ _ _ => (pg_name (i := 7) sc_Painted_is_settled.nd rfl (Or.inl rfl))) (fun _ _ _ _ _ => pts_nil) (fun _ _ _ _ _ => by exact (pe_cmpR (r := rEqD K) (op_eqD hr.units) (pe_call (ok__window_at T) (hr.mono (by decide)) rfl T.g_window_at T.k_window_at T.b_window_at .nil pass0 (pa_cons (pv 7) (pa_cons (pv 4) (pa_cons (pv 5) pa_nil)))) (pv 6) (nomark _)))) pa_nil))))), ?_⟩
    walk_at "go"
    refine ⟨v, now, x, y, rfl, dn.to sU, okn, fun r H1 s1 dr => ?_⟩
    have e11 := s1 _ _ e1
    walk_at "go"
    refine ⟨o, dx, _, rfl, e11, pF_no _ (by decide +kernel), ?_⟩
    walk_at "go"
    refine ⟨o, pr, R, t, g, U, rfl, hP.same s1 (Same.refl _), sU.trans s1, ht, ok, fun v2 U2 H2 x2 d2 => ?_⟩
    obtain ⟨p4, ys4, rfl, q4, d4⟩ := dp_list d2
    have hyl : ys4.length = (latR R (t - g)).reverse.length := by rw [dpall_len d4, List.length_map]
    have hl := latR_len R (t - g)
    have ok1 := ok.1
    have hrl : (latR R (t - g)).reverse.length = (latR R (t - g)).length := List.length_reverse
    refine ⟨p4, rfl, ⟨_, x2.vh.seq q4⟩, fun D hD => ?_⟩
    refine lc_dp (walk_list (K := K) (a := p4) (xs := ys4)) (K := K) (V0 := U2) (H0 := H2) (fun i => ((latR R (t - g)).reverse[i]?).map fun r => PyData.bool (eqW x y now r.2)) _ rfl x2.vh hD (by omega) (fun H' s => s.seq (x2.vh.seq q4)) (fun i x H H' y => y.1) ?_ ?_
    · rintro n z U3 H5 hn' xx ⟨_, hz⟩ Qy Qn hy hno
      obtain ⟨d, hd, dv⟩ := dpall_get d4 hz
      rw [List.getElem?_map] at hd
      obtain ⟨rr, hr, rfl⟩ := Option.map_eq_some_iff.mp hd
      have okr := ok.2 rr (latR_mem rr (List.mem_reverse.mp (List.mem_of_getElem? hr)))
      refine ⟨rfl, ?_⟩
      walk_at "go"
      refine ⟨z, rr.2, x, y, rfl, dv.to (xx.vv.trans xx.vh), okr, fun r3 H6 s6 d6 => ?_⟩
      walk_at "go"
      refine t_eq d6 ((dr.to (x2.hh.trans xx.hh)).to s6) (sh_winO _).shaped (sh_winO _).shaped ?_
      exact hy (.bool (eqW x y now rr.2)) _ _ _ (by rw [hr]; rfl) ⟨Same.refl _, xx.vh.trans s6, s6, fun _ h => Or.inl h⟩ (.bl _)
    · rintro U3 H5 ws xx hw dl dv
      rw [hyl, fm_map] at dl
      have hys : ws = ((latR R (t - g)).reverse.map fun r => eqW x y now r.2).map V.bl := dp_boolsV (K := K) (H := U3) (by rw [List.map_map]; exact dl)
      subst hys
      walk_at "go"
      refine ⟨_, _, rfl, SqL.of (xx.vh _ _ hw), ?_⟩
      have : (((latR R (t - g)).reverse.map fun r => eqW x y now r.2).all id) = ((latR R (t - g)).map (·.2)).all (eqW x y now) := by
        rw [List.map_reverse, all_rev, List.all_map, List.all_map]; rfl
      rw [this]
      exact q _ ((s1.trans x2.hh).trans xx.hh)
def sp_Painted_was_seen (C : Addr) (K : PySem.W.Frag) : Sp := fun vs H Q _ => ∃ (o pr : Addr) (R : List Row) (v : V) (now : Scn) (t g x y : Int) (U : Hp), vs = [.ref o, v, .int t, .int g, .int x, .int y] ∧ PtAt C K U H o pr R ∧ Same U H ∧ Timed R ∧ OkR R ∧ Dp K U v (scD now) ∧ OkS now ∧
  ∀ H', Same H H' → Q (.bl ((topC now x y).isSome && ((latR R (t - g)).map (·.2)).all (eqF x y now))) H'
theorem sc_Painted_was_seen : FnScope ["self", "covers", "time", "guard", "x", "y", "framed", "scene"] ["self", "covers", "time", "guard", "x", "y"] (defScope s_Painted_was_seen) := ⟨rfl, rfl, rfl, by decide +kernel, rfl, by decide +kernel, by decide +kernel⟩
theorem ok_Painted_was_seen (T : Txt K mg A) : FnOk P w K mg base CX0 5 A.fPainted_was_seen A.dPainted_was_seen ["self", "covers", "time", "guard", "x", "y"] (sp_Painted_was_seen A.CPainted K) := by
  refine T.FPainted_was_seen.ok sc_Painted_was_seen (fun vs H Q E h => ?_) (fun cdv Ar outer s H vs Q E hr h => ?_)
  · obtain ⟨_, _, _, _, _, _, _, _, _, _, rfl, _⟩ := h
    rfl
  · obtain ⟨o, pr, R, v, now, t, g, x, y, U, rfl, hP, sU, ht, ok, dn, okn, q⟩ := h
    obtain ⟨dx, e1⟩ := hP.ob
    refine ⟨_, (pss_cons (ps_set (i := 6) sc_Painted_was_seen.nd rfl (Or.inr rfl) (pe_call (ok__framed_at T) (hr.mono (by decide)) rfl T.g_framed_at T.k_framed_at T.b_framed_at .nil pass0 (pa_cons (pv 1) (pa_cons (pv 4) (pa_cons (pv 5) pa_nil)))))
      (pss_cons (ps_if (pt_cmpR op_isN (pv 6) pe_non (nomark _))
      (pss_one (ps_ret pe_bl))
      pss_nil)
      (pss_one (ps_ret (pe_callB (cr_all rfl) (by rfl) T.all (by decide +kernel) (pa_cons (pe_lc (own := [("scene", 7)]) (g := (gName 7)) (tt := tYes) rfl sc_Painted_was_seen.nd (pi_list (pe_meth (pv 0) T.clPainted T.mPainted_scenes (ok_Painted_scenes T) (hr.mono (by decide)) T.bPainted_scenes .nil pass0 (pa_cons (pv 2) (pa_cons (pv 3) pa_nil)))) (blkOk_by (own := [("scene", 7)]) (N := ["self", "covers", "time", "guard", "x", "y", "framed", "scene"]) (sc := defScope s_Painted_was_seen) (by decide +kernel)) (fun _ _ _ _ _ => (pg_name (i := 7) sc_Painted_was_seen.nd rfl (Or.inl rfl))) (fun _ _ _ _ _ => pts_nil) (fun _ _ _ _ _ => by exact (pe_cmpR (r := rEqD K) (op_eqD hr.units) (pe_call (ok__framed_at T) (hr.mono (by decide)) rfl T.g_framed_at T.k_framed_at T.b_framed_at .nil pass0 (pa_cons (pv 7) (pa_cons (pv 4) (pa_cons (pv 5) pa_nil)))) (pv 6) (nomark _)))) pa_nil)))))), ?_⟩
    walk_at "go"
    refine ⟨v, now, x, y, rfl, dn.to sU, okn, fun r H1 s1 dr => ?_⟩
    have e11 := s1 _ _ e1
    walk_at "go"
    cases hc : topC now x y with
    | none =>
      rw [hc] at dr q
      cases dr
      walk_at "go"
      exact q _ s1
    | some cc =>
    obtain ⟨ad, hrd⟩ : ∃ ad, r = .ref ad := by
      rw [hc] at dr
      obtain ⟨ad, _, e, _⟩ := dp_tuple dr
      exact ⟨ad, e⟩
    subst hrd
    refine if_f rfl ?_
    rw [hc, show ((some cc).isSome && ((latR R (t - g)).map (·.2)).all (eqF x y now)) = ((latR R (t - g)).map (·.2)).all (eqF x y now) from Bool.true_and _] at q
    walk_at "go"
    refine ⟨o, dx, _, rfl, e11, pF_no _ (by decide +kernel), ?_⟩
    walk_at "go"
    refine ⟨o, pr, R, t, g, U, rfl, hP.same s1 (Same.refl _), sU.trans s1, ht, ok, fun v2 U2 H2 x2 d2 => ?_⟩
    obtain ⟨p4, ys4, rfl, q4, d4⟩ := dp_list d2
    have hyl : ys4.length = (latR R (t - g)).reverse.length := by rw [dpall_len d4, List.length_map]
    have hl := latR_len R (t - g)
    have ok1 := ok.1
    have hrl : (latR R (t - g)).reverse.length = (latR R (t - g)).length := List.length_reverse
    refine ⟨p4, rfl, ⟨_, x2.vh.seq q4⟩, fun D hD => ?_⟩
    refine lc_dp (walk_list (K := K) (a := p4) (xs := ys4)) (K := K) (V0 := U2) (H0 := H2) (fun i => ((latR R (t - g)).reverse[i]?).map fun r => PyData.bool (eqF x y now r.2)) _ rfl x2.vh hD (by omega) (fun H' s => s.seq (x2.vh.seq q4)) (fun i x H H' y => y.1) ?_ ?_
    · rintro n z U3 H5 hn' xx ⟨_, hz⟩ Qy Qn hy hno
      obtain ⟨d, hd, dv⟩ := dpall_get d4 hz
      rw [List.getElem?_map] at hd
      obtain ⟨rr, hr, rfl⟩ := Option.map_eq_some_iff.mp hd
      have okr := ok.2 rr (latR_mem rr (List.mem_reverse.mp (List.mem_of_getElem? hr)))
      refine ⟨rfl, ?_⟩
      walk_at "go"
      refine ⟨z, rr.2, x, y, rfl, dv.to (xx.vv.trans xx.vh), okr, fun r3 H6 s6 d6 => ?_⟩
      walk_at "go"
      refine t_eq d6 ((dr.to (x2.hh.trans xx.hh)).to s6) (sh_frmO _).shaped (sh_frmO _).shaped ?_
      exact hy (.bool (eqF x y now rr.2)) _ _ _ (by rw [hr]; rfl) ⟨Same.refl _, xx.vh.trans s6, s6, fun _ h => Or.inl h⟩ (.bl _)
    · rintro U3 H5 ws xx hw dl dv
      rw [hyl, fm_map] at dl
      have hys : ws = ((latR R (t - g)).reverse.map fun r => eqF x y now r.2).map V.bl := dp_boolsV (K := K) (H := U3) (by rw [List.map_map]; exact dl)
      subst hys
      walk_at "go"
      refine ⟨_, _, rfl, SqL.of (xx.vh _ _ hw), ?_⟩
      have : (((latR R (t - g)).reverse.map fun r => eqF x y now r.2).all id) = ((latR R (t - g)).map (·.2)).all (eqF x y now) := by
        rw [List.map_reverse, all_rev, List.all_map, List.all_map]; rfl
      rw [this]
      exact q _ ((s1.trans x2.hh).trans xx.hh)
/-! ### the law's own -/
def lawCv (row : Int) (k : Nat) : Cv :=
  let more := row / ((k : Int) + 3)
  let f : Rc := ⟨more % 3 * 4, more / 3 % 3 * 4, 6, 6⟩
  ⟨some (more / 81 % 2), 1 + more / 162 % 2, f, if more / 9 % 3 = 0 then [f, ⟨more / 27 % 3 * 5, 0, 3, 9⟩] else [f]⟩
def lawScn (row : Int) : Scn := (List.range (row % 5).toNat).map (lawCv row)
theorem lawScn_ok (row : Int) : OkS (lawScn row) := by
  refine ⟨by unfold lawScn; rw [List.length_map, List.length_range]; omega, fun c hc => ?_⟩
  obtain ⟨k, _, rfl⟩ := List.mem_map.mp hc
  unfold lawCv
  dsimp only
  split
  · show 2 < 1000; decide
  · show 1 < 1000; decide
def sp__law_covers (K : PySem.W.Frag) : Sp := fun vs H Q _ => ∃ (row : Int) (U : Hp), vs = [.int row] ∧ Same U H ∧ ∀ v U' H', Ext U H U' H' → Dp K U' v (scD (lawScn row)) → Q v H'
theorem sc__law_covers : FnScope ["row", "covers", "k", "more", "frame", "rectangles"] ["row"] (defScope s__law_covers) := ⟨rfl, rfl, rfl, by decide +kernel, rfl, by decide +kernel, by decide +kernel⟩
theorem ok__law_covers (T : Txt K mg A) : FnOk P w K mg base CX0 1 A.f_law_covers A.d_law_covers ["row"] (sp__law_covers K) := by
  refine T.F_law_covers.ok sc__law_covers (fun vs H Q E h => ?_) (fun cdv Ar outer s H vs Q E hr h => ?_)
  · obtain ⟨_, _, rfl, _⟩ := h
    rfl
  · obtain ⟨row, U0, rfl, sU0, q⟩ := h
    refine ⟨_, (pss_cons (ps_set (i := 1) sc__law_covers.nd rfl (Or.inl rfl) (pe_lst pa_nil))
      (pss_cons (ps_for PassesOwn.never rfl (pi_range1 (by rfl) T.range (pa_cons (pe_op op_mod (pe_callTy call_int1 (by rfl) T.int (by decide +kernel) (pa_cons (pv 0) pa_nil)) pe_int) pa_nil)) (pg_name (i := 2) sc__law_covers.nd rfl (Or.inl rfl))
      (pss_cons (ps_set (i := 3) sc__law_covers.nd rfl (Or.inl rfl) (pe_callTy call_int1 (by rfl) T.int (by decide +kernel) (pa_cons (pe_op op_fdiv (pv 0) (pe_op op_add (pv 2) pe_int)) pa_nil)))
      (pss_cons (ps_set (i := 4) sc__law_covers.nd rfl (Or.inl rfl) (pe_tup (pa_cons (pe_op op_mul (pe_op op_mod (pv 3) pe_int) pe_int) (pa_cons (pe_op op_mul (pe_op op_mod (pe_op op_fdiv (pv 3) pe_int) pe_int) pe_int) (pa_cons pe_int (pa_cons pe_int pa_nil))))))
      (pss_cons (ps_set (i := 5) sc__law_covers.nd rfl (Or.inl rfl) (pe_lst (pa_cons (pv 4) pa_nil)))
      (C8.pss_cut (ps_if (pt_cmpR op_eq (pe_op op_mod (pe_op op_fdiv (pv 3) pe_int) pe_int) pe_int (nomark _))
      (pss_one (ps_expr (pe_bm PySem.F.plainAttrs_list PySem.F.slot_list_append PySem.F.type_list_append mt_append (pv 5) (pa_cons (pe_tup (pa_cons (pe_op op_mul (pe_op op_mod (pe_op op_fdiv (pv 3) pe_int) pe_int) pe_int) (pa_cons pe_int (pa_cons pe_int (pa_cons pe_int pa_nil))))) pa_nil))))
      pss_nil)
      (pss_one (ps_expr (pe_bm PySem.F.plainAttrs_list PySem.F.slot_list_append PySem.F.type_list_append mt_append (pv 1) (pa_cons (pe_tup (pa_cons (pe_op op_mod (pe_op op_fdiv (pv 3) pe_int) pe_int) (pa_cons (pe_op op_add pe_int (pe_op op_mod (pe_op op_fdiv (pv 3) pe_int) pe_int)) (pa_cons (pv 4) (pa_cons (pv 5) pa_nil))))) pa_nil)))))))))
      (pss_one (ps_ret (pv 1))))), ?_⟩
    walk_at "go"
    rename_i D hD
    refine ⟨by omega, by omega, ?_⟩
    refine for_range (lo := 0) (fun i σ H' => ∃ v2 v3 v4 v5 : Option V, σ = [some (.int row), some (.ref D), v2, v3, v4, v5] ∧ LcInv K U0 H D ((List.range i).map fun k => cvD (lawCv row k)) H') ?_ ?_ ?_
    · exact ⟨_, _, _, _, rfl, LcInv.start sU0 hD⟩
    · rintro i σ H' hi ⟨v2, v3, v4, v5, rfl, inv⟩
      rw [Int.zero_add]
      have hc : (0 : Int) ≤ (i : Int) ∧ (i : Int) < 5 := by omega
      obtain ⟨U, xs, x, hv, hd, dp⟩ := inv.ex
      have hf : (lawCv row i).f = ⟨row / ((i : Int) + 3) % 3 * 4, row / ((i : Int) + 3) / 3 % 3 * 4, 6, 6⟩ := rfl
      have hrs : (lawCv row i).rs = if row / ((i : Int) + 3) / 9 % 3 = 0 then [(lawCv row i).f, ⟨row / ((i : Int) + 3) / 27 % 3 * 5, 0, 3, 9⟩] else [(lawCv row i).f] := rfl
      have hs : cvD (lawCv row i) = .tuple [.int (row / ((i : Int) + 3) / 81 % 2), .int (1 + row / ((i : Int) + 3) / 162 % 2), rD (lawCv row i).f, .list ((lawCv row i).rs.map rD)] := rfl
      walk_at "gx"
      rename_i pf hpf pl hpl
      refine ⟨fun σ' H2 => ∃ (U2 : Hp), σ' = [some (.int row), some (.ref D), some (.int (i : Int)), some (.int (row / ((i : Int) + 3))), some (.ref pf), some (.ref pl)] ∧ Ext U H' U2 H2 ∧ SqT K U2 pf (rv (lawCv row i).f) ∧ Dp K U2 (.ref pl) (.list ((lawCv row i).rs.map rD)), ?_, ?_⟩
      · have x1 := Ext.new (o := .tup (rv (lawCv row i).f)) x.vh hpf
        have x2 : Ext U H' _ (upd (upd H' pf (.tup (rv (lawCv row i).f))) pl (.lst [.ref pf])) := x1.trans (Ext.skip x1.vh hpl)
        have npl : (upd U pf (.tup (rv (lawCv row i).f))) pl = none := none_of_same x1.vh hpl
        have hpl0 : H' pl = none := x1.hh.free hpl
        have ef : SqT K (upd U pf (.tup (rv (lawCv row i).f))) pf (rv (lawCv row i).f) := SqT.of upd_same
        have el : (upd (upd H' pf (.tup (rv (lawCv row i).f))) pl (.lst [.ref pf])) pl = some (.lst [.ref pf]) := upd_same
        walk_at "go"
        refine iteEq (fun h => ?_) (fun h => ?_)
        · walk_at "go"
          refine ⟨.inl ⟨rfl, _, SqL.of upd_same⟩, ?_⟩
          walk_at "gx"
          rename_i pt hpt
          have x3 := x2.trans (Ext.new (o := .tup (rv ⟨row / ((i : Int) + 3) / 27 % 3 * 5, 0, 3, 9⟩)) x2.vh hpt)
          have el3 := same_upd (o := .tup (rv ⟨row / ((i : Int) + 3) / 27 % 3 * 5, 0, 3, 9⟩)) hpt _ _ el
          have s3 := same_upd (o := .tup (rv ⟨row / ((i : Int) + 3) / 27 % 3 * 5, 0, 3, 9⟩)) (none_of_same x2.vh hpt)
          have npl3 : (upd (upd U pf (.tup (rv (lawCv row i).f))) pt (.tup (rv ⟨row / ((i : Int) + 3) / 27 % 3 * 5, 0, 3, 9⟩))) pl = none := by
            rw [upd_ne (fun z => by rw [← z, upd_same] at hpt; cases hpt)]; exact npl
          refine ⟨pl, _, _, rfl, rfl, el3, lt_line (by show 1 < 100000; decide), ?_⟩
          have x4 := (x3.poke (o := .lst ([.ref pf] ++ [.ref pt])) hpl0 npl3).take hpl0 npl3 upd_same
          refine ⟨_, rfl, x4, (same_upd npl3).sqt (s3.sqt ef), ?_⟩
          rw [hrs, if_pos h]
          exact .lst (SqL.of upd_same) (.cons (rD_dp ((same_upd npl3).sqt (s3.sqt ef))) (.cons (rD_dp ((same_upd npl3).sqt (SqT.of upd_same))) .nil))
        · refine ⟨_, rfl, x2.take hpl0 npl el, (same_upd npl).sqt ef, ?_⟩
          rw [hrs, if_neg h]
          exact .lst (SqL.of upd_same) (.cons (rD_dp ((same_upd npl).sqt ef)) .nil)
      rintro σ' H2 ⟨U2, rfl, x2, ef, el⟩
      have hd2 := x2.hh _ _ hd
      walk_at "go"
      refine ⟨.inl ⟨rfl, _, SqL.of hd2⟩, ?_⟩
      walk_at "go"
      rename_i pt hpt
      have x3 := x2.trans (Ext.new (o := .tup [.int (row / ((i : Int) + 3) / 81 % 2), .int (1 + row / ((i : Int) + 3) / 162 % 2), .ref pf, .ref pl]) x2.vh hpt)
      have s3 := same_upd (o := .tup [.int (row / ((i : Int) + 3) / 81 % 2), .int (1 + row / ((i : Int) + 3) / 162 % 2), .ref pf, .ref pl]) (none_of_same x2.vh hpt)
      obtain ⟨acc', j1, j2, j3⟩ := LcInv.push (K := K) (d := cvD (lawCv row i)) (y := .ref pt) hD x hv hd dp x3 (by rw [hs]; exact .tup (SqT.of upd_same) (.cons (.int _) (.cons (.int _) (.cons (rD_dp (s3.sqt ef)) (.cons (el.to s3) .nil))))) (by rw [List.length_map, List.length_range]; omega)
      refine ⟨D, _, _, rfl, rfl, j1, j2, ?_⟩
      rw [List.range_succ, List.map_append]
      exact ⟨_, _, _, _, rfl, j3⟩
    · rintro σ H' ⟨v2, v3, v4, v5, rfl, inv⟩
      walk_at "go"
      obtain ⟨U, xs, x, e1, e2, e3⟩ := inv.done hD
      refine q _ U H' x ?_
      unfold scD lawScn
      rw [List.map_map]
      exact e3
theorem topC_snoc (s : Scn) (c : Cv) (x y : Int) : topC (s ++ [c]) x y = if hasC x y c = true then some c else topC s x y := by
  unfold topC
  rw [List.reverse_append]
  show List.find? _ (c :: s.reverse) = _
  rw [List.find?_cons]
  cases hasC x y c <;> rfl
theorem topC_take {s : Scn} {i : Nat} {c : Cv} (h : s[i]? = some c) (x y : Int) : topC (s.take (i + 1)) x y = if hasC x y c = true then some c else topC (s.take i) x y := by
  obtain ⟨hi, e⟩ := List.getElem?_eq_some_iff.mp h
  rw [List.take_succ_eq_append_getElem hi, e, topC_snoc]
def sp__law_top (K : PySem.W.Frag) : Sp := fun vs H Q _ => ∃ (v : V) (s : Scn) (x y : Int), vs = [v, .int x, .int y] ∧ Dp K H v (scD s) ∧ ∀ r, Dp K H r (optD (topC s x y)) → Q r H
theorem sc__law_top : FnScope ["covers", "x", "y", "found", "row", "left", "top", "wide", "high"] ["covers", "x", "y"] (defScope s__law_top) := ⟨rfl, rfl, rfl, by decide +kernel, rfl, by decide +kernel, by decide +kernel⟩
theorem ok__law_top (T : Txt K mg A) : FnOk P w K mg base CX0 1 A.f_law_top A.d_law_top ["covers", "x", "y"] (sp__law_top K) := by
  refine T.F_law_top.ok sc__law_top (fun vs H Q E h => ?_) (fun cdv Ar outer s H vs Q E hr h => ?_)
  · obtain ⟨_, _, _, _, rfl, _⟩ := h
    rfl
  · obtain ⟨v, sc, x, y, rfl, hd, q⟩ := h
    obtain ⟨p, xs, rfl, hS, hx⟩ := dp_list hd
    have hxl : xs.length = sc.length := by rw [dpall_len hx, List.length_map]
    refine ⟨_, (pss_cons (ps_set (i := 3) sc__law_top.nd rfl (Or.inl rfl) pe_non)
      (pss_cons (ps_for PassesOwn.never rfl (pi_list (pv 0)) (pg_name (i := 4) sc__law_top.nd rfl (Or.inl rfl))
      (pss_one (ps_for PassesOwn.never rfl (pi_list (pe_ix (r := rIxT K) ix_tup (pv 4) pe_int (fun _ _ => rfl))) (pg_tup rfl (pgs_cons (pg_name (i := 5) sc__law_top.nd rfl (Or.inl rfl)) (pgs_cons (pg_name (i := 6) sc__law_top.nd rfl (Or.inl rfl)) (pgs_cons (pg_name (i := 7) sc__law_top.nd rfl (Or.inl rfl)) (pgs_cons (pg_name (i := 8) sc__law_top.nd rfl (Or.inl rfl)) pgs_nil)))))
      (pss_one (ps_if (PW.pt (pw_and (pt_chain op_le op_lt (pv 5) (pv 1) (pe_op op_add (pv 5) (pv 7))) (pw_and1 (pt_chain op_le op_lt (pv 6) (pv 2) (pe_op op_add (pv 6) (pv 8))))))
      (pss_one (ps_set (i := 3) sc__law_top.nd rfl (Or.inl rfl) (pv 4)))
      pss_nil)))))
      (pss_one (ps_ret (pv 3))))), ?_⟩
    walk_at "go"
    refine ⟨⟨_, hS⟩, for_list (K := K) (a := p) (xs := xs) (fun i σ H' => ∃ (fv : V) (v4 v5 v6 v7 v8 : Option V), σ = [some (.ref p), some (.int x), some (.int y), some fv, v4, v5, v6, v7, v8] ∧ H' = H ∧ Dp K H fv (optD (topC (sc.take i) x y))) ⟨.non, _, _, _, _, _, rfl, rfl, .non⟩ (fun i σ H' _ ⟨_, _, _, _, _, _, _, e, _⟩ => by rw [e]; exact hS) ?_ ?_⟩
    · rintro i z σ H' hz ⟨fv, v4, v5, v6, v7, v8, rfl, rfl, df⟩
      obtain ⟨d, hd2, dv⟩ := dpall_get hx hz
      rw [List.getElem?_map] at hd2
      obtain ⟨c, hc, rfl⟩ := Option.map_eq_some_iff.mp hd2
      obtain ⟨a, pf, vr, rfl, qa, qf, qr⟩ := dp_cvD dv
      obtain ⟨pl, ws, rfl, hW, hwl, hwat⟩ := dp_rDs qr
      walk_at "go"
      refine ⟨⟨_, hW⟩, for_list (K := K) (a := pl) (xs := ws) (fun j σ H2 => ∃ (v5 v6 v7 v8 : Option V), σ = [some (.ref p), some (.int x), some (.int y), some (if (c.rs.take j).any (fun r => inR r x y) = true then .ref a else fv), some (.ref a), v5, v6, v7, v8] ∧ H2 = H') ⟨_, _, _, _, rfl, rfl⟩ (fun i σ H' _ ⟨_, _, _, _, _, e⟩ => by rw [e]; exact hW) ?_ ?_⟩
      · rintro j z2 σ H2 hz2 ⟨v5, v6, v7, v8, rfl, rfl⟩
        obtain ⟨ar, r, rfl, hr, qr2⟩ := hwat j z2 hz2
        obtain ⟨hj, ej⟩ := List.getElem?_eq_some_iff.mp hr
        have et : (c.rs.take (j + 1)).any (fun r => inR r x y) = ((c.rs.take j).any (fun r => inR r x y) || inR r x y) := by
          rw [List.take_succ_eq_append_getElem hj, ej, List.any_append]; simp
        have stay : inR r x y = false → (if (c.rs.take (j + 1)).any (fun r => inR r x y) = true then V.ref a else fv) = (if (c.rs.take j).any (fun r => inR r x y) = true then V.ref a else fv) := fun h => by rw [et, h, Bool.or_false]
        have yes : inR r x y = true → (if (c.rs.take (j + 1)).any (fun r => inR r x y) = true then V.ref a else fv) = V.ref a := fun h => by rw [et, h, Bool.or_true, if_pos rfl]
        walk_at "go"
        have inT : ((r.x ≤ x ∧ x < r.x + r.w) ∧ r.y ≤ y ∧ y < r.y + r.h) → inR r x y = true := fun h => decide_eq_true h
        have inF : ¬ ((r.x ≤ x ∧ x < r.x + r.w) ∧ r.y ≤ y ∧ y < r.y + r.h) → inR r x y = false := fun h => decide_eq_false h
        refine iteP (fun h1 => ?_) (fun h1 => ?_)
        · walk_at "go"
          refine iteP (fun h2 => ?_) (fun h2 => ?_)
          · walk_at "go"
            refine iteP (fun h3 => ?_) (fun h3 => ?_)
            · walk_at "go"
              refine iteP (fun h4 => ?_) (fun h4 => ?_)
              · walk_at "go"
                exact ⟨_, _, _, _, by rw [yes (inT ⟨⟨h1, h2⟩, h3, h4⟩)]; rfl, rfl⟩
              · walk_at "go"
                exact ⟨_, _, _, _, by rw [stay (inF fun z => h4 z.2.2)]; rfl, rfl⟩
            · walk_at "go"
              exact ⟨_, _, _, _, by rw [stay (inF fun z => h3 z.2.1)]; rfl, rfl⟩
          · walk_at "go"
            exact ⟨_, _, _, _, by rw [stay (inF fun z => h2 z.1.2)]; rfl, rfl⟩
        · walk_at "go"
          exact ⟨_, _, _, _, by rw [stay (inF fun z => h1 z.1.1)]; rfl, rfl⟩
      · rintro σ H2 ⟨v5, v6, v7, v8, rfl, rfl⟩
        rw [hwl, List.take_length]
        refine ⟨_, _, _, _, _, _, rfl, rfl, ?_⟩
        rw [topC_take hc]
        show Dp K _ (if hasC x y c = true then _ else _) _
        by_cases h : hasC x y c = true
        · rw [if_pos h, if_pos h]; exact dv
        · rw [if_neg h, if_neg h]; exact df
    · rintro σ H' ⟨fv, v4, v5, v6, v7, v8, rfl, rfl, df⟩
      walk_at "go"
      rw [hxl, List.take_length] at df
      exact q _ df
def ownO (seen : Bool) (c : Option Cv) : PyData := if seen = true then frmO c else winO c
theorem sh_ownO (seen : Bool) (c : Option Cv) : Sh 2 (ownO seen c) := by
  cases seen with
  | true => exact sh_frmO c
  | false => exact (sh_winO c).mono (by decide)
def sp__law_owner (K : PySem.W.Frag) : Sp := fun vs H Q _ => ∃ (v : V) (s : Scn) (x y : Int) (seen : Bool), vs = [v, .int x, .int y, .bl seen] ∧ Dp K H v (scD s) ∧ ∀ r H', Same H H' → Dp K H' r (ownO seen (topC s x y)) → (r = .non ↔ topC s x y = none) → Q r H'
theorem sc__law_owner : FnScope ["covers", "x", "y", "seen", "row"] ["covers", "x", "y", "seen"] (defScope s__law_owner) := ⟨rfl, rfl, rfl, by decide +kernel, rfl, by decide +kernel, by decide +kernel⟩
theorem ok__law_owner (T : Txt K mg A) : FnOk P w K mg base CX0 2 A.f_law_owner A.d_law_owner ["covers", "x", "y", "seen"] (sp__law_owner K) := by
  refine T.F_law_owner.ok sc__law_owner (fun vs H Q E h => ?_) (fun cdv Ar outer s H vs Q E hr h => ?_)
  · obtain ⟨_, _, _, _, _, rfl, _⟩ := h
    rfl
  · obtain ⟨v, sc, x, y, seen, rfl, hd, q⟩ := h
    refine ⟨_, (pss_cons (ps_set (i := 4) sc__law_owner.nd rfl (Or.inl rfl) (pe_call (ok__law_top T) (hr.mono (by decide)) rfl T.g_law_top T.k_law_top T.b_law_top .nil pass0 (pa_cons (pv 0) (pa_cons (pv 1) (pa_cons (pv 2) pa_nil)))))
      (pss_cons (ps_if (pt_cmpR op_isN (pv 4) pe_non (nomark _))
      (pss_one (ps_ret pe_non))
      pss_nil)
      (pss_cons (ps_if (pt_val (pv 3))
      (pss_one (ps_ret (pe_tup (pa_cons (pe_ix (r := rIxT K) ix_tup (pv 4) pe_int (fun _ _ => rfl)) (pa_cons (pe_ix (r := rIxT K) ix_tup (pv 4) pe_int (fun _ _ => rfl)) (pa_cons (pe_ix (r := rIxT K) ix_tup (pv 4) pe_int (fun _ _ => rfl)) pa_nil))))))
      pss_nil)
      (pss_one (ps_ret (pe_tup (pa_cons (pe_ix (r := rIxT K) ix_tup (pv 4) pe_int (fun _ _ => rfl)) (pa_cons (pe_ix (r := rIxT K) ix_tup (pv 4) pe_int (fun _ _ => rfl)) pa_nil)))))))), ?_⟩
    walk_at "go"
    refine ⟨v, sc, x, y, rfl, hd, fun r dr => ?_⟩
    cases e : topC sc x y with
    | none =>
      rw [e] at dr q
      cases dr
      walk_at "go"
      refine q _ _ (Same.refl _) ?_ ⟨fun _ => rfl, fun _ => rfl⟩
      cases seen <;> exact .non
    | some c =>
      rw [e] at dr q
      obtain ⟨a, pf, vr, rfl, qa, qf, qr⟩ := dp_cvD dr
      walk_at "go"
      cases seen with
      | true =>
        walk_at "go"
        rename_i p hp
        exact q _ _ (same_upd hp) (.tup (SqT.of upd_same) (.cons (sD_dp _) (.cons (.int _) (.cons ((rD_dp qf).to (same_upd hp)) .nil)))) ⟨fun h => (by cases h), fun h => (by cases h)⟩
      | false =>
        walk_at "go"
        rename_i p hp
        exact q _ _ (same_upd hp) (.tup (SqT.of upd_same) (.cons (sD_dp _) (.cons (.int _) .nil))) ⟨fun h => (by cases h), fun h => (by cases h)⟩
def hD (h : Int × Scn) : PyData := rowD (toR h)
def sp__law_disowned (K : PySem.W.Frag) : Sp := fun vs H Q _ => ∃ (ph : Addr) (xs : List V) (hs : Hist) (sl : Int) (U : Hp), vs = [.ref ph, .int sl] ∧ H ph = some (.lst xs) ∧ DpAll K U xs (hs.map hD) ∧ Same U H ∧ hs.length < 1000 ∧ (∀ h ∈ hs, OkS h.2) ∧
  ∀ p ys U' H', Ext U H U' H' → H p = none → U' p = none → H' p = some (.lst ys) → DpAll K U' ys ((hs.map fun h => (h.1, disS sl h.2)).map hD) → Q (.ref p) H'
theorem sc__law_disowned : FnScope ["history", "slot", "new", "time", "covers", "rows", "row"] ["history", "slot"] (defScope s__law_disowned) := ⟨rfl, rfl, rfl, by decide +kernel, rfl, by decide +kernel, by decide +kernel⟩
theorem ok__law_disowned (T : Txt K mg A) : FnOk P w K mg base CX0 1 A.f_law_disowned A.d_law_disowned ["history", "slot"] (sp__law_disowned K) := by
  refine T.F_law_disowned.ok sc__law_disowned (fun vs H Q E h => ?_) (fun cdv Ar outer s H vs Q E hr h => ?_)
  · obtain ⟨_, _, _, _, _, rfl, _⟩ := h
    rfl
  · obtain ⟨ph, xs, hs, sl, U, rfl, hP, hd, sU, hl, hok, q⟩ := h
    have hxl : xs.length = hs.length := by rw [dpall_len hd, List.length_map]
    refine ⟨_, (pss_cons (ps_set (i := 2) sc__law_disowned.nd rfl (Or.inl rfl) (pe_lst pa_nil))
      (pss_cons (ps_for PassesOwn.never rfl (pi_list (pv 0)) (pg_tup rfl (pgs_cons (pg_name (i := 3) sc__law_disowned.nd rfl (Or.inl rfl)) (pgs_cons (pg_name (i := 4) sc__law_disowned.nd rfl (Or.inl rfl)) pgs_nil)))
      (pss_cons (ps_set (i := 5) sc__law_disowned.nd rfl (Or.inl rfl) (pe_lst pa_nil))
      (pss_cons (ps_for PassesOwn.never rfl (pi_list (pv 4)) (pg_name (i := 6) sc__law_disowned.nd rfl (Or.inl rfl))
      (pss_one (ps_if (pt_cmpR (op_eqD hr.units) (pe_ix (r := rIxT K) ix_tup (pv 6) pe_int (fun _ _ => rfl)) (pv 1) (nomark _))
      (pss_one (ps_expr (pe_bm PySem.F.plainAttrs_list PySem.F.slot_list_append PySem.F.type_list_append mt_append (pv 5) (pa_cons (pe_tup (pa_cons pe_non (pa_cons (pe_ix (r := rIxT K) ix_tup (pv 6) pe_int (fun _ _ => rfl)) (pa_cons (pe_ix (r := rIxT K) ix_tup (pv 6) pe_int (fun _ _ => rfl)) (pa_cons (pe_ix (r := rIxT K) ix_tup (pv 6) pe_int (fun _ _ => rfl)) pa_nil))))) pa_nil))))
      (pss_one (ps_expr (pe_bm PySem.F.plainAttrs_list PySem.F.slot_list_append PySem.F.type_list_append mt_append (pv 5) (pa_cons (pv 6) pa_nil)))))))
      (pss_one (ps_expr (pe_bm PySem.F.plainAttrs_list PySem.F.slot_list_append PySem.F.type_list_append mt_append (pv 2) (pa_cons (pe_tup (pa_cons (pv 3) (pa_cons (pv 5) pa_nil))) pa_nil)))))))
      (pss_one (ps_ret (pv 2))))), ?_⟩
    walk_at "go"
    rename_i D hD0
    have sD0 := same_upd (o := .lst []) hD0
    refine ⟨⟨_, SqL.of (sD0 _ _ hP)⟩, for_list (K := K) (a := ph) (xs := xs) (fun i σ H' => ∃ (v3 v4 v5 v6 : Option V), σ = [some (.ref ph), some (.int sl), some (.ref D), v3, v4, v5, v6] ∧ LcInv K U H D ((hs.take i).map fun h => hD (h.1, disS sl h.2)) H') ⟨_, _, _, _, rfl, LcInv.start sU hD0⟩ (fun i σ H' _ ⟨_, _, _, _, _, inv⟩ => by obtain ⟨_, _, x, _⟩ := inv.ex; exact SqL.of (x.hh _ _ hP)) ?_ ?_⟩
    · rintro i z σ H' hz ⟨v3, v4, v5, v6, rfl, inv⟩
      obtain ⟨V1, acc, x, hv, hda, dp⟩ := inv.ex
      obtain ⟨d, hd2, dv⟩ := dpall_get hd hz
      rw [List.getElem?_map] at hd2
      obtain ⟨h, hh, rfl⟩ := Option.map_eq_some_iff.mp hd2
      obtain ⟨ah, vh, rfl, qh, dh⟩ := dp_rowD (dv.to x.vv)
      obtain ⟨ps, zs, rfl, qs, ds⟩ := dp_list dh
      have okh := (hok h (List.mem_of_getElem? hh)).1
      have hzl : zs.length = h.2.length := by rw [dpall_len ds, List.length_map]; rfl
      have qh' := x.vh.sqt qh
      walk_at "go"
      rename_i rr hrr
      have srr := same_upd (o := .lst []) hrr
      have qs' := x.vh.seq qs
      refine ⟨⟨_, srr.seq qs'⟩, for_list (K := K) (a := ps) (xs := zs) (fun j σ H2 => ∃ (v6 : Option V), σ = [some (.ref ph), some (.int sl), some (.ref D), some (.int h.1), some (.ref ps), some (.ref rr), v6] ∧ LcInv K V1 H' rr ((h.2.take j).map fun c => cvD (disC sl c)) H2) ⟨_, rfl, LcInv.start x.vh hrr⟩ (fun i σ H' _ ⟨_, _, inv⟩ => by obtain ⟨_, _, x2, _⟩ := inv.ex; exact x2.hh.seq qs') ?_ ?_⟩
      · rintro j z2 σ H2 hz2 ⟨v6, rfl, inv2⟩
        obtain ⟨V2, acc2, x2, hv2, hda2, dp2⟩ := inv2.ex
        obtain ⟨d, hd3, dv3⟩ := dpall_get ds hz2
        rw [List.getElem?_map] at hd3
        obtain ⟨c, hc, rfl⟩ := Option.map_eq_some_iff.mp hd3
        have dv4 := dv3.to x2.vv
        obtain ⟨a, pf, vr, rfl, qa, qf, qr⟩ := dp_cvD dv4
        have qa' := x2.vh.sqt qa
        obtain ⟨hj, ej⟩ := List.getElem?_eq_some_iff.mp (show h.2[j]? = some c from hc)
        have et : (h.2.take (j + 1)).map (fun c => cvD (disC sl c)) = (h.2.take j).map (fun c => cvD (disC sl c)) ++ [cvD (disC sl c)] := by
          rw [List.take_succ_eq_append_getElem hj, List.map_append, ej]; rfl
        have hl2 : ((h.2.take j).map fun c => cvD (disC sl c)).length < 100000 := by rw [List.length_map, List.length_take]; omega
        walk_at "go"
        refine t_eq (sD_dp _) (.int sl) (sh_sD _).shaped (sh_int _).shaped ⟨_, rfl, ?_⟩
        rw [eqv_sD]
        by_cases hsl : c.s = some sl
        · have e : disC sl c = ⟨none, c.w, c.f, c.rs⟩ := if_pos hsl
          rw [decide_eq_true hsl]
          walk_at "go"
          refine ⟨.inl ⟨rfl, _, SqL.of hda2⟩, ?_⟩
          walk_at "go"
          rename_i p hp
          have x3 := Ext.new (o := .tup [.non, .int c.w, .ref pf, vr]) x2.vh hp
          have s3 := same_upd (o := .tup [.non, .int c.w, .ref pf, vr]) (none_of_same x2.vh hp)
          obtain ⟨acc', j1, j2, j3⟩ := LcInv.push (K := K) (d := cvD (disC sl c)) (y := .ref p) hrr x2 hv2 hda2 dp2 x3 (by rw [e]; exact .tup (SqT.of upd_same) (.cons .non (.cons (.int _) (.cons ((rD_dp qf).to s3) (.cons (qr.to s3) .nil))))) hl2
          refine ⟨rr, _, _, rfl, rfl, j1, j2, ?_⟩
          rw [et]
          exact ⟨_, rfl, j3⟩
        · have e : disC sl c = c := if_neg hsl
          rw [decide_eq_false hsl]
          walk_at "go"
          refine ⟨.inl ⟨rfl, _, SqL.of hda2⟩, ?_⟩
          walk_at "go"
          obtain ⟨acc', j1, j2, j3⟩ := LcInv.push (K := K) (d := cvD (disC sl c)) (y := .ref a) hrr x2 hv2 hda2 dp2 (Ext.refl x2.vh) (by rw [e]; exact dv4) hl2
          refine ⟨rr, _, _, rfl, rfl, j1, j2, ?_⟩
          rw [et]
          exact ⟨_, rfl, j3⟩
      · rintro σ H2 ⟨v6, rfl, inv2⟩
        rw [hzl, List.take_length] at inv2
        obtain ⟨U2, ws, x2, e1, e2, e3⟩ := inv2.done hrr
        have hda2 := x2.hh _ _ hda
        walk_at "go"
        refine ⟨.inl ⟨rfl, _, SqL.of hda2⟩, ?_⟩
        walk_at "go"
        rename_i p hp
        have x3 := x2.trans (Ext.new (o := .tup [.int h.1, .ref rr]) x2.vh hp)
        have s3 := same_upd (o := .tup [.int h.1, .ref rr]) (none_of_same x2.vh hp)
        have hl3 : ((hs.take i).map fun h => hD (h.1, disS sl h.2)).length < 100000 := by rw [List.length_map, List.length_take]; omega
        obtain ⟨hi, ei⟩ := List.getElem?_eq_some_iff.mp hh
        have et : (hs.take (i + 1)).map (fun h => hD (h.1, disS sl h.2)) = (hs.take i).map (fun h => hD (h.1, disS sl h.2)) ++ [hD (h.1, disS sl h.2)] := by
          rw [List.take_succ_eq_append_getElem hi, List.map_append, ei]; rfl
        have eh : hD (h.1, disS sl h.2) = .tuple [.int h.1, .list (h.2.map fun c => cvD (disC sl c))] := by
          show PyData.tuple [.int h.1, .list ((h.2.map (disC sl)).map cvD)] = _
          rw [List.map_map]; rfl
        obtain ⟨acc', j1, j2, j3⟩ := LcInv.push (K := K) (d := hD (h.1, disS sl h.2)) (y := .ref p) hD0 x hv hda dp x3 (by rw [eh]; exact .tup (SqT.of upd_same) (.cons (.int _) (.cons (e3.to s3) .nil))) hl3
        refine ⟨D, _, _, rfl, rfl, j1, j2, ?_⟩
        rw [et]
        exact ⟨_, _, _, _, rfl, j3⟩
    · rintro σ H' ⟨v3, v4, v5, v6, rfl, inv⟩
      obtain ⟨V1, acc, x, hv, hda, dp⟩ := inv.ex
      walk_at "go"
      rw [hxl, List.take_length] at dp
      refine q D acc V1 H' x hD0 hv hda ?_
      rw [List.map_map]; exact dp
theorem sh_hD (h : Int × Scn) : Sh 5 (hD h) := sh_tuple fun d hd => by
  simp only [List.mem_cons, List.not_mem_nil, or_false] at hd
  rcases hd with rfl | rfl
  · exact (sh_int _).mono (by decide)
  · exact sh_scD _
theorem sh_hs (hs : Hist) : Sh 6 (.list (hs.map hD)) := sh_list fun d hd => by
  obtain ⟨h, _, rfl⟩ := List.mem_map.mp hd
  exact sh_hD h
theorem eqv_hs (hs : Hist) : PyData.eqv (.list (hs.map hD)) (.list []) = hs.isEmpty := by
  cases hs with
  | nil => rfl
  | cons h t => rfl
theorem dp_snoc {K : PySem.W.Frag} {U : Hp} : ∀ {ys : List V} {A : List PyData} {x : PyData}, DpAll K U ys (A ++ [x]) → ∃ ys0 y, ys = ys0 ++ [y] ∧ DpAll K U ys0 A ∧ Dp K U y x
  | _, [], x, h => by
    cases h with
    | cons q r => cases r; exact ⟨[], _, rfl, .nil, q⟩
  | _, a :: l, x, h => by
    cases h with
    | cons q r =>
      obtain ⟨y0, y, rfl, h1, h2⟩ := dp_snoc r
      exact ⟨_ :: y0, y, rfl, .cons q h1, h2⟩
def sp__law_counting (K : PySem.W.Frag) : Sp := fun vs H Q _ => ∃ (ph : Addr) (xs : List V) (hs : Hist) (t g : Int) (U : Hp), vs = [.ref ph, .int t, .int g] ∧ H ph = some (.lst xs) ∧ DpAll K U xs (hs.map hD) ∧ Same U H ∧ hs.length < 1000 ∧
  ∀ v U' H', Ext U H U' H' → Dp K U' v (.list ((cnt hs (t - g)).map scD)) → Q v H'
theorem sc__law_counting : FnScope ["history", "time", "guard", "counting", "k"] ["history", "time", "guard"] (defScope s__law_counting) := ⟨rfl, rfl, rfl, by decide +kernel, rfl, by decide +kernel, by decide +kernel⟩
theorem ok__law_counting (T : Txt K mg A) : FnOk P w K mg base CX0 1 A.f_law_counting A.d_law_counting ["history", "time", "guard"] (sp__law_counting K) := by
  refine T.F_law_counting.ok sc__law_counting (fun vs H Q E h => ?_) (fun cdv Ar outer s H vs Q E hr h => ?_)
  · obtain ⟨_, _, _, _, _, _, rfl, _⟩ := h
    rfl
  · obtain ⟨ph, xs, hs, t, g, U, rfl, hP, hd, sU, hl, q⟩ := h
    have hxl : xs.length = hs.length := by rw [dpall_len hd, List.length_map]
    have dH : Dp K H (.ref ph) (.list (hs.map hD)) := .lst (SqL.of hP) (hd.to sU)
    refine ⟨_, (pss_cons (ps_if (pt_cmpR (op_eqD hr.units) (pv 0) (pe_lst pa_nil) (nomark _))
      (pss_one (ps_ret (pe_lst (pa_cons (pe_lst pa_nil) pa_nil))))
      pss_nil)
      (pss_cons (ps_set (i := 3) sc__law_counting.nd rfl (Or.inl rfl) (pe_lst (pa_cons (pe_ix (r := rIxT K) ix_tup (pe_ix (r := rIxL K) ix_list (pv 0) (pe_un un_neg pe_int) (fun _ _ => rfl)) pe_int (fun _ _ => rfl)) pa_nil)))
      (pss_cons (ps_for PassesOwn.never rfl (pi_range1 (by rfl) T.range (pa_cons (pe_op op_sub (pe_callB call_len_seq (by rfl) T.len PySem.boot_len (pa_cons (pv 0) pa_nil)) pe_int) pa_nil)) (pg_name (i := 4) sc__law_counting.nd rfl (Or.inl rfl))
      (pss_one (ps_if (pt_cmpR op_gt (pe_ix (r := rIxT K) ix_tup (pe_ix (r := rIxL K) ix_list (pv 0) (pe_op op_add (pv 4) pe_int) (fun _ _ => rfl)) pe_int (fun _ _ => rfl)) (pe_op op_sub (pv 1) (pv 2)) (nomark _))
      (pss_one (ps_expr (pe_bm PySem.F.plainAttrs_list PySem.F.slot_list_append PySem.F.type_list_append mt_append (pv 3) (pa_cons (pe_ix (r := rIxT K) ix_tup (pe_ix (r := rIxL K) ix_list (pv 0) (pv 4) (fun _ _ => rfl)) pe_int (fun _ _ => rfl)) pa_nil))))
      pss_nil)))
      (pss_cons (ps_if (pt_cmpR op_gt (pe_ix (r := rIxT K) ix_tup (pe_ix (r := rIxL K) ix_list (pv 0) pe_int (fun _ _ => rfl)) pe_int (fun _ _ => rfl)) (pe_op op_sub (pv 1) (pv 2)) (nomark _))
      (pss_one (ps_expr (pe_bm PySem.F.plainAttrs_list PySem.F.slot_list_append PySem.F.type_list_append mt_append (pv 3) (pa_cons (pe_lst pa_nil) pa_nil))))
      pss_nil)
      (pss_one (ps_ret (pv 3))))))), ?_⟩
    walk_at "go"
    rename_i p0 hp0
    have s0 := same_upd (o := .lst []) hp0
    refine t_eq (dH.to s0) (.lst (SqL.of upd_same) .nil) (sh_hs _).shaped (sh_hs []).shaped ⟨_, rfl, ?_⟩
    rw [eqv_hs]
    cases hs with
    | nil =>
      walk_at "go"
      rename_i p1 hp1 p2 hp2
      have x0 : Ext U H U (upd H p0 (.lst [])) := Ext.skip sU hp0
      have x1 := x0.trans (Ext.new (o := .lst []) x0.vh hp1)
      have x2 := x1.trans (Ext.new (o := .lst [.ref p1]) x1.vh hp2)
      refine q _ _ _ x2 (.lst (SqL.of upd_same) (.cons ?_ .nil))
      exact (Dp.lst (SqL.of upd_same) .nil).to (same_upd (none_of_same x1.vh hp2))
    | cons h0 tl =>
      have eL : (h0 :: tl) = (h0 :: tl).dropLast ++ [(h0 :: tl).getLast (fun z => by cases z)] := (List.dropLast_concat_getLast _).symm
      generalize hL : (h0 :: tl).getLast (fun z => by cases z) = hl0 at eL
      have hd' := hd
      rw [eL, List.map_append] at hd'
      obtain ⟨xs0, y, rfl, _, dy⟩ := dp_snoc hd'
      obtain ⟨ay, vy, rfl, qy, dvy⟩ := dp_rowD dy
      have e0 : (upd H p0 (.lst [])) ph = _ := s0 _ _ hP
      have x0 : Ext U H U (upd H p0 (.lst [])) := Ext.skip sU hp0
      generalize upd H p0 (.lst []) = H0 at s0 e0 x0 ⊢
      walk_at "go"
      refine ⟨ph, _, _, .ref ay, rfl, rfl, SqL.of e0, atI_last _ _, ?_⟩
      walk_at "go"
      rename_i D hD0
      have hlx : (xs0 ++ [V.ref ay]).length = tl.length + 1 := hxl
      have hlen : tl.length + 1 < 1000 := hl
      have inv0 : LcInv K U H0 D [scD hl0.2] (upd H0 D (.lst [vy])) := ⟨U, [vy], Ext.skip x0.vh hD0, none_of_same x0.vh hD0, upd_same, .cons dvy .nil⟩
      refine ⟨by omega, by omega, for_range (lo := 0) (fun i σ H' => ∃ (v4 : Option V), σ = [some (.ref ph), some (.int t), some (.int g), some (.ref D), v4] ∧ LcInv K U H0 D (scD hl0.2 :: ((((h0 :: tl).zip tl).take i).filterMap fun p => if t - g < p.2.1 then some (scD p.1.2) else none)) H') ⟨_, rfl, inv0⟩ ?_ ?_⟩
      · rintro i σ H' hi ⟨v4, rfl, inv⟩
        obtain ⟨V1, acc, x, hv, hda, dp⟩ := inv.ex
        have hi' : i < tl.length := by omega
        have eH := x.hh _ _ e0
        have h1 : (h0 :: tl)[i]? = some ((h0 :: tl)[i]'(by rw [List.length_cons]; omega)) := List.getElem?_eq_getElem _
        have h2 : (h0 :: tl)[i + 1]? = some (tl[i]) := by rw [List.getElem?_cons_succ]; exact List.getElem?_eq_getElem hi'
        have hz : ((h0 :: tl).zip tl)[i]? = some ((h0 :: tl)[i]'(by rw [List.length_cons]; omega), tl[i]) := by
          rw [List.getElem?_zip_eq_some]
          exact ⟨h1, List.getElem?_eq_getElem hi'⟩
        generalize (h0 :: tl)[i]'(by rw [List.length_cons]; omega) = ha at h1 hz
        generalize tl[i] = hb at h2 hz
        have zi : i < ((h0 :: tl).zip tl).length := (List.getElem?_eq_some_iff.mp hz).1
        have et : (((h0 :: tl).zip tl).take (i + 1)).filterMap (fun p => if t - g < p.2.1 then some (scD p.1.2) else none) = (((h0 :: tl).zip tl).take i).filterMap (fun p => if t - g < p.2.1 then some (scD p.1.2) else none) ++ (if t - g < hb.1 then [scD ha.2] else []) := by
          rw [List.take_succ_eq_append_getElem zi, List.filterMap_append]
          congr 1
          rw [List.filterMap_cons]
          have e5 : ((h0 :: tl).zip tl)[i] = (ha, hb) := (List.getElem?_eq_some_iff.mp hz).2
          rw [e5]
          dsimp only
          by_cases c : t - g < hb.1
          · rw [if_pos c, if_pos c]; rfl
          · rw [if_neg c, if_neg c]; rfl
        obtain ⟨z1, hz1, dz1⟩ := dpall_get' (hd.to x.vv) (i := i) (d := hD ha) (by rw [List.getElem?_map, h1]; rfl)
        obtain ⟨z2, hz2, dz2⟩ := dpall_get' (hd.to x.vv) (i := i + 1) (d := hD hb) (by rw [List.getElem?_map, h2]; rfl)
        obtain ⟨a1, w1, rfl, q1, dw1⟩ := dp_rowD dz1
        obtain ⟨a2, w2, rfl, q2, dw2⟩ := dp_rowD dz2
        have q1' := x.vh.sqt q1
        have q2' := x.vh.sqt q2
        walk_at "go"
        refine ⟨ph, _, _, .ref a2, rfl, rfl, SqL.of eH, at_of (j := i + 1) (by show 0 + (i : Int) + 1 = ((i + 1 : Nat) : Int); omega) hz2, ?_⟩
        walk_at "go"
        have hlA : (scD hl0.2 :: (((h0 :: tl).zip tl).take i).filterMap fun p => if t - g < p.2.1 then some (scD p.1.2) else none).length < 100000 := by
          have := List.length_filterMap_le (fun p : (Int × Scn) × (Int × Scn) => if t - g < p.2.1 then some (scD p.1.2) else none) (((h0 :: tl).zip tl).take i)
          rw [List.length_take] at this
          rw [List.length_cons]; omega
        refine iteP (fun hc => ?_) (fun hc => ?_)
        · rw [if_pos (show t - g < hb.1 from hc)] at et
          walk_at "go"
          refine ⟨.inl ⟨rfl, _, SqL.of hda⟩, ?_⟩
          walk_at "go"
          refine ⟨ph, _, _, .ref a1, rfl, rfl, SqL.of eH, at_of (j := i) (by show 0 + (i : Int) = (i : Int); omega) hz1, ?_⟩
          walk_at "go"
          obtain ⟨acc', j1, j2, j3⟩ := LcInv.push (K := K) (d := scD ha.2) (y := w1) hD0 x hv hda dp (Ext.refl x.vh) dw1 hlA
          refine ⟨D, _, _, rfl, rfl, j1, j2, ?_⟩
          rw [et]
          exact ⟨_, rfl, j3⟩
        · rw [if_neg (show ¬ t - g < hb.1 from hc), List.append_nil] at et
          rw [et]
          exact ⟨_, rfl, inv⟩
      · rintro σ H' ⟨v4, rfl, inv⟩
        have ez : ((h0 :: tl).zip tl).take (((xs0 ++ [V.ref ay]).length : Int) - 1 - 0).toNat = (h0 :: tl).zip tl := by
          refine List.take_of_length_le ?_
          rw [List.length_zip, List.length_cons]; omega
        have ez' : ((h0 :: tl).zip tl).take (((xs0 ++ [V.ref ay]).length : Int) - 1).toNat = (h0 :: tl).zip tl := by
          refine List.take_of_length_le ?_
          rw [List.length_zip, List.length_cons]; omega
        first
          | rw [ez] at inv
          | rw [ez'] at inv
        obtain ⟨V1, acc, x, hv, hda, dp⟩ := inv.ex
        have eH := x.hh _ _ e0
        have ecnt : (cnt (h0 :: tl) (t - g)).map scD = scD hl0.2 :: (((h0 :: tl).zip tl).filterMap (fun p => if t - g < p.2.1 then some (scD p.1.2) else none) ++ if t - g < h0.1 then [scD []] else []) := by
          show scD ((h0 :: tl).getLast (fun z => by cases z)).2 :: (cntS (h0 :: tl) (t - g) ++ if t - g < h0.1 then [[]] else []).map scD = _
          rw [hL, List.map_append]
          congr 1
          have e1 : (cntS (h0 :: tl) (t - g)).map scD = ((h0 :: tl).zip tl).filterMap (fun p => if t - g < p.2.1 then some (scD p.1.2) else none) := by
            unfold cntS
            rw [List.map_filterMap]
            show List.filterMap _ ((h0 :: tl).zip tl) = _
            congr 1
            funext p
            split <;> rfl
          rw [e1]
          congr 1
          split <;> rfl
        obtain ⟨z1, hz1, dz1⟩ := dpall_get' (hd.to x.vv) (i := 0) (d := hD h0) rfl
        obtain ⟨a1, w1, rfl, q1, dw1⟩ := dp_rowD dz1
        have q1' := x.vh.sqt q1
        walk_at "go"
        refine ⟨ph, _, _, .ref a1, rfl, rfl, SqL.of eH, atI_nat (j := 0) hz1, ?_⟩
        walk_at "go"
        have hlA : (scD hl0.2 :: ((h0 :: tl).zip tl).filterMap fun p => if t - g < p.2.1 then some (scD p.1.2) else none).length < 100000 := by
          have := List.length_filterMap_le (fun p : (Int × Scn) × (Int × Scn) => if t - g < p.2.1 then some (scD p.1.2) else none) ((h0 :: tl).zip tl)
          rw [List.length_zip, List.length_cons] at this
          rw [List.length_cons]; omega
        refine iteP (fun hc => ?_) (fun hc => ?_)
        · rw [if_pos (show t - g < h0.1 from hc)] at ecnt
          walk_at "go"
          refine ⟨.inl ⟨rfl, _, SqL.of hda⟩, ?_⟩
          walk_at "go"
          rename_i pe hpe
          obtain ⟨acc', j1, j2, j3⟩ := LcInv.push (K := K) (d := scD []) (y := .ref pe) hD0 x hv hda dp (Ext.new (o := .lst []) x.vh hpe) (.lst (SqL.of upd_same) .nil) hlA
          refine ⟨D, _, _, rfl, rfl, j1, j2, ?_⟩
          obtain ⟨U3, ws, x3, e31, e32, e33⟩ := j3.done hD0
          walk_at "go"
          refine q _ _ _ (x0.trans x3) ?_
          rw [ecnt]; exact e33
        · rw [if_neg (show ¬ t - g < h0.1 from hc), List.append_nil] at ecnt
          obtain ⟨U3, ws, x3, e31, e32, e33⟩ := inv.done hD0
          walk_at "go"
          refine q _ _ _ (x0.trans x3) ?_
          rw [ecnt]; exact e33
def histOk (hs : Hist) : Prop := hs.length < 400 ∧ (∀ h ∈ hs, OkS h.2) ∧ hs.Pairwise fun a b => a.1 < b.1
theorem toF_timed (hs : Hist) : Timed (toF hs) := by
  intro r hr
  obtain ⟨h, _, rfl⟩ := List.mem_map.mp (show r ∈ hs.map toR from hr)
  exact ⟨h.1, rfl⟩
theorem latR_timed {R : List Row} {lim : Int} (h : Timed R) : Timed (latR R lim) := by
  induction R with
  | nil => exact h
  | cons r R ih =>
    cases R with
    | nil => exact h
    | cons n t =>
      have hn : ∀ m ∈ n :: t, ∃ z, m.1 = some z := h
      have key : ∀ m ∈ latR (n :: t) lim, ∃ z, m.1 = some z := fun m hm => hn m (latR_mem m hm)
      rw [latR]
      split
      · exact key
      · exact fun m hm => key m (List.mem_of_mem_tail hm)
theorem toF_ok {hs : Hist} (h : histOk hs) : OkR (toF hs) := by
  refine ⟨by show (hs.map toR).length + 1 < 1000; rw [List.length_map]; have := h.1; omega, fun r hr => ?_⟩
  rcases List.mem_cons.mp hr with rfl | hr
  · exact ⟨by decide, fun c hc => by cases hc⟩
  · obtain ⟨k, hk, rfl⟩ := List.mem_map.mp hr
    exact h.2.1 k hk
theorem latR_le (R : List Row) (lim : Int) : (latR R lim).length ≤ R.length := by
  induction R with
  | nil => exact Nat.le_refl _
  | cons r R ih =>
    cases R with
    | nil => exact Nat.le_refl _
    | cons n t =>
      rw [latR]
      split
      · rw [List.length_cons, List.length_cons]; omega
      · rw [List.length_cons]; omega
theorem latR_ok {R : List Row} {lim : Int} (h : OkR R) : OkR (latR R lim) := ⟨Nat.lt_of_le_of_lt (latR_le R lim) h.1, fun r hr => h.2 r (latR_mem r hr)⟩
def eqO (seen : Bool) (x y : Int) (now s : Scn) : Bool := PyData.eqv (ownO seen (topC s x y)) (ownO seen (topC now x y))
def dueB (seen : Bool) (x y : Int) (now : Scn) (hs : Hist) (lim : Int) : Bool := (!seen || (topC now x y).isSome) && (cnt hs lim).all (eqO seen x y now)
def sp__law_good (C : Addr) (K : PySem.W.Frag) : Sp := fun vs H Q _ => ∃ (o pr ph : Addr) (xs : List V) (hs : Hist) (v : V) (now : Scn) (row t l0 : Int) (U : Hp), vs = [.ref o, .ref ph, v, .int row, .int t] ∧ PtAt C K U H o pr (latR (toF hs) l0) ∧ H ph = some (.lst xs) ∧ DpAll K U xs (hs.map hD) ∧ Same U H ∧ Dp K U v (scD now) ∧ OkS now ∧ histOk hs ∧ l0 ≤ t - 1000 ∧
  ∀ H', Same H H' → Q (.bl true) H'
theorem sc__law_good : FnScope ["painted", "history", "now", "row", "time", "guard", "step", "x", "y", "told", "seen", "due", "covers", "scenes"] ["painted", "history", "now", "row", "time"] (defScope s__law_good) := ⟨rfl, rfl, rfl, by decide +kernel, rfl, by decide +kernel, by decide +kernel⟩
theorem ok__law_good (T : Txt K mg A) : FnOk P w K mg base CX0 6 A.f_law_good A.d_law_good ["painted", "history", "now", "row", "time"] (sp__law_good A.CPainted K) := by
  refine T.F_law_good.ok sc__law_good (fun vs H Q E h => ?_) (fun cdv Ar outer s H vs Q E hr h => ?_)
  · obtain ⟨_, _, _, _, _, _, _, _, _, _, _, rfl, _⟩ := h
    rfl
  · obtain ⟨o, pr, ph, xs, hs, v, now, row, t, l0, U, rfl, hP, eh, dh, sU, dv, okn, okh, hl0, q⟩ := h
    have okR := latR_ok (lim := l0) (toF_ok okh)
    have tmR := latR_timed (lim := l0) (toF_timed hs)
    refine ⟨_, (pss_cons (ps_set (i := 5) sc__law_good.nd rfl (Or.inl rfl) (pe_ix (r := rIxT K) ix_tup (pe_tup (pa_cons pe_int (pa_cons pe_int (pa_cons pe_int (pa_cons pe_int (pa_cons pe_int pa_nil)))))) (pe_op op_mod (pv 3) pe_int) (fun _ _ => rfl)))
      (pss_cons (ps_for PassesOwn.never rfl (pi_range1 (by rfl) T.range (pa_cons pe_int pa_nil)) (pg_name (i := 6) sc__law_good.nd rfl (Or.inl rfl))
      (pss_cons (ps_set (i := 7) sc__law_good.nd rfl (Or.inl rfl) (pe_op op_mod (pe_op op_fdiv (pv 3) (pe_op op_add (pv 6) pe_int)) pe_int))
      (pss_cons (ps_set (i := 8) sc__law_good.nd rfl (Or.inl rfl) (pe_op op_mod (pe_op op_fdiv (pv 3) (pe_op op_add (pv 6) pe_int)) pe_int))
      (pss_cons (ps_set (i := 9) sc__law_good.nd rfl (Or.inl rfl) (pe_tup (pa_cons (pe_meth (pv 0) T.clPainted T.mPainted_is_settled (ok_Painted_is_settled T) (hr.mono (by decide)) T.bPainted_is_settled .nil pass0 (pa_cons (pv 2) (pa_cons (pv 4) (pa_cons (pv 5) (pa_cons (pv 7) (pa_cons (pv 8) pa_nil)))))) (pa_cons (pe_meth (pv 0) T.clPainted T.mPainted_was_seen (ok_Painted_was_seen T) (hr.mono (by decide)) T.bPainted_was_seen .nil pass0 (pa_cons (pv 2) (pa_cons (pv 4) (pa_cons (pv 5) (pa_cons (pv 7) (pa_cons (pv 8) pa_nil)))))) pa_nil))))
      (pss_one (ps_for PassesOwn.never rfl (pi_tup (pe_tup (pa_cons pe_bl (pa_cons pe_bl pa_nil)))) (pg_name (i := 10) sc__law_good.nd rfl (Or.inl rfl))
      (C8.pss_cut (ps_set (i := 11) sc__law_good.nd rfl (Or.inl rfl) (pe_or (pe_not (pv 10)) (pe_one (pe_cmpR op_notN (pe_call (ok__law_owner T) (hr.mono (by decide)) rfl T.g_law_owner T.k_law_owner T.b_law_owner .nil pass0 (pa_cons (pv 2) (pa_cons (pv 7) (pa_cons (pv 8) (pa_cons (pv 10) pa_nil))))) pe_non (nomark _)))))
      (pss_cons (ps_for PassesOwn.never rfl (pi_list (pe_call (ok__law_counting T) (hr.mono (by decide)) rfl T.g_law_counting T.k_law_counting T.b_law_counting .nil pass0 (pa_cons (pv 1) (pa_cons (pv 4) (pa_cons (pv 5) pa_nil))))) (pg_name (i := 12) sc__law_good.nd rfl (Or.inl rfl))
      (pss_one (ps_if (pt_cmpR (op_neD hr.units) (pe_call (ok__law_owner T) (hr.mono (by decide)) rfl T.g_law_owner T.k_law_owner T.b_law_owner .nil pass0 (pa_cons (pv 12) (pa_cons (pv 7) (pa_cons (pv 8) (pa_cons (pv 10) pa_nil))))) (pe_call (ok__law_owner T) (hr.mono (by decide)) rfl T.g_law_owner T.k_law_owner T.b_law_owner .nil pass0 (pa_cons (pv 2) (pa_cons (pv 7) (pa_cons (pv 8) (pa_cons (pv 10) pa_nil))))) (nomark _))
      (pss_one (ps_set (i := 11) sc__law_good.nd rfl (Or.inl rfl) pe_bl))
      pss_nil)))
      (pss_one (ps_if (pt_cmpR op_ne (pe_ix (r := rIxT K) ix_tup (pv 9) (pe_callTy call_int1 (by rfl) T.int (by decide +kernel) (pa_cons (pv 10) pa_nil)) (fun _ _ => rfl)) (pv 11) (nomark _))
      (pss_one (ps_ret pe_bl))
      pss_nil))))))))))
      (pss_cons (ps_set (i := 13) sc__law_good.nd rfl (Or.inl rfl) (pe_meth (pv 0) T.clPainted T.mPainted_scenes (ok_Painted_scenes T) (hr.mono (by decide)) T.bPainted_scenes .nil pass0 (pa_cons (pv 4) (pa_cons (pv 5) pa_nil))))
      (pss_one (ps_ret (pe_and (pe_cmpR (op_neD hr.units) (pv 13) (pe_lst pa_nil) (nomark _)) (pe_one (pe_or (pe_cmpR (op_eqD hr.units) (pv 1) (pe_lst pa_nil) (nomark _)) (pe_one (pe_cmpR (op_eqD hr.units) (pe_ix (r := rIxL K) ix_list (pv 13) pe_int (fun _ _ => rfl)) (pe_ix (r := rIxT K) ix_tup (pe_ix (r := rIxL K) ix_list (pv 1) (pe_un un_neg pe_int) (fun _ _ => rfl)) pe_int (fun _ _ => rfl)) (nomark _))))))))))), ?_⟩
    walk_at "go"
    rename_i pt hpt
    obtain ⟨g, hat, hg⟩ : ∃ g : Int, atI [V.int 0, V.int 1, V.int 100, V.int 350, V.int 1000] (row % 5) = some (.int g) ∧ 0 ≤ g ∧ g ≤ 1000 := by
      rcases (by omega : row % 5 = 0 ∨ row % 5 = 1 ∨ row % 5 = 2 ∨ row % 5 = 3 ∨ row % 5 = 4) with h | h | h | h | h <;> rw [h]
      · exact ⟨0, atI_nat (j := 0) rfl, by decide, by decide⟩
      · exact ⟨1, atI_nat (j := 1) rfl, by decide, by decide⟩
      · exact ⟨100, atI_nat (j := 2) rfl, by decide, by decide⟩
      · exact ⟨350, atI_nat (j := 3) rfl, by decide, by decide⟩
      · exact ⟨1000, atI_nat (j := 4) rfl, by decide, by decide⟩
    have st := same_upd (o := .tup [V.int 0, V.int 1, V.int 100, V.int 350, V.int 1000]) hpt
    refine ⟨pt, _, _, _, rfl, rfl, SqT.of upd_same, hat, ?_⟩
    generalize upd H pt (.tup [V.int 0, V.int 1, V.int 100, V.int 350, V.int 1000]) = H1 at st ⊢
    obtain ⟨dx, e1⟩ := hP.ob
    have hcomp : latR (latR (toF hs) l0) (t - g) = latR (toF hs) (t - g) := latR_comp (by omega) (incF_of _ okh.2.2)
    walk_at "go"
    refine ⟨by decide, by decide, ?_⟩
    refine for_range (lo := 0) (fun i σ H' => ∃ (v6 v7 v8 v9 v10 v11 v12 v13 : Option V), σ = [some (.ref o), some (.ref ph), some v, some (.int row), some (.int t), some (.int g), v6, v7, v8, v9, v10, v11, v12, v13] ∧ Same H H') ⟨_, _, _, _, _, _, _, _, rfl, st⟩ ?_ ?_
    · rintro i σ H2 hi ⟨v6, v7, v8, v9, v10, v11, v12, v13, rfl, s2⟩
      have hc : (0 : Int) ≤ (i : Int) ∧ (i : Int) < 1000 := by
        have e : (6 : Int).toNat = 6 := rfl
        omega
      walk_at "gx"
      refine ⟨o, dx, _, rfl, s2 _ _ e1, pF_no _ (by decide +kernel), ?_⟩
      walk_at "go"
      refine ⟨o, pr, latR (toF hs) l0, v, now, t, g, (row / (0 + (i : Int) + 5) % 14), (row / (0 + (i : Int) + 7) % 14), U, rfl, hP.same s2 (Same.refl _), sU.trans s2, tmR, okR, dv, okn, fun H3 s3 => ?_⟩
      rw [hcomp, cnt_all]
      walk_at "go"
      refine ⟨o, dx, _, rfl, s3 _ _ (s2 _ _ e1), pF_no _ (by decide +kernel), ?_⟩
      walk_at "go"
      refine ⟨o, pr, latR (toF hs) l0, v, now, t, g, (row / (0 + (i : Int) + 5) % 14), (row / (0 + (i : Int) + 7) % 14), U, rfl, (hP.same s2 (Same.refl _)).same s3 (Same.refl _), (sU.trans s2).trans s3, tmR, okR, dv, okn, fun H4 s4 => ?_⟩
      rw [hcomp, cnt_all]
      have hd0 : (cnt hs (t - g)).all (eqW (row / (0 + (i : Int) + 5) % 14) (row / (0 + (i : Int) + 7) % 14) now) = dueB false (row / (0 + (i : Int) + 5) % 14) (row / (0 + (i : Int) + 7) % 14) now hs (t - g) := rfl
      have hd1 : ((topC now (row / (0 + (i : Int) + 5) % 14) (row / (0 + (i : Int) + 7) % 14)).isSome && (cnt hs (t - g)).all (eqF (row / (0 + (i : Int) + 5) % 14) (row / (0 + (i : Int) + 7) % 14) now)) = dueB true (row / (0 + (i : Int) + 5) % 14) (row / (0 + (i : Int) + 7) % 14) now hs (t - g) := rfl
      rw [hd0, hd1]
      walk_at "go"
      rename_i pd hpd pq hpq
      have sd := same_upd (o := .tup [.bl (dueB false (row / (0 + (i : Int) + 5) % 14) (row / (0 + (i : Int) + 7) % 14) now hs (t - g)), .bl (dueB true (row / (0 + (i : Int) + 5) % 14) (row / (0 + (i : Int) + 7) % 14) now hs (t - g))]) hpd
      have sq := same_upd (o := .tup [.bl false, .bl true]) hpq
      have qd : SqT K (upd (upd H4 pd (.tup [.bl (dueB false (row / (0 + (i : Int) + 5) % 14) (row / (0 + (i : Int) + 7) % 14) now hs (t - g)), .bl (dueB true (row / (0 + (i : Int) + 5) % 14) (row / (0 + (i : Int) + 7) % 14) now hs (t - g))])) pq (.tup [.bl false, .bl true])) pd [.bl (dueB false (row / (0 + (i : Int) + 5) % 14) (row / (0 + (i : Int) + 7) % 14) now hs (t - g)), .bl (dueB true (row / (0 + (i : Int) + 5) % 14) (row / (0 + (i : Int) + 7) % 14) now hs (t - g))] := sq.sqt (SqT.of upd_same)
      have qq : SqT K (upd (upd H4 pd (.tup [.bl (dueB false (row / (0 + (i : Int) + 5) % 14) (row / (0 + (i : Int) + 7) % 14) now hs (t - g)), .bl (dueB true (row / (0 + (i : Int) + 5) % 14) (row / (0 + (i : Int) + 7) % 14) now hs (t - g))])) pq (.tup [.bl false, .bl true])) pq [.bl false, .bl true] := SqT.of upd_same
      have s5 := (((s2.trans s3).trans s4).trans sd).trans sq
      generalize upd (upd H4 pd (.tup [.bl (dueB false (row / (0 + (i : Int) + 5) % 14) (row / (0 + (i : Int) + 7) % 14) now hs (t - g)), .bl (dueB true (row / (0 + (i : Int) + 5) % 14) (row / (0 + (i : Int) + 7) % 14) now hs (t - g))])) pq (.tup [.bl false, .bl true]) = H5 at qd qq s5 ⊢
      refine ⟨⟨_, qq⟩, for_tup (K := K) (a := pq) (xs := [.bl false, .bl true]) (fun j σ H' => ∃ (v10 v11 v12 v13 : Option V), σ = [some (.ref o), some (.ref ph), some v, some (.int row), some (.int t), some (.int g), some (.int (0 + (i : Int))), some (.int (row / (0 + (i : Int) + 5) % 14)), some (.int (row / (0 + (i : Int) + 7) % 14)), some (.ref pd), v10, v11, v12, v13] ∧ Same H5 H') ⟨_, _, _, _, rfl, Same.refl _⟩ (fun j σ H' _ ⟨_, _, _, _, _, s⟩ => s.sqt qq) ?_ ?_⟩
      · rintro j z σ H6 hz ⟨w10, w11, w12, w13, rfl, s6⟩
        obtain ⟨seen, rfl, hat2⟩ : ∃ seen : Bool, z = .bl seen ∧ atI [V.bl (dueB false (row / (0 + (i : Int) + 5) % 14) (row / (0 + (i : Int) + 7) % 14) now hs (t - g)), .bl (dueB true (row / (0 + (i : Int) + 5) % 14) (row / (0 + (i : Int) + 7) % 14) now hs (t - g))] (if seen = true then 1 else 0) = some (.bl (dueB seen (row / (0 + (i : Int) + 5) % 14) (row / (0 + (i : Int) + 7) % 14) now hs (t - g))) := by
          have hj : j < 2 := (List.getElem?_eq_some_iff.mp hz).1
          rcases (by omega : j = 0 ∨ j = 1) with rfl | rfl
          · injection hz with hz; exact ⟨false, hz.symm, atI_nat (j := 0) rfl⟩
          · injection hz with hz; exact ⟨true, hz.symm, atI_nat (j := 1) rfl⟩
        have qd6 := s6.sqt qd
        have s06 := s5.trans s6
        walk_at "go"
        refine ⟨fun σ' H' => σ' = [some (.ref o), some (.ref ph), some v, some (.int row), some (.int t), some (.int g), some (.int (0 + (i : Int))), some (.int (row / (0 + (i : Int) + 5) % 14)), some (.int (row / (0 + (i : Int) + 7) % 14)), some (.ref pd), some (.bl seen), some (.bl (!seen || (topC now (row / (0 + (i : Int) + 5) % 14) (row / (0 + (i : Int) + 7) % 14)).isSome)), w12, w13] ∧ Same H6 H', ?_, ?_⟩
        · walk_at "go"
          cases hse : seen with
          | false =>
            walk_at "go"
            first | exact Same.refl _ | exact ⟨rfl, Same.refl _⟩
          | true =>
            walk_at "go"
            refine ⟨v, now, (row / (0 + (i : Int) + 5) % 14), (row / (0 + (i : Int) + 7) % 14), true, rfl, dv.to (sU.trans s06), fun r H7 s7 dr hrn => ?_⟩
            walk_at "go"
            have e : (!decide (r = V.non)) = (topC now (row / (0 + (i : Int) + 5) % 14) (row / (0 + (i : Int) + 7) % 14)).isSome := by
              cases ht : topC now (row / (0 + (i : Int) + 5) % 14) (row / (0 + (i : Int) + 7) % 14) with
              | none => rw [hrn.mpr ht]; rfl
              | some c =>
                have : r ≠ .non := fun z => by rw [hrn.mp z] at ht; cases ht
                rw [decide_eq_false this]; rfl
            first
              | (rw [e]; exact s7)
              | exact ⟨by rw [e]; rfl, s7⟩
              | (refine ⟨?_, s7⟩; show _ = _; rw [← e]; rfl)
        rintro σ' H7 ⟨rfl, s7⟩
        have s07 := s06.trans s7
        walk_at "go"
        refine ⟨ph, xs, hs, t, g, U, rfl, s07 _ _ eh, dh, sU.trans s07, by have := okh.1; omega, fun vc U8 H8 x8 dc => ?_⟩
        obtain ⟨pc, zs, rfl, qc, dzs⟩ := dp_list dc
        have hzl : zs.length = (cnt hs (t - g)).length := by rw [dpall_len dzs, List.length_map]
        have s08 := s07.trans x8.hh
        walk_at "go"
        refine ⟨⟨_, x8.vh.seq qc⟩, for_list (K := K) (a := pc) (xs := zs) (fun m σ H' => ∃ (w12 w13 : Option V), σ = [some (.ref o), some (.ref ph), some v, some (.int row), some (.int t), some (.int g), some (.int (0 + (i : Int))), some (.int (row / (0 + (i : Int) + 5) % 14)), some (.int (row / (0 + (i : Int) + 7) % 14)), some (.ref pd), some (.bl seen), some (.bl ((!seen || (topC now (row / (0 + (i : Int) + 5) % 14) (row / (0 + (i : Int) + 7) % 14)).isSome) && ((cnt hs (t - g)).take m).all (eqO seen (row / (0 + (i : Int) + 5) % 14) (row / (0 + (i : Int) + 7) % 14) now))), w12, w13] ∧ Same H8 H') ⟨_, _, by rw [List.take_zero, List.all_nil, Bool.and_true], Same.refl _⟩ (fun m σ H' _ ⟨_, _, _, s⟩ => s.seq (x8.vh.seq qc)) ?_ ?_⟩
        · rintro m z σ H9 hz2 ⟨w12, w13, rfl, s9⟩
          obtain ⟨d, hd, dz⟩ := dpall_get dzs hz2
          rw [List.getElem?_map] at hd
          obtain ⟨sc, hsc, rfl⟩ := Option.map_eq_some_iff.mp hd
          obtain ⟨hm, em⟩ := List.getElem?_eq_some_iff.mp hsc
          have et : ((cnt hs (t - g)).take (m + 1)).all (eqO seen (row / (0 + (i : Int) + 5) % 14) (row / (0 + (i : Int) + 7) % 14) now) = (((cnt hs (t - g)).take m).all (eqO seen (row / (0 + (i : Int) + 5) % 14) (row / (0 + (i : Int) + 7) % 14) now) && eqO seen (row / (0 + (i : Int) + 5) % 14) (row / (0 + (i : Int) + 7) % 14) now sc) := by
            rw [List.take_succ_eq_append_getElem hm, List.all_append, em, List.all_cons, List.all_nil, Bool.and_true]
          walk_at "go"
          refine ⟨z, sc, (row / (0 + (i : Int) + 5) % 14), (row / (0 + (i : Int) + 7) % 14), seen, rfl, dz.to (x8.vh.trans s9), fun r H10 s10 dr _ => ?_⟩
          walk_at "go"
          refine ⟨v, now, (row / (0 + (i : Int) + 5) % 14), (row / (0 + (i : Int) + 7) % 14), seen, rfl, dv.to (((sU.trans s08).trans s9).trans s10), fun r2 H11 s11 dr2 _ => ?_⟩
          walk_at "go"
          refine t_ne (dr.to s11) dr2 (sh_ownO _ _).shaped (sh_ownO _ _).shaped ⟨_, rfl, ?_⟩
          have ee : PyData.eqv (ownO seen (topC sc (row / (0 + (i : Int) + 5) % 14) (row / (0 + (i : Int) + 7) % 14))) (ownO seen (topC now (row / (0 + (i : Int) + 5) % 14) (row / (0 + (i : Int) + 7) % 14))) = eqO seen (row / (0 + (i : Int) + 5) % 14) (row / (0 + (i : Int) + 7) % 14) now sc := rfl
          rw [ee]
          cases hb : eqO seen (row / (0 + (i : Int) + 5) % 14) (row / (0 + (i : Int) + 7) % 14) now sc with
          | true =>
            rw [hb, Bool.and_true] at et
            walk_at "go"
            exact ⟨_, _, by rw [et]; rfl, (s9.trans s10).trans s11⟩
          | false =>
            rw [hb, Bool.and_false] at et
            walk_at "go"
            exact ⟨_, _, by rw [et, Bool.and_false]; rfl, (s9.trans s10).trans s11⟩
        · rintro σ H9 ⟨w12, w13, rfl, s9⟩
          rw [hzl, List.take_length]
          have hdue : ((!seen || (topC now (row / (0 + (i : Int) + 5) % 14) (row / (0 + (i : Int) + 7) % 14)).isSome) && (cnt hs (t - g)).all (eqO seen (row / (0 + (i : Int) + 5) % 14) (row / (0 + (i : Int) + 7) % 14) now)) = dueB seen (row / (0 + (i : Int) + 5) % 14) (row / (0 + (i : Int) + 7) % 14) now hs (t - g) := rfl
          rw [hdue]
          have qd9 := s9.sqt (x8.hh.sqt (s7.sqt qd6))
          walk_at "go"
          refine .inr ⟨seen, rfl, ?_⟩
          refine ⟨pd, _, _, _, rfl, rfl, qd9, hat2, ?_⟩
          walk_at "go"
          refine if_f (by rw [decide_eq_true rfl]; rfl) ?_
          exact ⟨_, _, _, _, rfl, ((s6.trans s7).trans x8.hh).trans s9⟩
      · rintro σ H6 ⟨w10, w11, w12, w13, rfl, s6⟩
        exact ⟨_, _, _, _, _, _, _, _, rfl, s5.trans s6⟩
    · rintro σ H2 ⟨v6, v7, v8, v9, v10, v11, v12, v13, rfl, s2⟩
      walk_at "go"
      refine ⟨o, dx, _, rfl, s2 _ _ e1, pF_no _ (by decide +kernel), ?_⟩
      walk_at "go"
      refine ⟨o, pr, latR (toF hs) l0, t, g, U, rfl, hP.same s2 (Same.refl _), sU.trans s2, tmR, okR, fun vs U3 H3 x3 ds => ?_⟩
      rw [hcomp] at ds
      walk_at "go"
      rename_i pe hpe
      have se := same_upd (o := .lst []) hpe
      have hne := latR_ne (lim := t - g) (toF_ne hs)
      have hlast := latR_last (lim := t - g) (toF_ne hs)
      obtain ⟨l, rest, eL⟩ : ∃ l rest, (latR (toF hs) (t - g)).reverse = l :: rest := by
        cases hr : (latR (toF hs) (t - g)).reverse with
        | nil => exact absurd (List.reverse_eq_nil_iff.mp hr) hne
        | cons l rest => exact ⟨l, rest, rfl⟩
      have el : (toF hs).getLast? = some l := by
        rw [← hlast, List.getLast?_eq_head?_reverse, eL]; rfl
      rw [eL] at ds
      have shL : Sh 5 (.list ((l :: rest).map fun r => scD r.2)) := sh_list fun d hd => by
        obtain ⟨r, _, rfl⟩ := List.mem_map.mp hd
        exact sh_scD _
      have s3 := s2.trans (x3.hh.trans se)
      refine t_ne ((ds.to x3.vh).to se) (.lst (SqL.of upd_same) .nil) shL.shaped (sh_hs []).shaped ⟨_, rfl, ?_⟩
      have e9 : PyData.eqv (.list ((l :: rest).map fun r => scD r.2)) (.list []) = false := rfl
      rw [e9]
      walk_at "go"
      rename_i pe2 hpe2
      have se2 := same_upd (o := .lst []) hpe2
      have dH : Dp K H (.ref ph) (.list (hs.map hD)) := .lst (SqL.of eh) (dh.to sU)
      refine t_eq ((dH.to s3).to se2) (.lst (SqL.of upd_same) .nil) (sh_hs _).shaped (sh_hs []).shaped ?_
      have e8 : PyData.eqv (.list (hs.map hD)) (.list []) = hs.isEmpty := eqv_hs hs
      rw [e8]
      cases hs with
      | nil =>
        walk_at "go"
        exact q _ (s3.trans se2)
      | cons h0 tl =>
        walk_at "go"
        obtain ⟨A0, hl1, eLs⟩ : ∃ A x, (h0 :: tl) = A ++ [x] := ⟨_, _, (List.dropLast_concat_getLast (l := h0 :: tl) (fun z => by cases z)).symm⟩
        have hll : l.2 = hl1.2 := by
          rw [eLs, toF_add, List.getLast?_concat] at el
          rw [← Option.some.inj el]; rfl
        have dh' := dh
        rw [eLs, List.map_append] at dh'
        obtain ⟨xs0, y, rfl, _, dy⟩ := dp_snoc dh'
        obtain ⟨ay, vy, rfl, qy, dvy⟩ := dp_rowD dy
        obtain ⟨ps, zs, rfl, qs, dzs⟩ := dp_list ds
        obtain ⟨z0, hz0, dz0⟩ := dpall_get' dzs (i := 0) (d := scD l.2) rfl
        have qs' := se2.seq (se.seq (x3.vh.seq qs))
        have s4 := s3.trans se2
        have qy' := (sU.trans s4).sqt qy
        refine ⟨ps, _, _, z0, rfl, rfl, qs', atI_nat (j := 0) hz0, ?_⟩
        walk_at "go"
        refine ⟨ph, _, _, .ref ay, rfl, rfl, SqL.of (s4 _ _ eh), atI_last _ _, ?_⟩
        walk_at "go"
        have ev : scD l.2 = scD (toR hl1).2 := by rw [hll]; rfl
        refine t_eq (((dz0.to x3.vh).to se).to se2) (dvy.to (sU.trans s4)) (sh_scD _).shaped (sh_scD _).shaped ?_
        rw [ev, (sh_scD _).self]
        exact q _ s4
theorem none_poke_of {H H1 : Hp} {D : Addr} {o : HO} (b : ∀ c, H1 c = none → H c = none) (hd : H1 D ≠ none) : ∀ c, upd H1 D o c = none → H c = none := fun c e => b c (none_poke hd c e)
structure LawS (K : PySem.W.Frag) (C : Addr) (ns : List Int) (a o ph pr : Addr) (hs : Hist) (time l0 : Int) (n : Nat) (U H : Hp) : Prop where
  sU : Same U H
  uo : U o = none
  up : U pr = none
  uh : U ph = none
  ne : ph ≠ pr
  sa : SqL K U a (ns.map V.int)
  pt : PtAt C K U H o pr (latR (toF hs) l0)
  hl : ∃ xs, H ph = some (.lst xs) ∧ DpAll K U xs (hs.map hD)
  len : hs.length ≤ n
  oks : ∀ h ∈ hs, OkS h.2
  pw : hs.Pairwise fun a b => a.1 < b.1
  le : ∀ h ∈ hs, h.1 ≤ time
  lo : l0 ≤ time - 1000
theorem LawS.grow {K : PySem.W.Frag} {C : Addr} {ns : List Int} {a o ph pr : Addr} {hs : Hist} {time l0 : Int} {n : Nat} {U H U' H' : Hp} (s : LawS K C ns a o ph pr hs time l0 n U H) (x : Ext U H U' H') : LawS K C ns a o ph pr hs time l0 n U' H' := by
  obtain ⟨dx, e1⟩ := s.pt.ob
  obtain ⟨ys, e2, _⟩ := s.pt.ls
  obtain ⟨xs, e3, d3⟩ := s.hl
  exact ⟨x.vh, x.keepOut s.uo (by rw [e1]; exact fun z => by cases z), x.keepOut s.up (by rw [e2]; exact fun z => by cases z), x.keepOut s.uh (by rw [e3]; exact fun z => by cases z), s.ne, x.vv.seq s.sa, s.pt.same x.hh x.vv, ⟨xs, x.hh _ _ e3, d3.to x.vv⟩, s.len, s.oks, s.pw, s.le, s.lo⟩
theorem LawS.hne {K : PySem.W.Frag} {C : Addr} {ns : List Int} {a o ph pr : Addr} {hs : Hist} {time l0 : Int} {n : Nat} {U H : Hp} (s : LawS K C ns a o ph pr hs time l0 n U H) : o ≠ ph := by
  obtain ⟨dx, e1⟩ := s.pt.ob
  obtain ⟨xs, e3, _⟩ := s.hl
  exact ne_of e1 e3 (by intro z; cases z)
theorem okS_dis {sl : Int} {s : Scn} (h : OkS s) : OkS (disS sl s) := by
  refine ⟨by unfold disS; rw [List.length_map]; exact h.1, fun c hc => ?_⟩
  obtain ⟨c', hc', rfl⟩ := List.mem_map.mp hc
  unfold disC
  split <;> exact h.2 c' hc'
theorem toF_dis (hs : Hist) (sl : Int) : toF (hs.map fun h => (h.1, disS sl h.2)) = (toF hs).map (onS (disS sl)) := by
  show (none, []) :: List.map toR _ = onS (disS sl) (none, []) :: List.map _ (hs.map toR)
  rw [List.map_map, List.map_map]
  rfl
theorem hist_dis_ok {hs : Hist} {sl : Int} (h : ∀ h ∈ hs, OkS h.2) : ∀ h ∈ hs.map (fun h => (h.1, disS sl h.2)), OkS h.2 := fun x hx => by
  obtain ⟨y, hy, rfl⟩ := List.mem_map.mp hx
  exact okS_dis (h y hy)
theorem hist_dis_pw {hs : Hist} {sl : Int} (h : hs.Pairwise fun a b => a.1 < b.1) : (hs.map fun h => (h.1, disS sl h.2)).Pairwise fun a b => a.1 < b.1 := List.pairwise_map.mpr h
theorem hist_dis_le {hs : Hist} {sl t : Int} (h : ∀ h ∈ hs, h.1 ≤ t) : ∀ h ∈ hs.map (fun h => (h.1, disS sl h.2)), h.1 ≤ t := fun x hx => by
  obtain ⟨y, hy, rfl⟩ := List.mem_map.mp hx
  exact h y hy
theorem sc_law : FnScope ["script", "painted", "history", "time", "k", "row", "case", "now"] ["script"] (defScope s_law) := ⟨rfl, rfl, rfl, by decide +kernel, rfl, by decide +kernel, by decide +kernel⟩
theorem ok_law (T : Txt K mg A) : FnOk P w K mg base CX0 7 A.flaw A.dlaw ["script"] (sp_law K) := by
  refine T.Flaw.ok sc_law (fun vs H Q E h => ?_) (fun cdv Ar outer s H vs Q E hr h => ?_)
  · obtain ⟨a, ns, rfl, _⟩ := h
    rfl
  · obtain ⟨a, ns, rfl, hS, hlen, q⟩ := h
    refine ⟨_, (pss_cons (ps_set (i := 1) sc_law.nd rfl (Or.inl rfl) (pe_make0 T.MPainted (ok_Painted___init__ T) (hr.mono (by decide)) rfl T.gPainted T.bPainted___init__ .nil pass0))
      (pss_cons (ps_set (i := 2) sc_law.nd rfl (Or.inl rfl) (pe_lst pa_nil))
      (pss_cons (ps_set (i := 3) sc_law.nd rfl (Or.inl rfl) pe_int)
      (pss_cons (ps_for PassesOwn.never rfl (pi_range1 (by rfl) T.range (pa_cons (pe_op op_add (pe_callB (call_min2 rfl) (by rfl) T.min (by decide +kernel) (pa_cons (pe_callB call_len_seq (by rfl) T.len PySem.boot_len (pa_cons (pv 0) pa_nil)) (pa_cons pe_int pa_nil))) pe_int) pa_nil)) (pg_name (i := 4) sc_law.nd rfl (Or.inl rfl))
      (pss_cons (ps_set (i := 5) sc_law.nd rfl (Or.inl rfl) (pe_callTy call_int1 (by rfl) T.int (by decide +kernel) (pa_cons (pe_call (ok__law_row T) (hr.mono (by decide)) rfl T.g_law_row T.k_law_row T.b_law_row .nil pass0 (pa_cons (pv 0) (pa_cons (pv 4) pa_nil))) pa_nil)))
      (pss_cons (ps_set (i := 6) sc_law.nd rfl (Or.inl rfl) (pe_op op_mod (pv 5) pe_int))
      (pss_cons (ps_set (i := 7) sc_law.nd rfl (Or.inl rfl) (pe_call (ok__law_covers T) (hr.mono (by decide)) rfl T.g_law_covers T.k_law_covers T.b_law_covers .nil pass0 (pa_cons (pe_op op_fdiv (pv 5) pe_int) pa_nil)))
      (C8.pss_cut (ps_if (pt_cmpR op_lt (pv 6) pe_int (nomark _))
      (pss_cons (ps_set (i := 3) sc_law.nd rfl (Or.inl rfl) (pe_op op_add (pv 3) (pe_ix (r := rIxT K) ix_tup (pe_tup (pa_cons pe_int (pa_cons pe_int (pa_cons pe_int (pa_cons pe_int (pa_cons pe_int (pa_cons pe_int pa_nil))))))) (pe_op op_mod (pe_op op_fdiv (pv 5) pe_int) pe_int) (fun _ _ => rfl))))
      (C8.pss_cut (ps_if (PW.pt (pw_and (pt_cmpR (op_neD hr.units) (pv 2) (pe_lst pa_nil) (nomark _)) (pw_and1 (pt_cmpR (op_eqD hr.units) (pe_ix (r := rIxT K) ix_tup (pe_ix (r := rIxL K) ix_list (pv 2) (pe_un un_neg pe_int) (fun _ _ => rfl)) pe_int (fun _ _ => rfl)) (pv 3) (nomark _)))))
      (pss_one (ps_expr (pe_bm0 PySem.F.plainAttrs_list PySem.F.slot_list_pop PySem.F.type_list_pop mt_pop (pv 2))))
      pss_nil)
      (pss_cons (ps_expr (pe_bm PySem.F.plainAttrs_list PySem.F.slot_list_append PySem.F.type_list_append mt_append (pv 2) (pa_cons (pe_tup (pa_cons (pv 3) (pa_cons (pv 7) pa_nil))) pa_nil)))
      (pss_one (ps_expr (pe_meth (pv 1) T.clPainted T.mPainted_paint (ok_Painted_paint T) (hr.mono (by decide)) T.bPainted_paint .nil pass0 (pa_cons (pv 3) (pa_cons (pv 7) pa_nil))))))))
      (pss_one (ps_if (PW.pt (pw_and (pt_cmpR op_eq (pv 6) pe_int (nomark _)) (pw_and1 (pt_cmpR op_eq (pe_op op_mod (pe_op op_fdiv (pv 5) pe_int) pe_int) pe_int (nomark _)))))
      (pss_cons (ps_expr (pe_meth (pv 1) T.clPainted T.mPainted_disown (ok_Painted_disown T) (hr.mono (by decide)) T.bPainted_disown .nil pass0 (pa_cons (pe_op op_mod (pe_op op_fdiv (pv 5) pe_int) pe_int) pa_nil)))
      (pss_one (ps_set (i := 2) sc_law.nd rfl (Or.inl rfl) (pe_call (ok__law_disowned T) (hr.mono (by decide)) rfl T.g_law_disowned T.k_law_disowned T.b_law_disowned .nil pass0 (pa_cons (pv 2) (pa_cons (pe_op op_mod (pe_op op_fdiv (pv 5) pe_int) pe_int) pa_nil))))))
      pss_nil)))
      (C8.pss_cut (ps_if (pt_cmpR (op_neD hr.units) (pv 2) (pe_lst pa_nil) (nomark _))
      (pss_one (ps_set (i := 7) sc_law.nd rfl (Or.inl rfl) (pe_ix (r := rIxT K) ix_tup (pe_tup (pa_cons (pv 7) (pa_cons (pe_ix (r := rIxT K) ix_tup (pe_ix (r := rIxL K) ix_list (pv 2) (pe_un un_neg pe_int) (fun _ _ => rfl)) pe_int (fun _ _ => rfl)) pa_nil))) (pe_op op_mod (pe_op op_fdiv (pv 5) pe_int) pe_int) (fun _ _ => rfl))))
      pss_nil)
      (pss_one (ps_if (pt_not (pt_val (pe_call (ok__law_good T) (hr.mono (by decide)) rfl T.g_law_good T.k_law_good T.b_law_good .nil pass0 (pa_cons (pv 1) (pa_cons (pv 2) (pa_cons (pv 7) (pa_cons (pe_op op_fdiv (pv 5) pe_int) (pa_cons (pe_op op_add (pv 3) (pe_ix (r := rIxT K) ix_tup (pe_tup (pa_cons pe_int (pa_cons pe_int (pa_cons pe_int (pa_cons pe_int pa_nil))))) (pe_op op_mod (pe_op op_fdiv (pv 5) pe_int) pe_int) (fun _ _ => rfl))) pa_nil))))))))
      (pss_one (ps_ret pe_bl))
      pss_nil))))))))
      (pss_one (ps_ret pe_bl)))))), ?_⟩
    intro o dx fo fdx hdo
    have sH : Same H (upd (upd H dx (.own o)) o (.ins A.CPainted dx [])) := fun c u q => by
      rw [upd_ne (ne_of_none q fo), upd_ne (ne_of_none q fdx)]; exact q
    refine ⟨o, dx, H, rfl, upd_same, sH, fo, fun pr U1 H1 g1 pt1 np1 up1 b1 => ⟨rfl, ?_⟩⟩
    have uo1 : U1 o = none := g1.keepOut fo (by rw [upd_same]; exact fun z => by cases z)
    walk_at "go"
    rename_i ph hph
    have x2 : Ext U1 H1 U1 (upd H1 ph (.lst [])) := Ext.skip g1.vh hph
    have S0 : LawS K A.CPainted ns a o ph pr [] 0 (-1000) 0 U1 (upd H1 ph (.lst [])) := by
      obtain ⟨ys, e2, _⟩ := pt1.ls
      exact ⟨x2.vh, uo1, up1, none_of_same g1.vh hph, fun z => (by rw [z, e2] at hph; cases hph), g1.vv.seq hS, pt1.same x2.hh x2.vv, ⟨[], upd_same, .nil⟩, Nat.le_refl _, fun h hh => (by cases hh), List.Pairwise.nil, fun h hh => (by cases hh), by decide⟩
    generalize upd H1 ph (.lst []) = H2 at S0
    clear x2 pt1 np1 up1 b1 g1 uo1 sH fo fdx hdo hph
    have hS2 := S0.sU.seq S0.sa
    walk_at "go"
    refine ⟨?_, ?_, ?_⟩
    · split <;> omega
    · rw [List.length_map]; split <;> omega
    refine for_range (lo := 0) (fun i σ H' => ∃ (ph pr : Addr) (hs : Hist) (time l0 : Int) (U : Hp) (v4 v5 v6 v7 : Option V), σ = [some (.ref a), some (.ref o), some (.ref ph), some (.int time), v4, v5, v6, v7] ∧ LawS K A.CPainted ns a o ph pr hs time l0 i U H') ⟨ph, pr, [], 0, -1000, U1, _, _, _, _, rfl, S0⟩ ?_ ?_
    · clear S0 hS2
      rintro i σ H1 hi ⟨ph, pr, hs, time, l0, U, v4, v5, v6, v7, rfl, S⟩
      have hi2 : i < 100 := by
        rw [List.length_map] at hi
        split at hi <;> omega
      refine ⟨_, rfl, _, rfl, a, ns, i, ?_, S.sU.seq S.sa, ?_⟩
      · show [V.ref a, V.int (0 + (i : Int))] = [V.ref a, V.int (i : Int)]
        rw [Int.zero_add]
      have r0 := lawRow_nn ns i
      generalize lawRow ns i = row at r0
      walk_at "go"
      refine ⟨_, U, rfl, S.sU, fun v U2 H2 x2 dv => ?_⟩
      have okn := lawScn_ok (row / 12)
      generalize lawScn (row / 12) = now at dv okn
      have S2 := S.grow x2
      clear S
      walk_at "go"
      refine ⟨fun σ' H' => ∃ (ph pr : Addr) (hs : Hist) (time l0 : Int) (U' : Hp), σ' = [some (.ref a), some (.ref o), some (.ref ph), some (.int time), some (.int (0 + (i : Int))), some (.int row), some (.int (row % 4)), some v] ∧ LawS K A.CPainted ns a o ph pr hs time l0 (i + 1) U' H' ∧ Dp K U' v (scD now), ?_, ?_⟩
      · walk_at "go"
        refine iteP (fun hc => ?_) (fun hc => ?_)
        · walk_at "go"
          rename_i p1 hp1
          obtain ⟨dt, hat, hdt⟩ : ∃ dt : Int, atI [V.int 0, V.int 1, V.int 100, V.int 350, V.int 700, V.int 5] (row / 4 % 6) = some (.int dt) ∧ 0 ≤ dt := by
            rcases (by omega : row / 4 % 6 = 0 ∨ row / 4 % 6 = 1 ∨ row / 4 % 6 = 2 ∨ row / 4 % 6 = 3 ∨ row / 4 % 6 = 4 ∨ row / 4 % 6 = 5) with h | h | h | h | h | h <;> rw [h]
            · exact ⟨0, atI_nat (j := 0) rfl, by decide⟩
            · exact ⟨1, atI_nat (j := 1) rfl, by decide⟩
            · exact ⟨100, atI_nat (j := 2) rfl, by decide⟩
            · exact ⟨350, atI_nat (j := 3) rfl, by decide⟩
            · exact ⟨700, atI_nat (j := 4) rfl, by decide⟩
            · exact ⟨5, atI_nat (j := 5) rfl, by decide⟩
          refine ⟨p1, _, _, _, rfl, rfl, SqT.of upd_same, hat, ?_⟩
          have S3 := S2.grow (Ext.skip (o := .tup [V.int 0, V.int 1, V.int 100, V.int 350, V.int 700, V.int 5]) S2.sU hp1)
          clear S2 hp1
          generalize upd H2 p1 (.tup [V.int 0, V.int 1, V.int 100, V.int 350, V.int 700, V.int 5]) = H3 at S3
          obtain ⟨t, ht⟩ : ∃ t, t = time + dt := ⟨_, rfl⟩
          walk_at "go"
          refine ⟨fun σ' H' => σ' = [some (.ref a), some (.ref o), some (.ref ph), some (.int t), some (.int (0 + (i : Int))), some (.int row), some (.int (row % 4)), some v] ∧ (∀ c u, H3 c = some u → c ≠ ph → H' c = some u) ∧ (∀ c, H' c = none → H3 c = none) ∧ ∃ xs', H' ph = some (.lst xs') ∧ DpAll K U2 xs' ((popH hs t).map hD), ?_, ?_⟩
          · obtain ⟨xs, exs, dxs⟩ := S3.hl
            walk_at "go"
            rename_i pe hpe
            have se := same_upd (o := .lst []) hpe
            have dH : Dp K H3 (.ref ph) (.list (hs.map hD)) := .lst (SqL.of exs) (dxs.to S3.sU)
            refine t_ne (dH.to se) (.lst (SqL.of upd_same) .nil) (sh_hs hs).shaped (sh_hs []).shaped ⟨_, rfl, ?_⟩
            have e8 : PyData.eqv (.list (hs.map hD)) (.list []) = hs.isEmpty := eqv_hs hs
            rw [e8]
            have keep : ∀ c u, H3 c = some u → c ≠ ph → (upd H3 pe (.lst [])) c = some u := fun c u e _ => se _ _ e
            have back : ∀ c, (upd H3 pe (.lst [])) c = none → H3 c = none := none_same se
            have eph := se _ _ exs
            rcases hist_cases hs with rfl | ⟨A0, h, rfl⟩
            · walk_at "go"
              rw [popH_nil]
              refine ⟨?_, keep, back, xs, eph, dxs⟩
              rw [ht]; rfl
            · have hne : (A0 ++ [h]).isEmpty = false := by cases A0 <;> rfl
              rw [hne]
              rw [List.map_append] at dxs
              obtain ⟨xs0, y, rfl, d0, dy⟩ := dp_snoc dxs
              obtain ⟨ay, vy, rfl, qy, dvy⟩ := dp_rowD dy
              have qy' := se.sqt (S3.sU.sqt qy)
              walk_at "go"
              refine ⟨ph, _, _, .ref ay, rfl, rfl, SqL.of eph, atI_last _ _, ?_⟩
              walk_at "go"
              refine t_eq (.int h.1) (e := .int t) (by rw [ht]; exact Dp.int _) (sh_int _).shaped (sh_int _).shaped ⟨_, rfl, ?_⟩
              rw [popH_snoc]
              have e7 : PyData.eqv (.int h.1) (.int t) = decide (h.1 = t) := by
                exact (eqv_sD (some h.1) t).trans (decide_eq_decide.mpr ⟨Option.some.inj, fun z => by rw [z]⟩)
              rw [e7]
              by_cases c : h.1 = t
              · rw [decide_eq_true c, if_pos c]
                walk_at "go"
                refine ⟨.inl ⟨rfl, _, SqL.of eph⟩, ?_⟩
                refine ⟨ph, _, .ref ay, rfl, rfl, eph, by simp, ?_⟩
                rw [List.dropLast_concat]
                refine ⟨?_, fun c u e n => ?_, none_poke_of back (by rw [eph]; exact fun z => by cases z), xs0, upd_same, d0⟩
                · rw [ht]; rfl
                · rw [upd_ne n]; exact keep c u e n
              · rw [decide_eq_false c, if_neg c]
                walk_at "go"
                refine ⟨?_, keep, back, _, eph, ?_⟩
                · rw [ht]; rfl
                · rw [List.map_append]; exact dxs
          rintro σ' H4 ⟨rfl, keep, back, xs', exs', dxs'⟩
          obtain ⟨dx3, eo3⟩ := S3.pt.ob
          obtain ⟨yr, er3, dyr⟩ := S3.pt.ls
          have eo4 := keep _ _ eo3 S3.hne
          have er4 := keep _ _ er3 S3.ne.symm
          have sU4 : Same U2 H4 := fun c u e => keep c u (S3.sU c u e) (fun z => by rw [z, S3.uh] at e; cases e)
          walk_at "go"
          refine ⟨.inl ⟨rfl, _, SqL.of exs'⟩, ?_⟩
          walk_at "go"
          rename_i p2 hp2
          have x5 := Ext.new (o := .tup [.int t, v]) sU4 hp2
          have s5 := same_upd (o := .tup [.int t, v]) (none_of_same sU4 hp2)
          have d5 : Dp K (upd U2 p2 (.tup [.int t, v])) (.ref p2) (hD (t, now)) := .tup (SqT.of upd_same) (.cons (.int _) (.cons (dv.to s5) .nil))
          have dv5 := dv.to s5
          have exs5 := x5.hh _ _ exs'
          have eo5 := x5.hh _ _ eo4
          have er5 := x5.hh _ _ er4
          have uo5 := x5.keepOut S3.uo (by rw [eo4]; exact fun z => by cases z)
          have ur5 := x5.keepOut S3.up (by rw [er4]; exact fun z => by cases z)
          have uh5 := x5.keepOut S3.uh (by rw [exs']; exact fun z => by cases z)
          have dxs5 := dxs'.to x5.vv
          have sa5 := x5.vv.seq S3.sa
          have pl := pop_len hs t
          have hl5 := S3.len
          have lx5 : xs'.length ≤ 200 := by rw [dpall_len dxs', List.length_map]; omega
          refine ⟨ph, _, _, rfl, rfl, exs5, lt_line (by omega), ?_⟩
          have g6 := x5.grow.poke (o := .lst (xs' ++ [.ref p2])) uh5
          have hne := S3.hne
          have eo6 : (upd (upd H4 p2 (.tup [.int t, v])) ph (.lst (xs' ++ [.ref p2]))) o = some (.ins A.CPainted dx3 (pF pr)) := by rw [upd_ne hne]; exact eo5
          have er6 : (upd (upd H4 p2 (.tup [.int t, v])) ph (.lst (xs' ++ [.ref p2]))) pr = some (.lst yr) := by rw [upd_ne S3.ne.symm]; exact er5
          have eh6 : (upd (upd H4 p2 (.tup [.int t, v])) ph (.lst (xs' ++ [.ref p2]))) ph = some (.lst (xs' ++ [.ref p2])) := upd_same
          generalize upd (upd H4 p2 (.tup [.int t, v])) ph (.lst (xs' ++ [.ref p2])) = H6 at g6 eo6 er6 eh6 ⊢
          generalize upd U2 p2 (.tup [.int t, v]) = U6 at g6 d5 dv5 uo5 ur5 uh5 dxs5 sa5 x5 s5
          obtain ⟨R0, r, hR⟩ := snoc_of (latR_ne (lim := l0) (toF_ne hs))
          have okh : histOk hs := ⟨by omega, S3.oks, S3.pw⟩
          have okR := latR_ok (lim := l0) (toF_ok okh)
          have tmR := latR_timed (lim := l0) (toF_timed hs)
          have hRl : R0.length < 900 := by
            have h1 := latR_le (toF hs) l0
            rw [hR, List.length_append] at h1
            have h2 : (toF hs).length = hs.length + 1 := by show (hs.map toR).length + 1 = _; rw [List.length_map]
            omega
          have pt6 : PtAt A.CPainted K U6 H6 o pr (R0 ++ [r]) := by
            rw [← hR]
            exact ⟨⟨dx3, eo6⟩, yr, er6, dyr.to (by first | exact s5 | exact x5.vv)⟩
          have letime : ∀ h ∈ hs, h.1 ≤ t := fun h hh => by have := S3.le h hh; omega
          have lo2 : l0 ≤ t - 1000 := by have := S3.lo; omega
          rw [hR] at okR tmR
          walk_at "go"
          refine ⟨o, dx3, _, rfl, eo6, pF_no _ (by decide +kernel), ?_⟩
          walk_at "go"
          refine ⟨o, pr, R0, r, t, v, now, U6, rfl, pt6, g6.vh, uo5, ur5, dv5, okn, tmR, okR, hRl, fun pr' U7 H7 g7 pt7 np7 up7 b7 => ?_⟩
          rw [paint_eq now S3.pw letime lo2 hR] at pt7
          have eh7 := b7 _ _ eh6 hne.symm S3.ne
          exact ⟨ph, pr', popH hs t ++ [(t, now)], t, t - 1000, U7, rfl, ⟨g7.vh, g7.keepOut uo5 (by rw [eo6]; exact fun z => by cases z), up7, g7.keepOut uh5 (by rw [eh6]; exact fun z => by cases z), fun z => (by rw [z, np7] at eh6; cases eh6), g7.vv.seq sa5, pt7, ⟨_, eh7, by rw [List.map_append]; exact dpall_app (dxs5.to g7.vv) (.cons (d5.to g7.vv) .nil)⟩, (by rw [List.length_append]; show _ + 1 ≤ _; omega), fun h hh => (by
            rcases List.mem_append.mp hh with hh | hh
            · exact S3.oks h (pop_mem h hh)
            · rw [List.mem_singleton.mp hh]; exact okn), pop_pw now S3.pw letime, fun h hh => (by
            rcases List.mem_append.mp hh with hh | hh
            · exact letime h (pop_mem h hh)
            · rw [List.mem_singleton.mp hh]; exact Int.le_refl _), Int.le_refl _⟩, dv5.to g7.vv⟩
        · have S2' : LawS K A.CPainted ns a o ph pr hs time l0 (i + 1) U2 H2 := { S2 with len := Nat.le_succ_of_le S2.len }
          walk_at "go"
          refine iteP (fun hc2 => ?_) (fun hc2 => ?_)
          · walk_at "go"
            refine iteP (fun hc3 => ?_) (fun hc3 => ?_)
            · obtain ⟨dx3, eo3⟩ := S2.pt.ob
              obtain ⟨xs, exs, dxs⟩ := S2.hl
              have hl5 := S2.len
              have okh : histOk hs := ⟨by omega, S2.oks, S2.pw⟩
              walk_at "go"
              refine ⟨o, dx3, _, rfl, eo3, pF_no _ (by decide +kernel), ?_⟩
              walk_at "go"
              refine ⟨o, pr, latR (toF hs) l0, row / 12 % 2, U2, rfl, S2.pt, S2.sU, S2.uo, latR_ok (toF_ok okh), fun pr' U3 H3 g3 pt3 np3 up3 b3 => ?_⟩
              have eh3 := b3 _ _ exs S2.hne.symm
              obtain ⟨dx4, eo4⟩ := pt3.ob
              obtain ⟨yr4, er4, _⟩ := pt3.ls
              rw [← latR_map, ← toF_dis] at pt3
              walk_at "go"
              refine ⟨ph, xs, hs, row / 12 % 2, U3, rfl, eh3, dxs.to g3.vv, g3.vh, by omega, S2.oks, fun p ys U4 H4 x4 np4 up4 e4 d4 => ?_⟩
              exact ⟨p, pr', (hs.map fun (h : Int × Scn) => ((h.1, disS (row / 12 % 2) h.2) : Int × Scn)), time, l0, U4, rfl, ⟨x4.vh, x4.keepOut (g3.keepOut S2.uo (by rw [eo3]; exact fun z => by cases z)) (by rw [eo4]; exact fun z => by cases z), x4.keepOut up3 (by rw [er4]; exact fun z => by cases z), up4, fun z => (by rw [z, er4] at np4; cases np4), (g3.vv.trans x4.vv).seq S2.sa, pt3.same x4.hh x4.vv, ⟨_, e4, d4⟩, by rw [List.length_map]; omega, hist_dis_ok S2.oks, hist_dis_pw S2.pw, hist_dis_le S2.le, S2.lo⟩, dv.to (g3.vv.trans x4.vv)⟩
            · walk_at "go"
              exact ⟨ph, pr, hs, time, l0, U2, rfl, S2', dv⟩
          · walk_at "go"
            exact ⟨ph, pr, hs, time, l0, U2, rfl, S2', dv⟩
      rintro σ' H3 ⟨ph, pr, hs, time, l0, U3, rfl, S3, dv3⟩
      clear S2 dv x2
      refine ⟨fun σ' H' => ∃ (U' : Hp) (v' : V) (now' : Scn), σ' = [some (.ref a), some (.ref o), some (.ref ph), some (.int time), some (.int (0 + (i : Int))), some (.int row), some (.int (row % 4)), some v'] ∧ LawS K A.CPainted ns a o ph pr hs time l0 (i + 1) U' H' ∧ Dp K U' v' (scD now') ∧ OkS now', ?_, ?_⟩
      · obtain ⟨xs, exs, dxs⟩ := S3.hl
        walk_at "go"
        rename_i pe hpe
        have se := same_upd (o := .lst []) hpe
        have dH : Dp K H3 (.ref ph) (.list (hs.map hD)) := .lst (SqL.of exs) (dxs.to S3.sU)
        have S4 := S3.grow (Ext.skip (o := .lst []) S3.sU hpe)
        refine t_ne (dH.to se) (.lst (SqL.of upd_same) .nil) (sh_hs hs).shaped (sh_hs []).shaped ⟨_, rfl, ?_⟩
        have e8 : PyData.eqv (.list (hs.map hD)) (.list []) = hs.isEmpty := eqv_hs hs
        rw [e8]
        have eph := se _ _ exs
        clear S3 dH hpe
        rcases hist_cases hs with rfl | ⟨A0, h, rfl⟩
        · walk_at "go"
          exact ⟨U3, v, now, rfl, S4, dv3, okn⟩
        · have hne : (A0 ++ [h]).isEmpty = false := by cases A0 <;> rfl
          rw [hne]
          rw [List.map_append] at dxs
          obtain ⟨xs0, y, rfl, d0, dy⟩ := dp_snoc dxs
          obtain ⟨ay, vy, rfl, qy, dvy⟩ := dp_rowD dy
          have qy' := S4.sU.sqt qy
          walk_at "go"
          refine ⟨ph, _, _, .ref ay, rfl, rfl, SqL.of eph, atI_last _ _, ?_⟩
          walk_at "go"
          rename_i pt hpt
          obtain ⟨z, nz, hat, dz, oz⟩ : ∃ (z : V) (nz : Scn), atI [v, vy] (row / 8 % 2) = some z ∧ Dp K U3 z (scD nz) ∧ OkS nz := by
            rcases (by omega : row / 8 % 2 = 0 ∨ row / 8 % 2 = 1) with e | e <;> rw [e]
            · exact ⟨v, now, atI_nat (j := 0) rfl, dv3, okn⟩
            · exact ⟨vy, h.2, atI_nat (j := 1) rfl, dvy, S4.oks h (List.mem_append_right _ (List.mem_singleton.mpr rfl))⟩
          refine ⟨pt, _, _, z, rfl, rfl, SqT.of upd_same, hat, ?_⟩
          walk_at "go"
          exact ⟨U3, z, nz, rfl, S4.grow (Ext.skip S4.sU hpt), dz, oz⟩
      rintro σ' H4 ⟨U4, v', now', rfl, S4, dv4, okn4⟩
      clear S3 dv3
      walk_at "go"
      rename_i pt hpt
      obtain ⟨d, hat, hd⟩ : ∃ d : Int, atI [V.int 0, V.int 1, V.int 99, V.int 600] (row / 9 % 4) = some (.int d) ∧ 0 ≤ d := by
        rcases (by omega : row / 9 % 4 = 0 ∨ row / 9 % 4 = 1 ∨ row / 9 % 4 = 2 ∨ row / 9 % 4 = 3) with h | h | h | h <;> rw [h]
        · exact ⟨0, atI_nat (j := 0) rfl, by decide⟩
        · exact ⟨1, atI_nat (j := 1) rfl, by decide⟩
        · exact ⟨99, atI_nat (j := 2) rfl, by decide⟩
        · exact ⟨600, atI_nat (j := 3) rfl, by decide⟩
      refine ⟨pt, _, _, _, rfl, rfl, SqT.of upd_same, hat, ?_⟩
      have S5 := S4.grow (Ext.skip (o := .tup [V.int 0, V.int 1, V.int 99, V.int 600]) S4.sU hpt)
      clear S4 hpt
      generalize upd H4 pt (.tup [V.int 0, V.int 1, V.int 99, V.int 600]) = H5 at S5
      obtain ⟨xs, exs, dxs⟩ := S5.hl
      have hl5 := S5.len
      have lo5 := S5.lo
      walk_at "go"
      refine ⟨o, pr, ph, xs, hs, v', now', row / 7, time + d, l0, U4, rfl, S5.pt, exs, dxs, S5.sU, dv4, okn4, ⟨by omega, S5.oks, S5.pw⟩, by omega, fun H6 s6 => ?_⟩
      have S6 := S5.grow ((Ext.refl S5.sU).later s6)
      clear S5
      walk_at "go"
      exact ⟨ph, pr, hs, time, l0, U4, _, _, _, _, rfl, S6⟩
    · rintro σ H1 ⟨ph, pr, hs, time, l0, U, v4, v5, v6, v7, rfl, S⟩
      exact q _
end
theorem all_mk {K : PySem.W.Frag} {h : Heap} {mg : Str → Option Value} {fa : Addr} (X : K.In h) (G : h.Ns mainGlobals mg) (hfa : mg "law" = some (.ref fa))
    {fhas_point : Addr} {od1 an1 : Option Addr} {sl1 : Array (Option Value)} {oc1 kV1 dc1 pm1 cd1 ct1 : Value}
    {ftop_cover : Addr} {od2 an2 : Option Addr} {sl2 : Array (Option Value)} {oc2 kV2 dc2 pm2 cd2 ct2 : Value}
    {f_has_point_in : Addr} {od3 an3 : Option Addr} {sl3 : Array (Option Value)} {oc3 kV3 dc3 pm3 cd3 ct3 : Value}
    {f_disowned : Addr} {od4 an4 : Option Addr} {sl4 : Array (Option Value)} {oc4 kV4 dc4 pm4 cd4 ct4 : Value}
    {f_window_at : Addr} {od5 an5 : Option Addr} {sl5 : Array (Option Value)} {oc5 kV5 dc5 pm5 cd5 ct5 : Value}
    {f_framed_at : Addr} {od6 an6 : Option Addr} {sl6 : Array (Option Value)} {oc6 kV6 dc6 pm6 cd6 ct6 : Value}
    {f_law_cell : Addr} {od7 an7 : Option Addr} {sl7 : Array (Option Value)} {oc7 kV7 dc7 pm7 cd7 ct7 : Value}
    {f_law_row : Addr} {od8 an8 : Option Addr} {sl8 : Array (Option Value)} {oc8 kV8 dc8 pm8 cd8 ct8 : Value}
    {f_law_covers : Addr} {od9 an9 : Option Addr} {sl9 : Array (Option Value)} {oc9 kV9 dc9 pm9 cd9 ct9 : Value}
    {f_law_top : Addr} {od10 an10 : Option Addr} {sl10 : Array (Option Value)} {oc10 kV10 dc10 pm10 cd10 ct10 : Value}
    {f_law_owner : Addr} {od11 an11 : Option Addr} {sl11 : Array (Option Value)} {oc11 kV11 dc11 pm11 cd11 ct11 : Value}
    {f_law_disowned : Addr} {od12 an12 : Option Addr} {sl12 : Array (Option Value)} {oc12 kV12 dc12 pm12 cd12 ct12 : Value}
    {f_law_counting : Addr} {od13 an13 : Option Addr} {sl13 : Array (Option Value)} {oc13 kV13 dc13 pm13 cd13 ct13 : Value}
    {f_law_good : Addr} {od14 an14 : Option Addr} {sl14 : Array (Option Value)} {oc14 kV14 dc14 pm14 cd14 ct14 : Value}
    {flaw : Addr} {od15 an15 : Option Addr} {sl15 : Array (Option Value)} {oc15 kV15 dc15 pm15 cd15 ct15 : Value}
    {fPainted___init__ : Addr} {od16 an16 : Option Addr} {sl16 : Array (Option Value)} {oc16 kV16 dc16 pm16 cd16 ct16 : Value}
    {fPainted_paint : Addr} {od17 an17 : Option Addr} {sl17 : Array (Option Value)} {oc17 kV17 dc17 pm17 cd17 ct17 : Value}
    {fPainted_disown : Addr} {od18 an18 : Option Addr} {sl18 : Array (Option Value)} {oc18 kV18 dc18 pm18 cd18 ct18 : Value}
    {fPainted_scenes : Addr} {od19 an19 : Option Addr} {sl19 : Array (Option Value)} {oc19 kV19 dc19 pm19 cd19 ct19 : Value}
    {fPainted_is_settled : Addr} {od20 an20 : Option Addr} {sl20 : Array (Option Value)} {oc20 kV20 dc20 pm20 cd20 ct20 : Value}
    {fPainted_was_seen : Addr} {od21 an21 : Option Addr} {sl21 : Array (Option Value)} {oc21 kV21 dc21 pm21 cd21 ct21 : Value}
    {fPainted__latest : Addr} {od22 an22 : Option Addr} {sl22 : Array (Option Value)} {oc22 kV22 dc22 pm22 cd22 ct22 : Value}
    {tLONGEST_GUARD : Tok}
    {CPainted : Addr}
    (a1 : PySem.W.nsIn K mainGlobals "has_point" = some (some (.ref fhas_point)))
    (l1 : K.lookup fhas_point = some ⟨oc1, od1, .func (PySem.W.fnOf "has_point" "has_point" (defArgs s_has_point) (defBody s_has_point) (defScope s_has_point) .none kV1 dc1 pm1 an1 cd1 ct1), sl1⟩) (c1 : PySem.W.codeIn K cd1 "has_point" = true) (k1 : PySem.W.keepIn K (.ref fhas_point) = true)
    (a2 : PySem.W.nsIn K mainGlobals "top_cover" = some (some (.ref ftop_cover)))
    (l2 : K.lookup ftop_cover = some ⟨oc2, od2, .func (PySem.W.fnOf "top_cover" "top_cover" (defArgs s_top_cover) (defBody s_top_cover) (defScope s_top_cover) .none kV2 dc2 pm2 an2 cd2 ct2), sl2⟩) (c2 : PySem.W.codeIn K cd2 "top_cover" = true) (k2 : PySem.W.keepIn K (.ref ftop_cover) = true)
    (a3 : PySem.W.nsIn K mainGlobals "_has_point_in" = some (some (.ref f_has_point_in)))
    (l3 : K.lookup f_has_point_in = some ⟨oc3, od3, .func (PySem.W.fnOf "_has_point_in" "_has_point_in" (defArgs s__has_point_in) (defBody s__has_point_in) (defScope s__has_point_in) .none kV3 dc3 pm3 an3 cd3 ct3), sl3⟩) (c3 : PySem.W.codeIn K cd3 "_has_point_in" = true) (k3 : PySem.W.keepIn K (.ref f_has_point_in) = true)
    (a4 : PySem.W.nsIn K mainGlobals "_disowned" = some (some (.ref f_disowned)))
    (l4 : K.lookup f_disowned = some ⟨oc4, od4, .func (PySem.W.fnOf "_disowned" "_disowned" (defArgs s__disowned) (defBody s__disowned) (defScope s__disowned) .none kV4 dc4 pm4 an4 cd4 ct4), sl4⟩) (c4 : PySem.W.codeIn K cd4 "_disowned" = true) (k4 : PySem.W.keepIn K (.ref f_disowned) = true)
    (a5 : PySem.W.nsIn K mainGlobals "_window_at" = some (some (.ref f_window_at)))
    (l5 : K.lookup f_window_at = some ⟨oc5, od5, .func (PySem.W.fnOf "_window_at" "_window_at" (defArgs s__window_at) (defBody s__window_at) (defScope s__window_at) .none kV5 dc5 pm5 an5 cd5 ct5), sl5⟩) (c5 : PySem.W.codeIn K cd5 "_window_at" = true) (k5 : PySem.W.keepIn K (.ref f_window_at) = true)
    (a6 : PySem.W.nsIn K mainGlobals "_framed_at" = some (some (.ref f_framed_at)))
    (l6 : K.lookup f_framed_at = some ⟨oc6, od6, .func (PySem.W.fnOf "_framed_at" "_framed_at" (defArgs s__framed_at) (defBody s__framed_at) (defScope s__framed_at) .none kV6 dc6 pm6 an6 cd6 ct6), sl6⟩) (c6 : PySem.W.codeIn K cd6 "_framed_at" = true) (k6 : PySem.W.keepIn K (.ref f_framed_at) = true)
    (a7 : PySem.W.nsIn K mainGlobals "_law_cell" = some (some (.ref f_law_cell)))
    (l7 : K.lookup f_law_cell = some ⟨oc7, od7, .func (PySem.W.fnOf "_law_cell" "_law_cell" (defArgs s__law_cell) (defBody s__law_cell) (defScope s__law_cell) .none kV7 dc7 pm7 an7 cd7 ct7), sl7⟩) (c7 : PySem.W.codeIn K cd7 "_law_cell" = true) (k7 : PySem.W.keepIn K (.ref f_law_cell) = true)
    (a8 : PySem.W.nsIn K mainGlobals "_law_row" = some (some (.ref f_law_row)))
    (l8 : K.lookup f_law_row = some ⟨oc8, od8, .func (PySem.W.fnOf "_law_row" "_law_row" (defArgs s__law_row) (defBody s__law_row) (defScope s__law_row) .none kV8 dc8 pm8 an8 cd8 ct8), sl8⟩) (c8 : PySem.W.codeIn K cd8 "_law_row" = true) (k8 : PySem.W.keepIn K (.ref f_law_row) = true)
    (a9 : PySem.W.nsIn K mainGlobals "_law_covers" = some (some (.ref f_law_covers)))
    (l9 : K.lookup f_law_covers = some ⟨oc9, od9, .func (PySem.W.fnOf "_law_covers" "_law_covers" (defArgs s__law_covers) (defBody s__law_covers) (defScope s__law_covers) .none kV9 dc9 pm9 an9 cd9 ct9), sl9⟩) (c9 : PySem.W.codeIn K cd9 "_law_covers" = true) (k9 : PySem.W.keepIn K (.ref f_law_covers) = true)
    (a10 : PySem.W.nsIn K mainGlobals "_law_top" = some (some (.ref f_law_top)))
    (l10 : K.lookup f_law_top = some ⟨oc10, od10, .func (PySem.W.fnOf "_law_top" "_law_top" (defArgs s__law_top) (defBody s__law_top) (defScope s__law_top) .none kV10 dc10 pm10 an10 cd10 ct10), sl10⟩) (c10 : PySem.W.codeIn K cd10 "_law_top" = true) (k10 : PySem.W.keepIn K (.ref f_law_top) = true)
    (a11 : PySem.W.nsIn K mainGlobals "_law_owner" = some (some (.ref f_law_owner)))
    (l11 : K.lookup f_law_owner = some ⟨oc11, od11, .func (PySem.W.fnOf "_law_owner" "_law_owner" (defArgs s__law_owner) (defBody s__law_owner) (defScope s__law_owner) .none kV11 dc11 pm11 an11 cd11 ct11), sl11⟩) (c11 : PySem.W.codeIn K cd11 "_law_owner" = true) (k11 : PySem.W.keepIn K (.ref f_law_owner) = true)
    (a12 : PySem.W.nsIn K mainGlobals "_law_disowned" = some (some (.ref f_law_disowned)))
    (l12 : K.lookup f_law_disowned = some ⟨oc12, od12, .func (PySem.W.fnOf "_law_disowned" "_law_disowned" (defArgs s__law_disowned) (defBody s__law_disowned) (defScope s__law_disowned) .none kV12 dc12 pm12 an12 cd12 ct12), sl12⟩) (c12 : PySem.W.codeIn K cd12 "_law_disowned" = true) (k12 : PySem.W.keepIn K (.ref f_law_disowned) = true)
    (a13 : PySem.W.nsIn K mainGlobals "_law_counting" = some (some (.ref f_law_counting)))
    (l13 : K.lookup f_law_counting = some ⟨oc13, od13, .func (PySem.W.fnOf "_law_counting" "_law_counting" (defArgs s__law_counting) (defBody s__law_counting) (defScope s__law_counting) .none kV13 dc13 pm13 an13 cd13 ct13), sl13⟩) (c13 : PySem.W.codeIn K cd13 "_law_counting" = true) (k13 : PySem.W.keepIn K (.ref f_law_counting) = true)
    (a14 : PySem.W.nsIn K mainGlobals "_law_good" = some (some (.ref f_law_good)))
    (l14 : K.lookup f_law_good = some ⟨oc14, od14, .func (PySem.W.fnOf "_law_good" "_law_good" (defArgs s__law_good) (defBody s__law_good) (defScope s__law_good) .none kV14 dc14 pm14 an14 cd14 ct14), sl14⟩) (c14 : PySem.W.codeIn K cd14 "_law_good" = true) (k14 : PySem.W.keepIn K (.ref f_law_good) = true)
    (a15 : PySem.W.nsIn K mainGlobals "law" = some (some (.ref flaw)))
    (l15 : K.lookup flaw = some ⟨oc15, od15, .func (PySem.W.fnOf "law" "law" (defArgs s_law) (defBody s_law) (defScope s_law) .none kV15 dc15 pm15 an15 cd15 ct15), sl15⟩) (c15 : PySem.W.codeIn K cd15 "law" = true) (k15 : PySem.W.keepIn K (.ref flaw) = true)
    (a16 : PySem.W.findIn K (.ref CPainted) "__init__" = some (some (.ref fPainted___init__)))
    (i16 : PySem.W.isFn K (.ref fPainted___init__) = true)
    (l16 : K.lookup fPainted___init__ = some ⟨oc16, od16, .func (PySem.W.fnOf "__init__" "Painted.__init__" (defArgs s_Painted___init__) (defBody s_Painted___init__) (defScope s_Painted___init__) .none kV16 dc16 pm16 an16 cd16 ct16), sl16⟩) (c16 : PySem.W.codeIn K cd16 "Painted.__init__" = true) (k16 : PySem.W.keepIn K (.ref fPainted___init__) = true)
    (a17 : PySem.W.findIn K (.ref CPainted) "paint" = some (some (.ref fPainted_paint)))
    (i17 : PySem.W.isFn K (.ref fPainted_paint) = true)
    (l17 : K.lookup fPainted_paint = some ⟨oc17, od17, .func (PySem.W.fnOf "paint" "Painted.paint" (defArgs s_Painted_paint) (defBody s_Painted_paint) (defScope s_Painted_paint) .none kV17 dc17 pm17 an17 cd17 ct17), sl17⟩) (c17 : PySem.W.codeIn K cd17 "Painted.paint" = true) (k17 : PySem.W.keepIn K (.ref fPainted_paint) = true)
    (a18 : PySem.W.findIn K (.ref CPainted) "disown" = some (some (.ref fPainted_disown)))
    (i18 : PySem.W.isFn K (.ref fPainted_disown) = true)
    (l18 : K.lookup fPainted_disown = some ⟨oc18, od18, .func (PySem.W.fnOf "disown" "Painted.disown" (defArgs s_Painted_disown) (defBody s_Painted_disown) (defScope s_Painted_disown) .none kV18 dc18 pm18 an18 cd18 ct18), sl18⟩) (c18 : PySem.W.codeIn K cd18 "Painted.disown" = true) (k18 : PySem.W.keepIn K (.ref fPainted_disown) = true)
    (a19 : PySem.W.findIn K (.ref CPainted) "scenes" = some (some (.ref fPainted_scenes)))
    (i19 : PySem.W.isFn K (.ref fPainted_scenes) = true)
    (l19 : K.lookup fPainted_scenes = some ⟨oc19, od19, .func (PySem.W.fnOf "scenes" "Painted.scenes" (defArgs s_Painted_scenes) (defBody s_Painted_scenes) (defScope s_Painted_scenes) .none kV19 dc19 pm19 an19 cd19 ct19), sl19⟩) (c19 : PySem.W.codeIn K cd19 "Painted.scenes" = true) (k19 : PySem.W.keepIn K (.ref fPainted_scenes) = true)
    (a20 : PySem.W.findIn K (.ref CPainted) "is_settled" = some (some (.ref fPainted_is_settled)))
    (i20 : PySem.W.isFn K (.ref fPainted_is_settled) = true)
    (l20 : K.lookup fPainted_is_settled = some ⟨oc20, od20, .func (PySem.W.fnOf "is_settled" "Painted.is_settled" (defArgs s_Painted_is_settled) (defBody s_Painted_is_settled) (defScope s_Painted_is_settled) .none kV20 dc20 pm20 an20 cd20 ct20), sl20⟩) (c20 : PySem.W.codeIn K cd20 "Painted.is_settled" = true) (k20 : PySem.W.keepIn K (.ref fPainted_is_settled) = true)
    (a21 : PySem.W.findIn K (.ref CPainted) "was_seen" = some (some (.ref fPainted_was_seen)))
    (i21 : PySem.W.isFn K (.ref fPainted_was_seen) = true)
    (l21 : K.lookup fPainted_was_seen = some ⟨oc21, od21, .func (PySem.W.fnOf "was_seen" "Painted.was_seen" (defArgs s_Painted_was_seen) (defBody s_Painted_was_seen) (defScope s_Painted_was_seen) .none kV21 dc21 pm21 an21 cd21 ct21), sl21⟩) (c21 : PySem.W.codeIn K cd21 "Painted.was_seen" = true) (k21 : PySem.W.keepIn K (.ref fPainted_was_seen) = true)
    (a22 : PySem.W.findIn K (.ref CPainted) "_latest" = some (some (.ref fPainted__latest)))
    (i22 : PySem.W.isFn K (.ref fPainted__latest) = true)
    (l22 : K.lookup fPainted__latest = some ⟨oc22, od22, .func (PySem.W.fnOf "_latest" "Painted._latest" (defArgs s_Painted__latest) (defBody s_Painted__latest) (defScope s_Painted__latest) .none kV22 dc22 pm22 an22 cd22 ct22), sl22⟩) (c22 : PySem.W.codeIn K cd22 "Painted._latest" = true) (k22 : PySem.W.keepIn K (.ref fPainted__latest) = true)
    (z_all : PySem.W.nsIn K mainGlobals "all" = some none)
    (z_any : PySem.W.nsIn K mainGlobals "any" = some none)
    (z_int : PySem.W.nsIn K mainGlobals "int" = some none)
    (z_len : PySem.W.nsIn K mainGlobals "len" = some none)
    (z_list : PySem.W.nsIn K mainGlobals "list" = some none)
    (z_min : PySem.W.nsIn K mainGlobals "min" = some none)
    (z_range : PySem.W.nsIn K mainGlobals "range" = some none)
    (z_reversed : PySem.W.nsIn K mainGlobals "reversed" = some none)
    (z_zip : PySem.W.nsIn K mainGlobals "zip" = some none)
    (q_LONGEST_GUARD : PySem.W.nsIn K mainGlobals "LONGEST_GUARD" = some (some (.int (1000) tLONGEST_GUARD)))
    (uPainted : PySem.W.nsIn K mainGlobals "Painted" = some (some (.ref CPainted)))
    (pgPainted : PySem.W.plainGet K CPainted Str.empty = true) (hdPainted : PySem.W.hasDictIn K CPainted = true) (poPainted : PySem.W.plainOver K CPainted = true) (saPainted : PySem.W.findIn K (.ref CPainted) "__setattr__" = some (some (.builtin "object.__setattr__"))) (mkPainted : PySem.W.makesIn K CPainted = true) (kcPainted : PySem.W.keepIn K (.ref CPainted) = true)
    (nPainted__rows : PySem.W.findIn K (.ref CPainted) "_rows" = some none)
    : ∃ A : Adr, A.flaw = fa ∧ Txt K mg A ∧ (∀ (s : Shared) (v : Value), BindsTo s A.dlaw ⟨[v], []⟩ [("script", v)]) := by
  have e := hfa.symm.trans (PySem.W.mg_of X G a15)
  cases e
  have F1 := fun_mk (st := s_has_point) l1 c1 k1
  have b1 := F1.binds (ps := ["rectangle", "x", "y"]) fun _ _ _ _ _ _ us hl => match us, hl with | [_, _, _], _ => rfl
  have F2 := fun_mk (st := s_top_cover) l2 c2 k2
  have b2 := F2.binds (ps := ["covers", "x", "y"]) fun _ _ _ _ _ _ us hl => match us, hl with | [_, _, _], _ => rfl
  have F3 := fun_mk (st := s__has_point_in) l3 c3 k3
  have b3 := F3.binds (ps := ["rectangles", "x", "y"]) fun _ _ _ _ _ _ us hl => match us, hl with | [_, _, _], _ => rfl
  have F4 := fun_mk (st := s__disowned) l4 c4 k4
  have b4 := F4.binds (ps := ["cover", "slot"]) fun _ _ _ _ _ _ us hl => match us, hl with | [_, _], _ => rfl
  have F5 := fun_mk (st := s__window_at) l5 c5 k5
  have b5 := F5.binds (ps := ["covers", "x", "y"]) fun _ _ _ _ _ _ us hl => match us, hl with | [_, _, _], _ => rfl
  have F6 := fun_mk (st := s__framed_at) l6 c6 k6
  have b6 := F6.binds (ps := ["covers", "x", "y"]) fun _ _ _ _ _ _ us hl => match us, hl with | [_, _, _], _ => rfl
  have F7 := fun_mk (st := s__law_cell) l7 c7 k7
  have b7 := F7.binds (ps := ["script", "k"]) fun _ _ _ _ _ _ us hl => match us, hl with | [_, _], _ => rfl
  have F8 := fun_mk (st := s__law_row) l8 c8 k8
  have b8 := F8.binds (ps := ["script", "k"]) fun _ _ _ _ _ _ us hl => match us, hl with | [_, _], _ => rfl
  have F9 := fun_mk (st := s__law_covers) l9 c9 k9
  have b9 := F9.binds (ps := ["row"]) fun _ _ _ _ _ _ us hl => match us, hl with | [_], _ => rfl
  have F10 := fun_mk (st := s__law_top) l10 c10 k10
  have b10 := F10.binds (ps := ["covers", "x", "y"]) fun _ _ _ _ _ _ us hl => match us, hl with | [_, _, _], _ => rfl
  have F11 := fun_mk (st := s__law_owner) l11 c11 k11
  have b11 := F11.binds (ps := ["covers", "x", "y", "seen"]) fun _ _ _ _ _ _ us hl => match us, hl with | [_, _, _, _], _ => rfl
  have F12 := fun_mk (st := s__law_disowned) l12 c12 k12
  have b12 := F12.binds (ps := ["history", "slot"]) fun _ _ _ _ _ _ us hl => match us, hl with | [_, _], _ => rfl
  have F13 := fun_mk (st := s__law_counting) l13 c13 k13
  have b13 := F13.binds (ps := ["history", "time", "guard"]) fun _ _ _ _ _ _ us hl => match us, hl with | [_, _, _], _ => rfl
  have F14 := fun_mk (st := s__law_good) l14 c14 k14
  have b14 := F14.binds (ps := ["painted", "history", "now", "row", "time"]) fun _ _ _ _ _ _ us hl => match us, hl with | [_, _, _, _, _], _ => rfl
  have F15 := fun_mk (st := s_law) l15 c15 k15
  have b15 := F15.binds (ps := ["script"]) fun _ _ _ _ _ _ us hl => match us, hl with | [_], _ => rfl
  have F16 := fun_mk (st := s_Painted___init__) l16 c16 k16
  have b16 := F16.binds (ps := ["self"]) fun _ _ _ _ _ _ us hl => match us, hl with | [_], _ => rfl
  have F17 := fun_mk (st := s_Painted_paint) l17 c17 k17
  have b17 := F17.binds (ps := ["self", "time", "covers"]) fun _ _ _ _ _ _ us hl => match us, hl with | [_, _, _], _ => rfl
  have F18 := fun_mk (st := s_Painted_disown) l18 c18 k18
  have b18 := F18.binds (ps := ["self", "slot"]) fun _ _ _ _ _ _ us hl => match us, hl with | [_, _], _ => rfl
  have F19 := fun_mk (st := s_Painted_scenes) l19 c19 k19
  have b19 := F19.binds (ps := ["self", "time", "guard"]) fun _ _ _ _ _ _ us hl => match us, hl with | [_, _, _], _ => rfl
  have F20 := fun_mk (st := s_Painted_is_settled) l20 c20 k20
  have b20 := F20.binds (ps := ["self", "covers", "time", "guard", "x", "y"]) fun _ _ _ _ _ _ us hl => match us, hl with | [_, _, _, _, _, _], _ => rfl
  have F21 := fun_mk (st := s_Painted_was_seen) l21 c21 k21
  have b21 := F21.binds (ps := ["self", "covers", "time", "guard", "x", "y"]) fun _ _ _ _ _ _ us hl => match us, hl with | [_, _, _, _, _, _], _ => rfl
  have F22 := fun_mk (st := s_Painted__latest) l22 c22 k22
  have b22 := F22.binds (ps := ["self", "limit"]) fun _ _ _ _ _ _ us hl => match us, hl with | [_, _], _ => rfl
  refine ⟨{ fhas_point := fhas_point, dhas_point := (PySem.W.fnOf "has_point" "has_point" (defArgs s_has_point) (defBody s_has_point) (defScope s_has_point) .none kV1 dc1 pm1 an1 cd1 ct1), ftop_cover := ftop_cover, dtop_cover := (PySem.W.fnOf "top_cover" "top_cover" (defArgs s_top_cover) (defBody s_top_cover) (defScope s_top_cover) .none kV2 dc2 pm2 an2 cd2 ct2), f_has_point_in := f_has_point_in, d_has_point_in := (PySem.W.fnOf "_has_point_in" "_has_point_in" (defArgs s__has_point_in) (defBody s__has_point_in) (defScope s__has_point_in) .none kV3 dc3 pm3 an3 cd3 ct3), f_disowned := f_disowned, d_disowned := (PySem.W.fnOf "_disowned" "_disowned" (defArgs s__disowned) (defBody s__disowned) (defScope s__disowned) .none kV4 dc4 pm4 an4 cd4 ct4), f_window_at := f_window_at, d_window_at := (PySem.W.fnOf "_window_at" "_window_at" (defArgs s__window_at) (defBody s__window_at) (defScope s__window_at) .none kV5 dc5 pm5 an5 cd5 ct5), f_framed_at := f_framed_at, d_framed_at := (PySem.W.fnOf "_framed_at" "_framed_at" (defArgs s__framed_at) (defBody s__framed_at) (defScope s__framed_at) .none kV6 dc6 pm6 an6 cd6 ct6), f_law_cell := f_law_cell, d_law_cell := (PySem.W.fnOf "_law_cell" "_law_cell" (defArgs s__law_cell) (defBody s__law_cell) (defScope s__law_cell) .none kV7 dc7 pm7 an7 cd7 ct7), f_law_row := f_law_row, d_law_row := (PySem.W.fnOf "_law_row" "_law_row" (defArgs s__law_row) (defBody s__law_row) (defScope s__law_row) .none kV8 dc8 pm8 an8 cd8 ct8), f_law_covers := f_law_covers, d_law_covers := (PySem.W.fnOf "_law_covers" "_law_covers" (defArgs s__law_covers) (defBody s__law_covers) (defScope s__law_covers) .none kV9 dc9 pm9 an9 cd9 ct9), f_law_top := f_law_top, d_law_top := (PySem.W.fnOf "_law_top" "_law_top" (defArgs s__law_top) (defBody s__law_top) (defScope s__law_top) .none kV10 dc10 pm10 an10 cd10 ct10), f_law_owner := f_law_owner, d_law_owner := (PySem.W.fnOf "_law_owner" "_law_owner" (defArgs s__law_owner) (defBody s__law_owner) (defScope s__law_owner) .none kV11 dc11 pm11 an11 cd11 ct11), f_law_disowned := f_law_disowned, d_law_disowned := (PySem.W.fnOf "_law_disowned" "_law_disowned" (defArgs s__law_disowned) (defBody s__law_disowned) (defScope s__law_disowned) .none kV12 dc12 pm12 an12 cd12 ct12), f_law_counting := f_law_counting, d_law_counting := (PySem.W.fnOf "_law_counting" "_law_counting" (defArgs s__law_counting) (defBody s__law_counting) (defScope s__law_counting) .none kV13 dc13 pm13 an13 cd13 ct13), f_law_good := f_law_good, d_law_good := (PySem.W.fnOf "_law_good" "_law_good" (defArgs s__law_good) (defBody s__law_good) (defScope s__law_good) .none kV14 dc14 pm14 an14 cd14 ct14), flaw := fa, dlaw := (PySem.W.fnOf "law" "law" (defArgs s_law) (defBody s_law) (defScope s_law) .none kV15 dc15 pm15 an15 cd15 ct15), fPainted___init__ := fPainted___init__, dPainted___init__ := (PySem.W.fnOf "__init__" "Painted.__init__" (defArgs s_Painted___init__) (defBody s_Painted___init__) (defScope s_Painted___init__) .none kV16 dc16 pm16 an16 cd16 ct16), fPainted_paint := fPainted_paint, dPainted_paint := (PySem.W.fnOf "paint" "Painted.paint" (defArgs s_Painted_paint) (defBody s_Painted_paint) (defScope s_Painted_paint) .none kV17 dc17 pm17 an17 cd17 ct17), fPainted_disown := fPainted_disown, dPainted_disown := (PySem.W.fnOf "disown" "Painted.disown" (defArgs s_Painted_disown) (defBody s_Painted_disown) (defScope s_Painted_disown) .none kV18 dc18 pm18 an18 cd18 ct18), fPainted_scenes := fPainted_scenes, dPainted_scenes := (PySem.W.fnOf "scenes" "Painted.scenes" (defArgs s_Painted_scenes) (defBody s_Painted_scenes) (defScope s_Painted_scenes) .none kV19 dc19 pm19 an19 cd19 ct19), fPainted_is_settled := fPainted_is_settled, dPainted_is_settled := (PySem.W.fnOf "is_settled" "Painted.is_settled" (defArgs s_Painted_is_settled) (defBody s_Painted_is_settled) (defScope s_Painted_is_settled) .none kV20 dc20 pm20 an20 cd20 ct20), fPainted_was_seen := fPainted_was_seen, dPainted_was_seen := (PySem.W.fnOf "was_seen" "Painted.was_seen" (defArgs s_Painted_was_seen) (defBody s_Painted_was_seen) (defScope s_Painted_was_seen) .none kV21 dc21 pm21 an21 cd21 ct21), fPainted__latest := fPainted__latest, dPainted__latest := (PySem.W.fnOf "_latest" "Painted._latest" (defArgs s_Painted__latest) (defBody s_Painted__latest) (defScope s_Painted__latest) .none kV22 dc22 pm22 an22 cd22 ct22), tLONGEST_GUARD := tLONGEST_GUARD, CPainted := CPainted }, rfl, { Fhas_point := F1, bhas_point := b1, ghas_point := PySem.W.mg_of X G a1, khas_point := k1, Ftop_cover := F2, btop_cover := b2, gtop_cover := PySem.W.mg_of X G a2, ktop_cover := k2, F_has_point_in := F3, b_has_point_in := b3, g_has_point_in := PySem.W.mg_of X G a3, k_has_point_in := k3, F_disowned := F4, b_disowned := b4, g_disowned := PySem.W.mg_of X G a4, k_disowned := k4, F_window_at := F5, b_window_at := b5, g_window_at := PySem.W.mg_of X G a5, k_window_at := k5, F_framed_at := F6, b_framed_at := b6, g_framed_at := PySem.W.mg_of X G a6, k_framed_at := k6, F_law_cell := F7, b_law_cell := b7, g_law_cell := PySem.W.mg_of X G a7, k_law_cell := k7, F_law_row := F8, b_law_row := b8, g_law_row := PySem.W.mg_of X G a8, k_law_row := k8, F_law_covers := F9, b_law_covers := b9, g_law_covers := PySem.W.mg_of X G a9, k_law_covers := k9, F_law_top := F10, b_law_top := b10, g_law_top := PySem.W.mg_of X G a10, k_law_top := k10, F_law_owner := F11, b_law_owner := b11, g_law_owner := PySem.W.mg_of X G a11, k_law_owner := k11, F_law_disowned := F12, b_law_disowned := b12, g_law_disowned := PySem.W.mg_of X G a12, k_law_disowned := k12, F_law_counting := F13, b_law_counting := b13, g_law_counting := PySem.W.mg_of X G a13, k_law_counting := k13, F_law_good := F14, b_law_good := b14, g_law_good := PySem.W.mg_of X G a14, k_law_good := k14, Flaw := F15, blaw := b15, glaw := PySem.W.mg_of X G a15, klaw := k15, FPainted___init__ := F16, bPainted___init__ := b16, MPainted := ⟨mkPainted, a16, i16, kcPainted⟩, FPainted_paint := F17, bPainted_paint := b17, mPainted_paint := ⟨a17, i17, k17⟩, FPainted_disown := F18, bPainted_disown := b18, mPainted_disown := ⟨a18, i18, k18⟩, FPainted_scenes := F19, bPainted_scenes := b19, mPainted_scenes := ⟨a19, i19, k19⟩, FPainted_is_settled := F20, bPainted_is_settled := b20, mPainted_is_settled := ⟨a20, i20, k20⟩, FPainted_was_seen := F21, bPainted_was_seen := b21, mPainted_was_seen := ⟨a21, i21, k21⟩, FPainted__latest := F22, bPainted__latest := b22, mPainted__latest := ⟨a22, i22, k22⟩, all := PySem.W.mg_none_of X G z_all, any := PySem.W.mg_none_of X G z_any, int := PySem.W.mg_none_of X G z_int, len := PySem.W.mg_none_of X G z_len, list := PySem.W.mg_none_of X G z_list, min := PySem.W.mg_none_of X G z_min, range := PySem.W.mg_none_of X G z_range, reversed := PySem.W.mg_none_of X G z_reversed, zip := PySem.W.mg_none_of X G z_zip, gLONGEST_GUARD := PySem.W.mg_of X G q_LONGEST_GUARD, clPainted := ⟨pgPainted, hdPainted, poPainted, saPainted⟩, gPainted := PySem.W.mg_of X G uPainted, nPainted__rows := nPainted__rows }, fun s v => .of_eq rfl⟩
theorem walk {l : PySem.W.OpenLaw} {q : Program} {loose : List Str} {XP : (Str → Option Value) → Heap → Prop} {YP : World → Heap → Prop} {d : DefRec} {K : Params → PySem.W.Frag} (hn : l.most = some 63) (hdf : d.params.defaults = [])
    (hY : ∀ (w : World) (h : Heap), YP w h → (K w.params).In h)
    (F : ∀ (w : World) (mg : Str → Option Value) (fa : Addr) (h : Heap), (K w.params).In h → h.Ns mainGlobals mg → mg d.name = some (.ref fa) →
      ∃ A : Adr, A.flaw = fa ∧ Txt (K w.params) mg A ∧ (∀ (s : Shared) (v : Value), BindsTo s A.dlaw ⟨[v], []⟩ [("script", v)])) :
    PySem.W.WalkO q loose XP YP l.row.toRowW d [] (fun f vs => PySem.call f vs) :=
  L2.walk_of (n := 63) (k := 7) (x := "script") (CX := fun _ => CX0) (sp := fun w => sp_law (K w.params)) hn (by decide) hdf ⟨rfl, by decide, by decide⟩ hY (fun w mg fa h X G hfa => by
    obtain ⟨A, rfl, T, b⟩ := F w mg fa h X G hfa
    exact ⟨A.dlaw, b, fun base _ _ => ok_law T⟩) (fun _ _ a ns hl _ hS => ⟨a, ns, rfl, hS, hl, fun _ => rfl⟩) fun _ _ _ _ _ z => z
end My
open PySem PySem.W PyProof.Rows
set_option maxRecDepth 100000 in
set_option maxHeartbeats 0 in
theorem PySem.Challenge.cw_sillwatch_k48_settled_points_holds : PySem.Challenge.rw_sillwatch_k48_settled_points.Holds := by
  w_on; o_law; k_head; (case hw => w_witness2)
  k_fill
  refine My.walk (l := PySem.Challenge.rw_sillwatch_k48_settled_points) rfl rfl (fun w h Y => PySem.W.kIn_of Y) ?F
  case F =>
    intro w mg fa h KX G hmg
    refine' My.all_mk KX G hmg ?a1 ?l1 ?c1 ?k1 ?a2 ?l2 ?c2 ?k2 ?a3 ?l3 ?c3 ?k3 ?a4 ?l4 ?c4 ?k4 ?a5 ?l5 ?c5 ?k5 ?a6 ?l6 ?c6 ?k6 ?a7 ?l7 ?c7 ?k7 ?a8 ?l8 ?c8 ?k8 ?a9 ?l9 ?c9 ?k9 ?a10 ?l10 ?c10 ?k10 ?a11 ?l11 ?c11 ?k11 ?a12 ?l12 ?c12 ?k12 ?a13 ?l13 ?c13 ?k13 ?a14 ?l14 ?c14 ?k14 ?a15 ?l15 ?c15 ?k15 ?a16 ?i16 ?l16 ?c16 ?k16 ?a17 ?i17 ?l17 ?c17 ?k17 ?a18 ?i18 ?l18 ?c18 ?k18 ?a19 ?i19 ?l19 ?c19 ?k19 ?a20 ?i20 ?l20 ?c20 ?k20 ?a21 ?i21 ?l21 ?c21 ?k21 ?a22 ?i22 ?l22 ?c22 ?k22 ?z_all ?z_any ?z_int ?z_len ?z_list ?z_min ?z_range ?z_reversed ?z_zip ?q_LONGEST_GUARD ?uPainted ?pgPainted ?hdPainted ?poPainted ?saPainted ?mkPainted ?kcPainted ?nPainted__rows
    (case uPainted => k_is)
    (case a1 => k_is)
    (case l1 => k_is)
    (case c1 => k_is)
    (case k1 => k_is)
    (case a2 => k_is)
    (case l2 => k_is)
    (case c2 => k_is)
    (case k2 => k_is)
    (case a3 => k_is)
    (case l3 => k_is)
    (case c3 => k_is)
    (case k3 => k_is)
    (case a4 => k_is)
    (case l4 => k_is)
    (case c4 => k_is)
    (case k4 => k_is)
    (case a5 => k_is)
    (case l5 => k_is)
    (case c5 => k_is)
    (case k5 => k_is)
    (case a6 => k_is)
    (case l6 => k_is)
    (case c6 => k_is)
    (case k6 => k_is)
    (case a7 => k_is)
    (case l7 => k_is)
    (case c7 => k_is)
    (case k7 => k_is)
    (case a8 => k_is)
    (case l8 => k_is)
    (case c8 => k_is)
    (case k8 => k_is)
    (case a9 => k_is)
    (case l9 => k_is)
    (case c9 => k_is)
    (case k9 => k_is)
    (case a10 => k_is)
    (case l10 => k_is)
    (case c10 => k_is)
    (case k10 => k_is)
    (case a11 => k_is)
    (case l11 => k_is)
    (case c11 => k_is)
    (case k11 => k_is)
    (case a12 => k_is)
    (case l12 => k_is)
    (case c12 => k_is)
    (case k12 => k_is)
    (case a13 => k_is)
    (case l13 => k_is)
    (case c13 => k_is)
    (case k13 => k_is)
    (case a14 => k_is)
    (case l14 => k_is)
    (case c14 => k_is)
    (case k14 => k_is)
    (case a15 => k_is)
    (case l15 => k_is)
    (case c15 => k_is)
    (case k15 => k_is)
    (case a16 => k_is)
    (case i16 => k_is)
    (case l16 => k_is)
    (case c16 => k_is)
    (case k16 => k_is)
    (case a17 => k_is)
    (case i17 => k_is)
    (case l17 => k_is)
    (case c17 => k_is)
    (case k17 => k_is)
    (case a18 => k_is)
    (case i18 => k_is)
    (case l18 => k_is)
    (case c18 => k_is)
    (case k18 => k_is)
    (case a19 => k_is)
    (case i19 => k_is)
    (case l19 => k_is)
    (case c19 => k_is)
    (case k19 => k_is)
    (case a20 => k_is)
    (case i20 => k_is)
    (case l20 => k_is)
    (case c20 => k_is)
    (case k20 => k_is)
    (case a21 => k_is)
    (case i21 => k_is)
    (case l21 => k_is)
    (case c21 => k_is)
    (case k21 => k_is)
    (case a22 => k_is)
    (case i22 => k_is)
    (case l22 => k_is)
    (case c22 => k_is)
    (case k22 => k_is)
    (case z_all => k_is)
    (case z_any => k_is)
    (case z_int => k_is)
    (case z_len => k_is)
    (case z_list => k_is)
    (case z_min => k_is)
    (case z_range => k_is)
    (case z_reversed => k_is)
    (case z_zip => k_is)
    (case q_LONGEST_GUARD => k_is)
    (case pgPainted => k_is)
    (case hdPainted => k_is)
    (case poPainted => k_is)
    (case saPainted => k_is)
    (case mkPainted => k_is)
    (case kcPainted => k_is)
    (case nPainted__rows => k_is)
