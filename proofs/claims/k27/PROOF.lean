import PyProof.Rows.All
import Wide.All
import OpenK.AllK
import Wide.FinOn
import HandS.ForMost
import HandS.Exc
import HandS.TryOnly
import HandS.ExcOwn
import HandS.WordsExc
import HandS.IsInst
import HandS.Wide
import HandS.Flow
import HandS.More
import HandS.Codes
import HandS.Walk
import HandS.TupLe
import HandS.WordsDict
import HandS.Conv
import HandS.TryMany
import HandS.ExcIs
import KE.KBits
import HandS.CallLocal
import HandS.Strs
import HandS.SetFor
import HandS.Set
import HandS.Property
import PySem.Challenge.RW_sillwatch_k27_turned_pictures
set_option Elab.async false
set_option linter.all false
set_option maxRecDepth 100000
set_option maxHeartbeats 4000000
namespace My
open PySem L2
def topS (i : Nat) : Stmt := PySem.Challenge.pw_sillwatch_k27_turned_pictures.main.body.getD i (.Pass ⟨0, 0, 0, 0⟩)
abbrev s_clear_picture : Stmt := topS 5
abbrev s__law_cell : Stmt := topS 7
abbrev s__law_row : Stmt := topS 8
abbrev s__law_picture : Stmt := topS 9
abbrev s__law_come : Stmt := topS 10
abbrev s__law_good : Stmt := topS 11
abbrev s_law : Stmt := topS 12
abbrev s_Picture___init__ : Stmt := inClass (topS 3) 0
abbrev s_Picture_colour_at : Stmt := inClass (topS 3) 1
abbrev s_Picture_turned : Stmt := inClass (topS 3) 2
abbrev s_Walk___init__ : Stmt := inClass (topS 4) 0
abbrev s_Walk_row_places : Stmt := inClass (topS 4) 1
abbrev s_Walk__make_quarter : Stmt := inClass (topS 4) 2
structure Adr where
  fclear_picture : Addr
  dclear_picture : FuncData
  f_law_cell : Addr
  d_law_cell : FuncData
  f_law_row : Addr
  d_law_row : FuncData
  f_law_picture : Addr
  d_law_picture : FuncData
  f_law_come : Addr
  d_law_come : FuncData
  f_law_good : Addr
  d_law_good : FuncData
  flaw : Addr
  dlaw : FuncData
  fPicture___init__ : Addr
  dPicture___init__ : FuncData
  fPicture_colour_at : Addr
  dPicture_colour_at : FuncData
  fPicture_turned : Addr
  dPicture_turned : FuncData
  fWalk___init__ : Addr
  dWalk___init__ : FuncData
  fWalk_row_places : Addr
  dWalk_row_places : FuncData
  fWalk__make_quarter : Addr
  dWalk__make_quarter : FuncData
  tCLEAR : Tok
  CPicture : Addr
  CWalk : Addr
structure Txt (K : PySem.W.Frag) (mg : Str → Option Value) (A : Adr) : Prop where
  Fclear_picture : Fun K "clear_picture" "clear_picture" s_clear_picture A.fclear_picture A.dclear_picture
  bclear_picture : Binds K A.dclear_picture ["width", "height"] []
  gclear_picture : mg "clear_picture" = some (.ref A.fclear_picture)
  kclear_picture : PySem.W.keepIn K (.ref A.fclear_picture) = true
  F_law_cell : Fun K "_law_cell" "_law_cell" s__law_cell A.f_law_cell A.d_law_cell
  b_law_cell : Binds K A.d_law_cell ["script", "k"] []
  g_law_cell : mg "_law_cell" = some (.ref A.f_law_cell)
  k_law_cell : PySem.W.keepIn K (.ref A.f_law_cell) = true
  F_law_row : Fun K "_law_row" "_law_row" s__law_row A.f_law_row A.d_law_row
  b_law_row : Binds K A.d_law_row ["script", "k"] []
  g_law_row : mg "_law_row" = some (.ref A.f_law_row)
  k_law_row : PySem.W.keepIn K (.ref A.f_law_row) = true
  F_law_picture : Fun K "_law_picture" "_law_picture" s__law_picture A.f_law_picture A.d_law_picture
  b_law_picture : Binds K A.d_law_picture ["row"] []
  g_law_picture : mg "_law_picture" = some (.ref A.f_law_picture)
  k_law_picture : PySem.W.keepIn K (.ref A.f_law_picture) = true
  F_law_come : Fun K "_law_come" "_law_come" s__law_come A.f_law_come A.d_law_come
  b_law_come : Binds K A.d_law_come ["turn", "width", "height", "x", "y"] []
  g_law_come : mg "_law_come" = some (.ref A.f_law_come)
  k_law_come : PySem.W.keepIn K (.ref A.f_law_come) = true
  F_law_good : Fun K "_law_good" "_law_good" s__law_good A.f_law_good A.d_law_good
  b_law_good : Binds K A.d_law_good ["picture", "turn"] []
  g_law_good : mg "_law_good" = some (.ref A.f_law_good)
  k_law_good : PySem.W.keepIn K (.ref A.f_law_good) = true
  Flaw : Fun K "law" "law" s_law A.flaw A.dlaw
  blaw : Binds K A.dlaw ["script"] []
  glaw : mg "law" = some (.ref A.flaw)
  klaw : PySem.W.keepIn K (.ref A.flaw) = true
  FPicture___init__ : Fun K "__init__" "Picture.__init__" s_Picture___init__ A.fPicture___init__ A.dPicture___init__
  bPicture___init__ : Binds K A.dPicture___init__ ["self", "width", "height", "pixels"] []
  MPicture : Mk K A.CPicture A.fPicture___init__
  FPicture_colour_at : Fun K "colour_at" "Picture.colour_at" s_Picture_colour_at A.fPicture_colour_at A.dPicture_colour_at
  bPicture_colour_at : Binds K A.dPicture_colour_at ["self", "x", "y"] []
  mPicture_colour_at : Meth K A.CPicture "colour_at" A.fPicture_colour_at
  FPicture_turned : Fun K "turned" "Picture.turned" s_Picture_turned A.fPicture_turned A.dPicture_turned
  bPicture_turned : Binds K A.dPicture_turned ["self", "turn"] []
  mPicture_turned : Meth K A.CPicture "turned" A.fPicture_turned
  FWalk___init__ : Fun K "__init__" "Walk.__init__" s_Walk___init__ A.fWalk___init__ A.dWalk___init__
  bWalk___init__ : Binds K A.dWalk___init__ ["self", "width", "height", "turn"] []
  MWalk : Mk K A.CWalk A.fWalk___init__
  FWalk_row_places : Fun K "row_places" "Walk.row_places" s_Walk_row_places A.fWalk_row_places A.dWalk_row_places
  bWalk_row_places : Binds K A.dWalk_row_places ["self", "x", "y", "many"] []
  mWalk_row_places : Meth K A.CWalk "row_places" A.fWalk_row_places
  FWalk__make_quarter : Fun K "_make_quarter" "Walk._make_quarter" s_Walk__make_quarter A.fWalk__make_quarter A.dWalk__make_quarter
  bWalk__make_quarter : Binds K A.dWalk__make_quarter ["self"] []
  mWalk__make_quarter : Meth K A.CWalk "_make_quarter" A.fWalk__make_quarter
  int : mg "int" = none
  len : mg "len" = none
  list : mg "list" = none
  min : mg "min" = none
  range : mg "range" = none
  gCLEAR : mg "CLEAR" = some (.int (0) A.tCLEAR)
  clPicture : Cls K A.CPicture
  gPicture : mg "Picture" = some (.ref A.CPicture)
  nPicture_width : NoAttr K A.CPicture "width"
  nPicture_height : NoAttr K A.CPicture "height"
  nPicture_pixels : NoAttr K A.CPicture "pixels"
  clWalk : Cls K A.CWalk
  gWalk : mg "Walk" = some (.ref A.CWalk)
  nWalk_width : NoAttr K A.CWalk "width"
  nWalk_height : NoAttr K A.CWalk "height"
  nWalk_first : NoAttr K A.CWalk "first"
  nWalk_right : NoAttr K A.CWalk "right"
  nWalk_down : NoAttr K A.CWalk "down"
section
variable {P : Program} {w : World} {K : PySem.W.Frag} {mg : Str → Option Value} {base : Heap} {A : Adr}
/-! ### common: tests, errors, small words -/
theorem exm_self {K : PySem.W.Frag} {S : Addr} (h1 : PySem.W.subIn K (.ref S) (.type "BaseException") = some true) (h2 : PySem.W.isClsIn K S = true) (h3 : PySem.W.typeIn K (.ref S) = some (.type "type")) (h4 : PySem.W.subIn K (.ref S) (.ref S) = some true) :
    PySem.W.exmOne K (.ref S) (.ref S) = some true := by
  have g1 : (PySem.W.subIn K (.ref S) (.type "BaseException") == some true) = true := by rw [h1]; rfl
  have g0 : (PySem.W.clsIn K S).isSome = true := h2
  have g2 : ((PySem.W.clsIn K S).isSome && PySem.W.typeIn K (.ref S) == some (.type "type")) = true := by rw [g0, h3]; rfl
  show (if (PySem.W.subIn K (.ref S) (.type "BaseException") == some true) = true then (if ((PySem.W.clsIn K S).isSome && PySem.W.typeIn K (.ref S) == some (.type "type")) = true then PySem.W.subIn K (.ref S) (.ref S) else none) else none) = some true
  rw [if_pos g1, if_pos g2]
  exact h4
theorem exm_cross {K : PySem.W.Frag} {S R : Addr} {b : Bool} (h1 : PySem.W.subIn K (.ref S) (.type "BaseException") = some true) (h2 : PySem.W.isClsIn K S = true) (h3 : PySem.W.typeIn K (.ref S) = some (.type "type")) (h4 : PySem.W.subIn K (.ref R) (.ref S) = some b) :
    PySem.W.exmOne K (.ref R) (.ref S) = some b := by
  have g1 : (PySem.W.subIn K (.ref S) (.type "BaseException") == some true) = true := by rw [h1]; rfl
  have g0 : (PySem.W.clsIn K S).isSome = true := h2
  have g2 : ((PySem.W.clsIn K S).isSome && PySem.W.typeIn K (.ref S) == some (.type "type")) = true := by rw [g0, h3]; rfl
  show (if (PySem.W.subIn K (.ref S) (.type "BaseException") == some true) = true then (if ((PySem.W.clsIn K S).isSome && PySem.W.typeIn K (.ref S) == some (.type "type")) = true then PySem.W.subIn K (.ref R) (.ref S) else none) else none) = some b
  rw [if_pos g1, if_pos g2]
  exact h4
/-- the law's own promise -/
def sp_law (K : PySem.W.Frag) : Sp := fun vs H Q _ => ∃ (a : Addr) (ns : List Int), vs = [.ref a] ∧ SqL K H a (ns.map V.int) ∧ ns.length ≤ 63 ∧ ∀ H', Q (.bl true) H'
theorem iteP {p A B : Prop} [Decidable p] (h1 : p → A) (h2 : ¬ p → B) : if decide p = true then A else B := by
  by_cases h : p
  · rw [decide_eq_true h]; exact iteT (h1 h)
  · rw [decide_eq_false h]; exact iteF (h2 h)
theorem iteN {p A B : Prop} [Decidable p] (h1 : ¬ p → A) (h2 : p → B) : if (!decide p) = true then A else B := by
  by_cases h : p
  · rw [decide_eq_true h]; exact iteF (h2 h)
  · rw [decide_eq_false h]; exact iteT (h1 h)
theorem iteEq {i j : Int} {A B : Prop} (h1 : i = j → A) (h2 : i ≠ j → B) : if decide (V.int i = V.int j) = true then A else B :=
  iteP (fun h => h1 (V.int.inj h)) (fun h => h2 fun e => h (congrArg V.int e))
theorem iteNe {i j : Int} {A B : Prop} (h1 : i ≠ j → A) (h2 : i = j → B) : if (!decide (V.int i = V.int j)) = true then A else B :=
  iteN (fun h => h1 fun e => h (congrArg V.int e)) (fun h => h2 (V.int.inj h))
theorem if_t {b : Bool} {A B : Prop} (e : b = true) (h : A) : if b = true then A else B := by rw [if_pos e]; exact h
theorem if_f {b : Bool} {A B : Prop} (e : b = false) (h : B) : if b = true then A else B := by rw [e]; exact iteF h
theorem if_b {b : Bool} {A B : Prop} (h1 : b = true → A) (h2 : b = false → B) : if b = true then A else B := by
  cases b with
  | true => exact iteT (h1 rfl)
  | false => exact iteF (h2 rfl)
theorem same_upd {H : Hp} {p : Addr} {o : HO} (h : H p = none) : Same H (upd H p o) := fun b x e => by
  rw [upd_ne (ne_of_none e h)]
  exact e
theorem len_line {n : Nat} (h : n ≤ 100000) : n ≤ sizeLine := Nat.le_trans h (by decide)
theorem lt_line {n : Nat} (h : n < 100000) : n < sizeLine := Nat.lt_of_lt_of_le h (by decide)
local macro_rules | `(tactic| walk_at "rd") => `(tactic| repeat (first
  | refine ⟨_, rfl, ?_⟩
  | refine ⟨_, _, rfl, rfl, ?_⟩
  | refine ⟨rfl, ?_⟩
  | refine Or.inl ⟨_, rfl, ?_⟩
  | refine ⟨(by show (0 : Int) < _; decide), ?_⟩
  | refine ⟨(⟨by decide, by decide⟩ : CDiv _ _), ?_⟩
  | refine ⟨(Or.inl ⟨by decide, by decide⟩ : CMul _ _), ?_⟩
  | refine ⟨(Or.inr ⟨by decide, by decide⟩ : CMul _ _), ?_⟩))
/-! ### data that are compared -/
def Sh (n : Nat) (d : PyData) : Prop := d.canLay0 = true ∧ d.depth ≤ n
theorem Sh.mono {n m : Nat} {d : PyData} (h : Sh n d) (l : n ≤ m) : Sh m d := ⟨h.1, Nat.le_trans h.2 l⟩
theorem sh_all : ∀ {n : Nat} {ds : List PyData}, (∀ d ∈ ds, Sh n d) → PyData.canLayAll0 ds = true ∧ PyData.depthAll ds ≤ n
  | n, [], _ => ⟨by simp [PyData.canLayAll0], by simp [PyData.depthAll]⟩
  | n, d :: ds, h => by
    have h1 := h d List.mem_cons_self
    have h2 := sh_all fun e he => h e (List.mem_cons_of_mem _ he)
    refine ⟨?_, ?_⟩
    · simp only [PyData.canLayAll0, Bool.and_eq_true]; exact ⟨h1.1, h2.1⟩
    · simp only [PyData.depthAll]; exact Nat.max_le.mpr ⟨h1.2, h2.2⟩
theorem sh_list {n : Nat} {ds : List PyData} (h : ∀ d ∈ ds, Sh n d) : Sh (n + 1) (.list ds) := by
  have q := sh_all h
  exact ⟨by simp only [PyData.canLay0]; exact q.1, by simp only [PyData.depth]; exact Nat.succ_le_succ q.2⟩
theorem sh_tuple {n : Nat} {ds : List PyData} (h : ∀ d ∈ ds, Sh n d) : Sh (n + 1) (.tuple ds) := by
  have q := sh_all h
  exact ⟨by simp only [PyData.canLay0]; exact q.1, by simp only [PyData.depth]; exact Nat.succ_le_succ q.2⟩
theorem sh_int (i : Int) : Sh 0 (.int i) := ⟨by simp [PyData.canLay0], by simp [PyData.depth]⟩
theorem sh_bool (i : Bool) : Sh 0 (.bool i) := ⟨by simp [PyData.canLay0], by simp [PyData.depth]⟩
theorem sh_none : Sh 0 .none := ⟨by simp [PyData.canLay0], by simp [PyData.depth]⟩
theorem sh_str {s : Str} (h : PyData.strOk s = true) : Sh 0 (.str s) := ⟨by simp only [PyData.canLay0]; exact h, by simp [PyData.depth]⟩
theorem Sh.shaped {n : Nat} {d : PyData} (h : Sh n d) (l : n ≤ 64 := by decide) : SeqAt.shaped d = true := by
  show (d.canLay0 && decide (d.depth ≤ 64)) = true
  rw [h.1, decide_eq_true (Nat.le_trans h.2 l)]
  rfl
theorem Sh.self {n : Nat} {d : PyData} (h : Sh n d) : PyData.eqv d d = true := SeqAt.eqv_refl d h.1
def pInts (xs : List Int) : PyData := .list (xs.map PyData.int)
theorem sh_ints (xs : List Int) : Sh 1 (pInts xs) := sh_list fun d hd => by
  obtain ⟨i, _, rfl⟩ := List.mem_map.mp hd
  exact sh_int i
theorem dpall_ints {K : PySem.W.Frag} {H : Hp} : ∀ xs : List Int, DpAll K H (xs.map V.int) (xs.map PyData.int)
  | [] => .nil
  | x :: r => .cons (.int x) (dpall_ints r)
theorem dp_ints {K : PySem.W.Frag} {H : Hp} {p : Addr} {xs : List Int} (h : SqL K H p (xs.map V.int)) : Dp K H (.ref p) (pInts xs) := .lst h (dpall_ints xs)
/-! ### views: what is new, what stands -/
structure Ext (V H V' H' : Hp) : Prop where
  vv : Same V V'
  vh : Same V' H'
  hh : Same H H'
  nw : ∀ a, V' a ≠ none → V a ≠ none ∨ H a = none
theorem Ext.refl {V H : Hp} (h : Same V H) : Ext V H V H := ⟨Same.refl V, h, Same.refl H, fun _ h => Or.inl h⟩
theorem Ext.trans {V H V1 H1 V2 H2 : Hp} (a : Ext V H V1 H1) (b : Ext V1 H1 V2 H2) : Ext V H V2 H2 :=
  ⟨a.vv.trans b.vv, b.vh, a.hh.trans b.hh, fun x h => by
    rcases b.nw x h with q | q
    · exact a.nw x q
    · exact Or.inr (a.hh.free q)⟩
theorem none_of_same {V H : Hp} {p : Addr} (s : Same V H) (h : H p = none) : V p = none := s.free h
theorem Ext.new {V H : Hp} {p : Addr} {o : HO} (s : Same V H) (h : H p = none) : Ext V H (upd V p o) (upd H p o) :=
  ⟨same_upd (s.free h), fun b u e => by
    by_cases hb : b = p
    · subst hb; rw [upd_same] at e ⊢; exact e
    · rw [upd_ne hb] at e ⊢; exact s b u e, same_upd h, fun a e => by
    by_cases ha : a = p
    · subst ha; exact Or.inr h
    · rw [upd_ne ha] at e; exact Or.inl e⟩
/-- a new object that the view does not take in -/
theorem Ext.skip {V H : Hp} {p : Addr} {o : HO} (s : Same V H) (h : H p = none) : Ext V H V (upd H p o) :=
  ⟨Same.refl V, s.trans (same_upd h), same_upd h, fun _ e => Or.inl e⟩
theorem Ext.keepOut {V H V' H' : Hp} (x : Ext V H V' H') {D : Addr} (h : V D = none) (hd : H D ≠ none) : V' D = none := by
  cases e : V' D with
  | none => rfl
  | some o =>
    rcases x.nw D (by rw [e]; exact fun z => by cases z) with q | q
    · exact absurd h q
    · exact absurd q hd
/-- an object outside of the view changes -/
theorem Ext.poke {V H V' H' : Hp} (x : Ext V H V' H') {D : Addr} {o : HO} (hd : H D = none) (h : V' D = none) : Ext V H V' (upd H' D o) :=
  ⟨x.vv, fun b u e => by
    have hb : b ≠ D := fun z => by rw [z, h] at e; cases e
    rw [upd_ne hb]; exact x.vh b u e, fun b u e => by
    have hb : b ≠ D := ne_of_none e hd
    rw [upd_ne hb]; exact x.hh b u e, x.nw⟩
/-- the object at D, done, is taken in -/
theorem Ext.take {V H V' H' : Hp} (x : Ext V H V' H') {D : Addr} {o : HO} (hd : H D = none) (h : V' D = none) (e : H' D = some o) : Ext V H (upd V' D o) H' :=
  ⟨x.vv.trans (same_upd h), fun b u q => by
    by_cases hb : b = D
    · subst hb; rw [upd_same] at q; rw [e]; exact q
    · rw [upd_ne hb] at q; exact x.vh b u q, x.hh, fun a q => by
    by_cases ha : a = D
    · subst ha; exact Or.inr hd
    · rw [upd_ne ha] at q; exact x.nw a q⟩
theorem _root_.L2.Same.sqt {K : PySem.W.Frag} {H H' : Hp} {a : Addr} {xs : List V} (e : Same H H') (h : SqT K H a xs) : SqT K H' a xs := by
  rcases h with (h | ⟨o, h⟩) | h
  · exact .inl (.inl (e _ _ h))
  · exact .inl (.inr ⟨o, e _ _ h⟩)
  · exact .inr h
mutual
theorem dp_same {K : PySem.W.Frag} {H H' : Hp} (s : Same H H') : ∀ (d : PyData) (v : V), Dp K H v d → Dp K H' v d
  | .none, _, h => by cases h; exact .non
  | .bool b, _, h => by cases h; exact .bl b
  | .int i, _, h => by cases h; exact .int i
  | .str x, _, h => by cases h; exact .str x
  | .list ds, _, h => by
    cases h with
    | lst q r => exact .lst (s.seq q) (dpall_same s ds _ r)
  | .tuple ds, _, h => by
    cases h with
    | tup q r => exact .tup (s.sqt q) (dpall_same s ds _ r)
  | .dict _, _, h => by cases h
theorem dpall_same {K : PySem.W.Frag} {H H' : Hp} (s : Same H H') : ∀ (ds : List PyData) (vs : List V), DpAll K H vs ds → DpAll K H' vs ds
  | [], _, h => by cases h; exact .nil
  | d :: ds, _, h => by
    cases h with
    | cons q r => exact .cons (dp_same s d _ q) (dpall_same s ds _ r)
end
theorem _root_.L2.Dp.to {K : PySem.W.Frag} {H H' : Hp} {v : V} {d : PyData} (h : Dp K H v d) (s : Same H H') : Dp K H' v d := dp_same s d v h
theorem _root_.L2.DpAll.to {K : PySem.W.Frag} {H H' : Hp} {v : List V} {d : List PyData} (h : DpAll K H v d) (s : Same H H') : DpAll K H' v d := dpall_same s d v h
theorem dpall_len {K : PySem.W.Frag} {H : Hp} : ∀ {vs : List V} {ds : List PyData}, DpAll K H vs ds → vs.length = ds.length
  | _, [], h => by cases h; rfl
  | _, d :: ds, h => by
    cases h with
    | cons q r => exact congrArg (· + 1) (dpall_len r)
theorem dpall_get {K : PySem.W.Frag} {H : Hp} : ∀ {vs : List V} {ds : List PyData} {i : Nat} {v : V}, DpAll K H vs ds → vs[i]? = some v → ∃ d, ds[i]? = some d ∧ Dp K H v d
  | _, [], i, v, h, e => by cases h; cases e
  | _, d :: ds, i, v, h, e => by
    cases h with
    | cons q r =>
      match i, e with
      | 0, e => cases e; exact ⟨d, rfl, q⟩
      | i + 1, e => exact dpall_get (i := i) r e
theorem dpall_get' {K : PySem.W.Frag} {H : Hp} : ∀ {vs : List V} {ds : List PyData} {i : Nat} {d : PyData}, DpAll K H vs ds → ds[i]? = some d → ∃ v, vs[i]? = some v ∧ Dp K H v d
  | _, [], i, d, h, e => by cases e
  | _, d :: ds, i, d', h, e => by
    cases h with
    | cons q r =>
      match i, e with
      | 0, e => cases e; exact ⟨_, rfl, q⟩
      | i + 1, e => exact dpall_get' (i := i) r e
theorem dpall_app {K : PySem.W.Frag} {H : Hp} : ∀ {vs ws : List V} {ds es : List PyData}, DpAll K H vs ds → DpAll K H ws es → DpAll K H (vs ++ ws) (ds ++ es)
  | _, _, [], _, h, g => by cases h; exact g
  | _, _, d :: ds, _, h, g => by
    cases h with
    | cons q r => exact .cons q (dpall_app r g)
theorem dp_list {K : PySem.W.Frag} {H : Hp} {v : V} {ds : List PyData} (h : Dp K H v (.list ds)) : ∃ a xs, v = .ref a ∧ SqL K H a xs ∧ DpAll K H xs ds := by
  cases h with
  | lst q r => exact ⟨_, _, rfl, q, r⟩
theorem dp_tuple {K : PySem.W.Frag} {H : Hp} {v : V} {ds : List PyData} (h : Dp K H v (.tuple ds)) : ∃ a xs, v = .ref a ∧ SqT K H a xs ∧ DpAll K H xs ds := by
  cases h with
  | tup q r => exact ⟨_, _, rfl, q, r⟩
theorem dp_int {K : PySem.W.Frag} {H : Hp} {v : V} {i : Int} (h : Dp K H v (.int i)) : v = .int i := by cases h; rfl
theorem dp_str {K : PySem.W.Frag} {H : Hp} {v : V} {i : Str} (h : Dp K H v (.str i)) : v = .str i := by cases h; rfl
theorem dp_bool {K : PySem.W.Frag} {H : Hp} {v : V} {i : Bool} (h : Dp K H v (.bool i)) : v = .bl i := by cases h; rfl
/-! ### comprehensions over any walk -/
def fm {α : Type} (f : Nat → Option α) (n : Nat) : List α := (List.range n).filterMap f
theorem fm_succ {α : Type} (f : Nat → Option α) (n : Nat) : fm f (n + 1) = fm f n ++ (f n).toList := by
  unfold fm
  rw [List.range_succ, List.filterMap_append]
  congr 1
theorem fm_len {α : Type} (f : Nat → Option α) (n : Nat) : (fm f n).length ≤ n := by
  have h := List.length_filterMap_le f (List.range n)
  rw [List.length_range] at h
  exact h
structure LcInv (K : PySem.W.Frag) (V0 H0 : Hp) (D : Addr) (acc : List PyData) (H : Hp) : Prop where
  ex : ∃ V xs, Ext V0 H0 V H ∧ V D = none ∧ H D = some (.lst xs) ∧ DpAll K V xs acc
theorem LcInv.start {K : PySem.W.Frag} {V0 H0 : Hp} {D : Addr} (s : Same V0 H0) (hD : H0 D = none) : LcInv K V0 H0 D [] (upd H0 D (.lst [])) :=
  ⟨V0, [], Ext.skip s hD, s.free hD, upd_same, .nil⟩
theorem LcInv.done {K : PySem.W.Frag} {V0 H0 H : Hp} {D : Addr} {acc : List PyData} (hD : H0 D = none) (i : LcInv K V0 H0 D acc H) : ∃ U xs, Ext V0 H0 U H ∧ U D = some (.lst xs) ∧ DpAll K U xs acc ∧ Dp K U (.ref D) (.list acc) := by
  obtain ⟨V, xs, x, hv, hd, dp⟩ := i.ex
  exact ⟨_, xs, x.take hD hv hd, upd_same, dp.to (same_upd hv), .lst (SqL.of upd_same) (dp.to (same_upd hv))⟩
/-- one more item -/
theorem LcInv.push {K : PySem.W.Frag} {V0 H0 U H U' H' : Hp} {D : Addr} {acc : List PyData} {xs : List V} {y : V} {d : PyData} (hD : H0 D = none) (x : Ext V0 H0 U H) (hv : U D = none) (hd : H D = some (.lst xs)) (dp : DpAll K U xs acc)
    (x2 : Ext U H U' H') (e : Dp K U' y d) (hl : acc.length < 100000) :
    ∃ acc', H' D = some (.lst acc') ∧ acc'.length < sizeLine ∧ LcInv K V0 H0 D (acc ++ [d]) (upd H' D (.lst (acc' ++ [y]))) := by
  have hv' : U' D = none := x2.keepOut hv (by rw [hd]; exact fun z => by cases z)
  refine ⟨xs, x2.hh _ _ hd, lt_line (by rw [dpall_len dp]; exact hl), U', xs ++ [y], (x.trans x2).poke hD hv', hv', upd_same, dpall_app (dp.to x2.vv) (.cons e .nil)⟩
/-- a comprehension's reading over a walk that leaves the heap as it is: at turn i the item x, then f i: the data of what is put in, or none -/
theorem lc_dp0 {J : It} {n : Nat} {G : Hp → Prop} {Y : Nat → Hp → V → Hp → Prop} (wk : Walk J n G Y) {K : PySem.W.Frag} {V0 H0 : Hp} {D : Addr} {g : TG} {tt : TT} {te : TE} {vs : List Nat} {σ : St} {Qd : Hp → Prop} (f : Nat → Option PyData) (σ0 : St) (hσ : wipe σ vs = σ0) (s0 : Same V0 H0) (hD : H0 D = none) (hn : n < 100000)
    (hG : ∀ H, Same H0 H → G H) (hY : ∀ i H x H', Y i H x H' → H' = H)
    (hs : ∀ i x V H, i < n → Ext V0 H0 V H → Y i H x H → ∀ (Qy : VK) (Qn : Hp → Prop), (∀ d y V' H', f i = some d → Ext V H V' H' → Dp K V' y d → Qy y H') → (f i = none → ∀ V' H', Ext V H V' H' → Qn H') →
      g x σ0 H fun σ2 H2 => wipe σ2 vs = σ0 ∧ tt σ2 H2 fun b H3 => if b = true then te σ2 H3 Qy else Qn H3)
    (hd : ∀ (U H : Hp) (xs : List V), Ext V0 H0 U H → U D = none → H D = some (.lst xs) → DpAll K U xs (fm f n) → Qd H) :
    ∃ W : Nat → Nat → Hp → Prop, (∃ m, W 0 m (upd H0 D (.lst []))) ∧ ∀ i m H, W i m H →
      (J.stop i H ∧ Qd H) ∨ (J.go i H ∧ ∃ Nx : Hp → Prop, (∀ H', Nx H' → ∃ m', m' < m ∧ W (i + 1) m' H') ∧ ∀ x H', J.yld i H x H' → g x (wipe σ vs) H' fun σ2 H2 => wipe σ2 vs = wipe σ vs ∧ tt σ2 H2 fun b H3 =>
        if b = true then te σ2 H3 fun y H4 => ∃ acc, H4 D = some (.lst acc) ∧ acc.length < sizeLine ∧ Nx (upd H4 D (.lst (acc ++ [y]))) else Nx H3) := by
  subst hσ
  refine lc_it wk (fun i H => LcInv K V0 H0 D (fm f i) H) (LcInv.start s0 hD) (fun i H _ p => ?_) (fun i x H H' hi p y => ?_) (fun H p => ?_)
  · obtain ⟨V, xs, x, _⟩ := p.ex
    exact hG H x.hh
  · obtain ⟨V, xs, x0, hv, hdd, dp⟩ := p.ex
    obtain rfl := hY i H x H' y
    refine hs i x V H' hi x0 y _ _ (fun d y' V' H4 e x2 dy => ?_) (fun e V' H4 x2 => ?_)
    · have hl : (fm f i).length < 100000 := Nat.lt_of_le_of_lt (fm_len f i) (Nat.lt_trans hi hn)
      obtain ⟨acc', a1, a2, a3⟩ := LcInv.push hD x0 hv hdd dp x2 dy hl
      refine ⟨acc', a1, a2, ?_⟩
      rw [fm_succ, e]
      exact a3
    · have hv' : V' D = none := x2.keepOut hv (by rw [hdd]; exact fun z => by cases z)
      rw [fm_succ, e]
      show LcInv K V0 H0 D (fm f i ++ []) H4
      rw [List.append_nil]
      exact ⟨V', xs, x0.trans x2, hv', x2.hh _ _ hdd, dp.to x2.vv⟩
  · obtain ⟨U, xs, x, hv, hdd, dp⟩ := p.ex
    exact hd U H xs x hv hdd dp
/-- a comprehension's reading over a walk that leaves the heap as it is: at turn i the item x, then f i: the data of what is put in, or none -/
theorem lc_dp {J : It} {n : Nat} {G : Hp → Prop} {Y : Nat → Hp → V → Hp → Prop} (wk : Walk J n G Y) {K : PySem.W.Frag} {V0 H0 : Hp} {D : Addr} {g : TG} {tt : TT} {te : TE} {vs : List Nat} {σ : St} {Qd : Hp → Prop} (f : Nat → Option PyData) (σ0 : St) (hσ : wipe σ vs = σ0) (s0 : Same V0 H0) (hD : H0 D = none) (hn : n < 100000)
    (hG : ∀ H, Same H0 H → G H) (hY : ∀ i H x H', Y i H x H' → H' = H)
    (hs : ∀ i x V H, i < n → Ext V0 H0 V H → Y i H x H → ∀ (Qy : VK) (Qn : Hp → Prop), (∀ d y V' H', f i = some d → Ext V H V' H' → Dp K V' y d → Qy y H') → (f i = none → ∀ V' H', Ext V H V' H' → Qn H') →
      g x σ0 H fun σ2 H2 => wipe σ2 vs = σ0 ∧ tt σ2 H2 fun b H3 => if b = true then te σ2 H3 Qy else Qn H3)
    (hd : ∀ (U H : Hp) (xs : List V), Ext V0 H0 U H → U D = some (.lst xs) → DpAll K U xs (fm f n) → Dp K U (.ref D) (.list (fm f n)) → Qd H) :
    ∃ W : Nat → Nat → Hp → Prop, (∃ m, W 0 m (upd H0 D (.lst []))) ∧ ∀ i m H, W i m H →
      (J.stop i H ∧ Qd H) ∨ (J.go i H ∧ ∃ Nx : Hp → Prop, (∀ H', Nx H' → ∃ m', m' < m ∧ W (i + 1) m' H') ∧ ∀ x H', J.yld i H x H' → g x (wipe σ vs) H' fun σ2 H2 => wipe σ2 vs = wipe σ vs ∧ tt σ2 H2 fun b H3 =>
        if b = true then te σ2 H3 fun y H4 => ∃ acc, H4 D = some (.lst acc) ∧ acc.length < sizeLine ∧ Nx (upd H4 D (.lst (acc ++ [y]))) else Nx H3) := by
  refine lc_dp0 wk f σ0 hσ s0 hD hn hG hY hs fun U H xs x hv hdd dp => ?_
  exact hd _ H xs (x.take hD hv hdd) upd_same (dp.to (same_upd hv)) (.lst (SqL.of upd_same) (dp.to (same_upd hv)))
theorem fm_map {α β : Type} (f : α → β) : ∀ (xs : List α), fm (fun i => (xs[i]?).map f) xs.length = xs.map f := by
  intro xs
  have h : ∀ n, n ≤ xs.length → fm (fun i => (xs[i]?).map f) n = (xs.take n).map f := by
    intro n
    induction n with
    | zero => intro _; rfl
    | succ n ih =>
      intro hn
      rw [fm_succ, ih (by omega), List.getElem?_eq_getElem (by omega), List.take_succ_eq_append_getElem (by omega), List.map_append]
      rfl
  rw [h _ (Nat.le_refl _), List.take_length]

theorem lc2_outer {J : It} {n : Nat} {G : Hp → Prop} {Y : Nat → Hp → V → Hp → Prop} (wk : Walk J n G Y) {K : PySem.W.Frag} {V0 H0 : Hp} {D : Addr} {g : TG} {vs : List Nat} {σ : St} {body : St → Hp → (Hp → Prop) → Prop} {Qd : Hp → Prop} (F : Nat → List PyData) (σ0 : St) (hσ : wipe σ vs = σ0) (s0 : Same V0 H0) (hD : H0 D = none) (hF : F 0 = [])
    (hG : ∀ H, Same H0 H → G H) (hY : ∀ i H x H', Y i H x H' → H' = H)
    (hs : ∀ i x H, i < n → LcInv K V0 H0 D (F i) H → Y i H x H → ∀ Nx : Hp → Prop, (∀ H', LcInv K V0 H0 D (F (i + 1)) H' → Nx H') → g x σ0 H fun σ2 H2 => wipe σ2 vs = σ0 ∧ body σ2 H2 Nx)
    (hd : ∀ (U H : Hp) (xs : List V), Ext V0 H0 U H → U D = some (.lst xs) → DpAll K U xs (F n) → Dp K U (.ref D) (.list (F n)) → Qd H) :
    ∃ W : Nat → Nat → Hp → Prop, (∃ m, W 0 m (upd H0 D (.lst []))) ∧ ∀ i m H, W i m H →
      (J.stop i H ∧ Qd H) ∨ (J.go i H ∧ ∃ Nx : Hp → Prop, (∀ H', Nx H' → ∃ m', m' < m ∧ W (i + 1) m' H') ∧ ∀ x H', J.yld i H x H' → g x (wipe σ vs) H' fun σ2 H2 => wipe σ2 vs = wipe σ vs ∧ body σ2 H2 Nx) := by
  subst hσ
  refine ⟨fun i m H => m = n - i ∧ i ≤ n ∧ LcInv K V0 H0 D (F i) H, ⟨n, by simp, Nat.zero_le _, by rw [hF]; exact LcInv.start s0 hD⟩, ?_⟩
  rintro i m H ⟨rfl, hi, p⟩
  have sH : Same H0 H := by obtain ⟨_, _, x, _⟩ := p.ex; exact x.hh
  by_cases hlt : i < n
  · refine .inr ⟨wk.goes i H hlt (hG H sH), fun H' => LcInv K V0 H0 D (F (i + 1)) H', fun H' p' => ⟨n - (i + 1), by omega, rfl, hlt, p'⟩, fun x H' y => ?_⟩
    have y' := wk.yields i H x H' hlt (hG H sH) y
    obtain rfl := hY i H x H' y'
    exact hs i x H' hlt p y' _ fun _ h => h
  · have e : i = n := by omega
    subst e
    obtain ⟨U, xs, x, e1, e2, e3⟩ := p.done hD
    exact .inl ⟨wk.stops H (hG H sH), hd U H xs x e1 e2 e3⟩
theorem lc2_inner {J : It} {n : Nat} {G : Hp → Prop} {Y : Nat → Hp → V → Hp → Prop} (wk : Walk J n G Y) {K : PySem.W.Frag} {V0 H0 H4 : Hp} {D : Addr} {acc0 : List PyData} {g : TG} {tt : TT} {te : TE} {vs : List Nat} {σ : St} {Nx : Hp → Prop} (f : Nat → Option PyData) (σ0 : St) (hσ : wipe σ vs = σ0) (hD : H0 D = none)
    (inv : LcInv K V0 H0 D acc0 H4) (hn : acc0.length + n < 100000) (hG : ∀ H, Same H0 H → G H) (hY : ∀ i H x H', Y i H x H' → H' = H)
    (hs : ∀ i x V H, i < n → Ext V0 H0 V H → Y i H x H → ∀ (Qy : VK) (Qn : Hp → Prop), (∀ d y V' H', f i = some d → Ext V H V' H' → Dp K V' y d → Qy y H') → (f i = none → ∀ V' H', Ext V H V' H' → Qn H') →
      g x σ0 H fun σ2 H2 => wipe σ2 vs = σ0 ∧ tt σ2 H2 fun b H3 => if b = true then te σ2 H3 Qy else Qn H3)
    (hd : ∀ H, LcInv K V0 H0 D (acc0 ++ fm f n) H → Nx H) :
    ∃ W : Nat → Nat → Hp → Prop, (∃ m, W 0 m H4) ∧ ∀ i m H, W i m H →
      (J.stop i H ∧ Nx H) ∨ (J.go i H ∧ ∃ Nx1 : Hp → Prop, (∀ H', Nx1 H' → ∃ m', m' < m ∧ W (i + 1) m' H') ∧ ∀ x H', J.yld i H x H' → g x (wipe σ vs) H' fun σ2 H2 => wipe σ2 vs = wipe σ vs ∧ tt σ2 H2 fun b H3 =>
        if b = true then te σ2 H3 fun y H4 => ∃ acc, H4 D = some (.lst acc) ∧ acc.length < sizeLine ∧ Nx1 (upd H4 D (.lst (acc ++ [y]))) else Nx1 H3) := by
  subst hσ
  refine ⟨fun i m H => m = n - i ∧ i ≤ n ∧ LcInv K V0 H0 D (acc0 ++ fm f i) H, ⟨n, by simp, Nat.zero_le _, by rw [show fm f 0 = [] from rfl, List.append_nil]; exact inv⟩, ?_⟩
  rintro i m H ⟨rfl, hi, p⟩
  have sH : Same H0 H := by obtain ⟨_, _, x, _⟩ := p.ex; exact x.hh
  by_cases hlt : i < n
  · refine .inr ⟨wk.goes i H hlt (hG H sH), fun H' => LcInv K V0 H0 D (acc0 ++ fm f (i + 1)) H', fun H' p' => ⟨n - (i + 1), by omega, rfl, hlt, p'⟩, fun x H' y => ?_⟩
    have y' := wk.yields i H x H' hlt (hG H sH) y
    obtain rfl := hY i H x H' y'
    obtain ⟨V, xs, x0, hv, hdd, dp⟩ := p.ex
    refine hs i x V H' hlt x0 y' _ _ (fun d y' V' H4 e x2 dy => ?_) (fun e V' H4 x2 => ?_)
    · have hl : (acc0 ++ fm f i).length < 100000 := by have := fm_len f i; rw [List.length_append]; omega
      obtain ⟨acc', a1, a2, a3⟩ := LcInv.push hD x0 hv hdd dp x2 dy hl
      refine ⟨acc', a1, a2, ?_⟩
      rw [fm_succ, e, ← List.append_assoc]
      exact a3
    · have hv' : V' D = none := x2.keepOut hv (by rw [hdd]; exact fun z => by cases z)
      rw [fm_succ, e]
      show LcInv K V0 H0 D (acc0 ++ (fm f i ++ [])) H4
      rw [List.append_nil]
      exact ⟨V', xs, x0.trans x2, hv', x2.hh _ _ hdd, dp.to x2.vv⟩
  · have e : i = n := by omega
    subst e
    exact .inl ⟨wk.stops H (hG H sH), hd H p⟩
theorem fm_some {α : Type} (f : Nat → α) (n : Nat) : fm (fun i => some (f i)) n = (List.range n).map f := by
  induction n with
  | zero => rfl
  | succ n ih => rw [fm_succ, ih, List.range_succ, List.map_append]; rfl
theorem fl_take' {α : Type} {β : Type} (f : α → List β) : ∀ (xs : List α) (i : Nat) (x : α), xs[i]? = some x → (xs.take (i + 1)).flatMap f = (xs.take i).flatMap f ++ f x := by
  intro xs i x h
  obtain ⟨hi, e⟩ := List.getElem?_eq_some_iff.mp h
  rw [List.take_succ_eq_append_getElem hi, List.flatMap_append, e]
  show _ ++ (f x ++ []) = _
  rw [List.append_nil]
theorem fl_le' {α : Type} {β : Type} (f : α → List β) (xs : List α) (i : Nat) : ((xs.take i).flatMap f).length ≤ (xs.flatMap f).length := by
  have : xs.flatMap f = (xs.take i).flatMap f ++ (xs.drop i).flatMap f := by rw [← List.flatMap_append, List.take_append_drop]
  rw [this, List.length_append]; omega
/-! ### lists of ints, texts -/
theorem tyL {K : PySem.W.Frag} {H : Hp} {a : Addr} {xs : List V} (h : SqL K H a xs) : TyX K H (.ref a) (.type "list") := by
  rcases h with (h | ⟨o, h⟩) | ⟨o, its, n, h, c, _⟩
  · exact .base (.lst h)
  · exact .base (.frz h)
  · exact .kList h c
theorem tyT {K : PySem.W.Frag} {H : Hp} {a : Addr} {xs : List V} (h : SqT K H a xs) : TyX K H (.ref a) (.type "tuple") := by
  rcases h with (h | ⟨o, h⟩) | ⟨o, its, n, h, c, _⟩
  · exact .base (.tup h)
  · exact .fTuple h
  · exact .kTuple h c
theorem dp_intsV {K : PySem.W.Frag} {H : Hp} : ∀ {xs : List V} {is : List Int}, DpAll K H xs (is.map PyData.int) → xs = is.map V.int
  | _, [], r => by cases r; rfl
  | _, i :: is, r => by
    cases r with
    | cons r1 r2 => cases r1; rw [dp_intsV r2]; rfl
theorem dp_intsL {K : PySem.W.Frag} {H : Hp} {a : Addr} {is : List Int} (h : Dp K H (.ref a) (.list (is.map PyData.int))) : SqL K H a (is.map V.int) := by
  obtain ⟨a', xs, e, q, r⟩ := dp_list h
  cases e
  rw [← dp_intsV r]; exact q
theorem dp_strsV {K : PySem.W.Frag} {H : Hp} : ∀ {xs : List V} {is : List Str}, DpAll K H xs (is.map PyData.str) → xs = is.map V.str
  | _, [], r => by cases r; rfl
  | _, i :: is, r => by
    cases r with
    | cons r1 r2 => cases r1; rw [dp_strsV r2]; rfl
theorem dp_boolsV {K : PySem.W.Frag} {H : Hp} : ∀ {xs : List V} {is : List Bool}, DpAll K H xs (is.map PyData.bool) → xs = is.map V.bl
  | _, [], r => by cases r; rfl
  | _, i :: is, r => by
    cases r with
    | cons r1 r2 => cases r1; rw [dp_boolsV r2]; rfl
theorem dp_boolsL {K : PySem.W.Frag} {H : Hp} {a : Addr} {is : List Bool} (h : Dp K H (.ref a) (.list (is.map PyData.bool))) : SqL K H a (is.map V.bl) := by
  obtain ⟨a', xs, e, q, r⟩ := dp_list h
  cases e
  rw [← dp_boolsV r]; exact q
theorem size_eq (z : Str) : z.cps.size = z.cps.toList.length := by simp
theorem cps_at (z : Str) (i : Nat) : z.cps[i]? = z.cps.toList[i]? := by simp
theorem fm_list {α β : Type} (f : α → β) (xs : List α) (n : Nat) (h : n = xs.length) (g : Nat → Option β) (hg : ∀ i x, xs[i]? = some x → g i = some (f x)) : fm g n = xs.map f := by
  subst h
  rw [← fm_map f xs]
  unfold fm
  have : ∀ l : List Nat, (∀ i ∈ l, i < xs.length) → l.filterMap g = l.filterMap fun i => (xs[i]?).map f := by
    intro l
    induction l with
    | nil => intro _; rfl
    | cons i l ih =>
      intro hl
      have hi' := hl i List.mem_cons_self
      rw [List.filterMap_cons, List.filterMap_cons, hg i _ (List.getElem?_eq_getElem hi'), List.getElem?_eq_getElem hi', ih fun j hj => hl j (List.mem_cons_of_mem _ hj)]
      rfl
  exact this _ fun i hi => List.mem_range.mp hi
theorem rep_flat {α : Type} (v : α) : ∀ n : Nat, (List.replicate n [v]).flatten = List.replicate n v
  | 0 => rfl
  | n + 1 => by rw [List.replicate_succ, List.replicate_succ, List.flatten_cons, rep_flat v n]; rfl
/-- a list's object that is tracked, at p, new -/
structure NewL (H H' : Hp) (p : Addr) (xs : List V) : Prop where
  new : H p = none
  same : Same H H'
  at_ : H' p = some (.lst xs)
theorem NewL.ext {U H H' : Hp} {p : Addr} {xs : List V} (n : NewL H H' p xs) (s : Same U H) : Ext U H (upd U p (.lst xs)) H' :=
  ⟨same_upd (s.free n.new), fun b u e => by
    by_cases hb : b = p
    · subst hb; rw [upd_same] at e; rw [n.at_]; exact e
    · rw [upd_ne hb] at e; exact n.same _ _ (s b u e), n.same, fun a e => by
    by_cases ha : a = p
    · subst ha; exact Or.inr n.new
    · rw [upd_ne ha] at e; exact Or.inl e⟩
theorem str_app (x y : Str) : (x ++ y).cps.toList = x.cps.toList ++ y.cps.toList := Array.toList_append
theorem str_len_app (x y : Str) : (x ++ y).length = x.length + y.length := by
  show (x ++ y).cps.size = x.cps.size + y.cps.size
  rw [size_eq, str_app, List.length_append, ← size_eq, ← size_eq]
/-! ### _law_cell, _law_row -/
def lawCell (ns : List Int) (k : Nat) : Int :=
  let c := if 0 < ns.length then ns.getD (k % ns.length) 0 else 0
  if c < 0 then 1 - 2 * c else c
theorem lawCell_nn (ns : List Int) (k : Nat) : 0 ≤ lawCell ns k := by
  unfold lawCell
  simp only
  split <;> omega
def lawOne (c : Int) (k : Nat) : Int := (c * 48271 + (k : Int) * 69621 + 12345) % 2147483647
def lawTwo (o : Int) (k : Nat) : Int := (o * o + 16807 * (k : Int) + 7) % 2147483629
def lawRow (ns : List Int) (k : Nat) : Int :=
  if k < ns.length ∧ 1000000000 ≤ lawCell ns k then lawCell ns k
  else (lawTwo (lawOne (lawCell ns k) k) k * lawTwo (lawOne (lawCell ns k) k) k + lawOne (lawCell ns k) k) % 4294967291 + 4294967296 * (lawOne (lawCell ns k) k + 1)
theorem lawOne_b (c : Int) (k : Nat) : 0 ≤ lawOne c k ∧ lawOne c k < 2147483647 := by unfold lawOne; omega
theorem lawTwo_b (c : Int) (k : Nat) : 0 ≤ lawTwo c k ∧ lawTwo c k < 2147483629 := by
  unfold lawTwo
  generalize c * c + 16807 * (k : Int) + 7 = x
  omega
theorem lawRow_nn (ns : List Int) (k : Nat) : 0 ≤ lawRow ns k := by
  unfold lawRow
  have h1 := lawOne_b (lawCell ns k) k
  split
  · exact lawCell_nn ns k
  · generalize lawTwo (lawOne (lawCell ns k) k) k * lawTwo (lawOne (lawCell ns k) k) k + lawOne (lawCell ns k) k = x
    omega
def sp__law_cell (K : PySem.W.Frag) : Sp := fun vs H Q _ => ∃ (a : Addr) (ns : List Int) (k : Nat), vs = [.ref a, .int (k : Int)] ∧ SqL K H a (ns.map V.int) ∧ Q (.int (lawCell ns k)) H
theorem sc__law_cell : FnScope ["script", "k", "cell"] ["script", "k"] (defScope s__law_cell) := ⟨rfl, rfl, rfl, by decide +kernel, rfl, by decide +kernel, by decide +kernel⟩
theorem ok__law_cell (T : Txt K mg A) : FnOk P w K mg base CX0 1 A.f_law_cell A.d_law_cell ["script", "k"] (sp__law_cell K) := by
  refine T.F_law_cell.ok sc__law_cell (fun vs H Q E h => ?_) (fun cdv Ar outer s H vs Q E hr h => ?_)
  · obtain ⟨a, ns, k, rfl, _⟩ := h
    rfl
  · obtain ⟨a, ns, k, rfl, hS, q⟩ := h
    refine ⟨_, (pss_cons (ps_set (i := 2) sc__law_cell.nd rfl (Or.inl rfl) pe_int)
      (pss_cons (ps_if (pt_cmpR op_gt (pe_callB call_len_seq (by rfl) T.len PySem.boot_len (pa_cons (pv 0) pa_nil)) pe_int (nomark _))
      (pss_one (ps_set (i := 2) sc__law_cell.nd rfl (Or.inl rfl) (pe_ix ix_list (pv 0) (pe_op op_mod (pe_callTy call_int1 (by rfl) T.int (by decide +kernel) (pa_cons (pv 1) pa_nil)) (pe_callB call_len_seq (by rfl) T.len PySem.boot_len (pa_cons (pv 0) pa_nil))) (fun _ _ => rfl))))
      pss_nil)
      (pss_cons (ps_if (pt_cmpR op_lt (pv 2) pe_int (nomark _))
      (pss_one (ps_set (i := 2) sc__law_cell.nd rfl (Or.inl rfl) (pe_op op_sub pe_int (pe_op op_mul pe_int (pv 2)))))
      pss_nil)
      (pss_one (ps_ret (pv 2)))))), ?_⟩
    have two : ∀ (c : Int), (if c < 0 then 1 - 2 * c else c) = lawCell ns k → tSeq (tIfS (tTest (tOp (rI0 fun i j => .bl (decide (i < j))) (tVar 2) (tC (.int 0)))) (tAsg (tOp (rI0 fun i j => .int (i - j)) (tC (.int 1)) (tOp (rI CMul fun i j => .int (i * j)) (tC (.int 2)) (tVar 2))) (gName 2)) tNext) (tRet (tVar 2))
        { nx := fun _ H' => Q .non H', rt := Q } [some (.ref a), some (.int (k : Int)), some (.int c)] H := by
      intro c hc
      walk_at "rd"
      refine iteP (fun h => ?_) (fun h => ?_)
      · rw [if_pos h] at hc
        walk_at "rd"
        rw [← hc] at q; exact q
      · rw [if_neg h] at hc
        walk_at "rd"
        rw [← hc] at q; exact q
    refine ⟨.ref a, rfl, a, _, rfl, .inl hS, _, _, rfl, rfl, _, rfl, iteP (fun h => ?_) (fun h => ?_)⟩
    · have h0 : 0 < ns.length := by rw [List.length_map] at h; omega
      refine ⟨_, rfl, _, rfl, Or.inl ⟨_, rfl, ?_⟩⟩
      refine ⟨_, rfl, a, _, rfl, .inl hS, _, _, rfl, rfl, by show (0 : Int) < _; omega, a, _, _, .int (ns.getD (k % ns.length) 0), rfl, rfl, hS, ?_, ?_⟩
      · refine at_of (j := k % ns.length) ?_ ?_
        · rw [List.length_map]; exact (Int.natCast_emod _ _).symm
        · rw [List.getElem?_map, List.getElem?_eq_getElem (Nat.mod_lt _ h0), List.getD_eq_getElem?_getD, List.getElem?_eq_getElem (Nat.mod_lt _ h0)]; rfl
      · refine two _ ?_
        unfold lawCell; rw [if_pos h0]
    · have h0 : ¬ 0 < ns.length := by rw [List.length_map] at h; omega
      refine two _ ?_
      unfold lawCell; rw [if_neg h0]
def sp__law_row (K : PySem.W.Frag) : Sp := fun vs H Q _ => ∃ (a : Addr) (ns : List Int) (k : Nat), vs = [.ref a, .int (k : Int)] ∧ SqL K H a (ns.map V.int) ∧ Q (.int (lawRow ns k)) H
theorem sc__law_row : FnScope ["script", "k", "cell", "one", "two"] ["script", "k"] (defScope s__law_row) := ⟨rfl, rfl, rfl, by decide +kernel, rfl, by decide +kernel, by decide +kernel⟩
theorem ok__law_row (T : Txt K mg A) : FnOk P w K mg base CX0 2 A.f_law_row A.d_law_row ["script", "k"] (sp__law_row K) := by
  refine T.F_law_row.ok sc__law_row (fun vs H Q E h => ?_) (fun cdv Ar outer s H vs Q E hr h => ?_)
  · obtain ⟨a, ns, k, rfl, _⟩ := h
    rfl
  · obtain ⟨a, ns, k, rfl, hS, q⟩ := h
    refine ⟨_, (pss_cons (ps_set (i := 2) sc__law_row.nd rfl (Or.inl rfl) (pe_call (ok__law_cell T) (hr.mono (by decide)) rfl T.g_law_cell T.k_law_cell T.b_law_cell .nil pass0 (pa_cons (pv 0) (pa_cons (pv 1) pa_nil))))
      (pss_cons (ps_if (PW.pt (pw_and (pt_cmpR op_lt (pv 1) (pe_callB call_len_seq (by rfl) T.len PySem.boot_len (pa_cons (pv 0) pa_nil)) (nomark _)) (pw_and1 (pt_cmpR op_ge (pv 2) pe_int (nomark _)))))
      (pss_one (ps_ret (pv 2)))
      pss_nil)
      (pss_cons (ps_set (i := 3) sc__law_row.nd rfl (Or.inl rfl) (pe_op op_mod (pe_callTy call_int1 (by rfl) T.int (by decide +kernel) (pa_cons (pe_op op_add (pe_op op_add (pe_op op_mul (pv 2) pe_int) (pe_op op_mul (pv 1) pe_int)) pe_int) pa_nil)) pe_int))
      (pss_cons (ps_set (i := 4) sc__law_row.nd rfl (Or.inl rfl) (pe_op op_mod (pe_callTy call_int1 (by rfl) T.int (by decide +kernel) (pa_cons (pe_op op_add (pe_op op_add (pe_op op_mul (pv 3) (pv 3)) (pe_op op_mul pe_int (pv 1))) pe_int) pa_nil)) pe_int))
      (pss_one (ps_ret (pe_op op_add (pe_op op_mod (pe_callTy call_int1 (by rfl) T.int (by decide +kernel) (pa_cons (pe_op op_add (pe_op op_mul (pv 4) (pv 4)) (pv 3)) pa_nil)) pe_int) (pe_op op_mul pe_int (pe_op op_add (pv 3) pe_int))))))))), ?_⟩
    have b1 := lawOne_b (lawCell ns k) k
    have b2 := lawTwo_b (lawOne (lawCell ns k) k) k
    have m1 : CMul (lawOne (lawCell ns k) k) (lawOne (lawCell ns k) k) := Or.inl ⟨by omega, by omega⟩
    have m2 : CMul (lawTwo (lawOne (lawCell ns k) k) k) (lawTwo (lawOne (lawCell ns k) k) k) := Or.inl ⟨by omega, by omega⟩
    refine ⟨_, rfl, _, rfl, a, ns, k, rfl, hS, ?_⟩
    refine ⟨_, rfl, _, rfl, a, _, rfl, .inl hS, _, _, rfl, rfl, _, rfl, ?_⟩
    refine iteP (fun h => ?_) (fun h => ?_)
    · refine ⟨_, rfl, _, _, rfl, rfl, _, rfl, iteP (fun h2 => ?_) (fun h2 => ?_)⟩
      · have e : lawRow ns k = lawCell ns k := by unfold lawRow; rw [if_pos ⟨by rw [List.length_map] at h; omega, h2⟩]
        rw [e] at q
        exact ⟨_, rfl, q⟩
      · unfold lawRow at q
        rw [if_neg fun z => h2 z.2] at q
        walk_at "rd"
        refine ⟨m1, ?_⟩
        walk_at "rd"
        refine ⟨m2, ?_⟩
        walk_at "rd"
        exact q
    · unfold lawRow at q
      rw [if_neg fun z => h (by rw [List.length_map]; omega)] at q
      walk_at "rd"
      refine ⟨m1, ?_⟩
      walk_at "rd"
      refine ⟨m2, ?_⟩
      walk_at "rd"
      exact q
/-! ### a word that goes on by itself -/
theorem iteVP {p A B : Prop} [Decidable p] (h1 : p → A) (h2 : ¬ p → B) : if p then A else B := by
  by_cases h : p
  · rw [if_pos h]; exact h1 h
  · rw [if_neg h]; exact h2 h
/-- a new tuple is handed back -/
def RetT (H : Hp) (Q : VK) (xs : List V) : Prop := ∀ p H', Same H H' → H' p = some (.tup xs) → Q (.ref p) H'
theorem RetT.go {H : Hp} {Q : VK} {xs : List V} (h : ∀ p H', Same H H' → H' p = some (.tup xs) → Q (.ref p) H') : RetT H Q xs := h
theorem ne_self {d e : PyData} {A B : Prop} (hs : SeqAt.shaped d = true) (h : d = e) (hB : B) : if (!PyData.eqv d e) = true then A else B := by
  subst h
  have h2 : (d.canLay0 && decide (d.depth ≤ 64)) = true := hs
  have : PyData.eqv d d = true := SeqAt.eqv_refl d (by rw [Bool.and_eq_true] at h2; exact h2.1)
  rw [this]
  exact iteF hB
theorem eq_self {d e : PyData} {A B : Prop} (hs : SeqAt.shaped d = true) (h : d = e) (hA : A) : if PyData.eqv d e = true then A else B := by
  subst h
  have h2 : (d.canLay0 && decide (d.depth ≤ 64)) = true := hs
  have : PyData.eqv d d = true := SeqAt.eqv_refl d (by rw [Bool.and_eq_true] at h2; exact h2.1)
  rw [this]
  exact iteT hA
theorem t_ne {K : PySem.W.Frag} {x y : V} {H : Hp} {Q : VK} {d e : PyData} (h1 : Dp K H x d) (h2 : Dp K H y e) (s1 : SeqAt.shaped d = true) (s2 : SeqAt.shaped e = true) (q : Q (.bl (!PyData.eqv d e)) H) : rNeD K x y H Q := ⟨d, e, h1, h2, s1, s2, q⟩
theorem t_eq {K : PySem.W.Frag} {x y : V} {H : Hp} {Q : VK} {d e : PyData} (h1 : Dp K H x d) (h2 : Dp K H y e) (s1 : SeqAt.shaped d = true) (s2 : SeqAt.shaped e = true) (q : Q (.bl (PyData.eqv d e)) H) : rEqD K x y H Q := ⟨d, e, h1, h2, s1, s2, q⟩
/-! words that go on by themselves -/
local macro_rules | `(tactic| walk_at "sq") => `(tactic| first
  | exact SqT.of upd_same
  | exact SqL.of upd_same
  | assumption
  | exact SqT.of (by assumption)
  | exact SqL.of (by assumption)
  | (apply Same.sqt (same_upd (by assumption)); walk_at "sq")
  | (apply Same.seq (same_upd (by assumption)); walk_at "sq")
  | (apply Same.sqt (by assumption); walk_at "sq")
  | (apply Same.seq (by assumption); walk_at "sq"))
local macro_rules | `(tactic| walk_at "sm") => `(tactic| first
  | exact Same.refl _
  | assumption
  | (apply Same.trans _ (same_upd (by assumption)); walk_at "sm")
  | (apply Same.trans _ (by assumption); walk_at "sm"))
local macro_rules | `(tactic| walk_at "at") => `(tactic| first
  | exact atI_nat (j := 0) rfl
  | exact atI_nat (j := 1) rfl
  | exact atI_nat (j := 2) rfl
  | exact atI_nat (j := 3) rfl
  | exact atI_nat (j := 4) rfl
  | exact atI_nat (j := 5) rfl)
local macro_rules | `(tactic| walk_at "go1") => `(tactic| first
  | refine ⟨_, rfl, ?_⟩
  | refine ⟨_, _, rfl, rfl, ?_⟩
  | refine ⟨rfl, ?_⟩
  | refine Or.inl ⟨_, rfl, ?_⟩
  | refine ⟨(by show (0 : Int) < _; decide), ?_⟩
  | refine ⟨(⟨by decide, by decide⟩ : CDiv _ _), ?_⟩
  | refine ⟨(Or.inl ⟨by decide, by decide⟩ : CMul _ _), ?_⟩
  | refine ⟨(Or.inr ⟨by decide, by decide⟩ : CMul _ _), ?_⟩
  | refine ⟨_, _, rfl, ?_⟩
  | refine ⟨_, _, _, rfl, ?_⟩
  | refine ⟨_, _, _, _, rfl, ?_⟩
  | (refine And.intro (a := (0 : Int) ≤ _) ?_ ?_; focus omega)
  | (refine And.intro (a := _ ≤ sizeLine) ?_ (fun p hp => ?_); (focus (exact len_line (Nat.le_of_ble_eq_true rfl))))
  | refine RetT.go (fun p H' s e => ?_)
  | refine if_t rfl ?_
  | refine if_f rfl ?_
  | refine ⟨_, _, rfl, (by walk_at "sq"), rfl, ?_⟩
  | refine ⟨_, _, rfl, Or.inl (by walk_at "sq"), ?_⟩
  | refine ⟨_, _, rfl, Or.inr (by walk_at "sq"), ?_⟩
  | refine ⟨_, _, _, _, rfl, rfl, (by walk_at "sq"), (by walk_at "at"), ?_⟩
  | refine ⟨_, _, rfl, (by walk_at "sq"), (by show ¬(HT.sIx 4 0 (some 2) = 0 ∧ HT.sIx 4 4 none = 4); decide), fun p hp => ?_⟩
  | refine ⟨_, _, _, _, rfl, rfl, (by walk_at "sq"), (by walk_at "sq"), (by intro h; cases h), len_line (Nat.le_of_ble_eq_true rfl), (fun h => by cases h), fun _ p hp => ?_⟩)
local macro_rules | `(tactic| walk_at "go") => `(tactic| repeat walk_at "go1")
local macro_rules | `(tactic| walk_at "dps") => `(tactic| first
  | exact DpAll.nil
  | (apply DpAll.cons; (focus (walk_at "dp")); (focus (walk_at "dps"))))
local macro_rules | `(tactic| walk_at "dp") => `(tactic| first
  | exact Dp.int _
  | exact Dp.bl _
  | exact Dp.str _
  | exact Dp.non
  | (apply Dp.tup; (focus (walk_at "sq")); (focus (walk_at "dps")))
  | (apply Dp.lst; (focus (walk_at "sq")); (focus (walk_at "dps"))))
local macro_rules | `(tactic| walk_at "sh") => `(tactic| (show (PyData.canLay0 _ && decide (PyData.depth _ ≤ 64)) = true; simp [PyData.canLay0, PyData.canLayAll0, PyData.depth, PyData.depthAll]))
/-- a deep comparison: what is left is the if -/
local macro_rules | `(tactic| walk_at "ne") => `(tactic| (apply t_ne; (focus (walk_at "dp")); (focus (walk_at "dp")); (focus (walk_at "sh")); (focus (walk_at "sh")); refine ⟨_, rfl, ?_⟩))
local macro_rules | `(tactic| walk_at "neS") => `(tactic| (walk_at "ne"; refine ne_self ?_ ?_ ?_; (focus (walk_at "sh"))))
/-! ### a rule: list(range(a, b, c)) -/
section
open PySem.Spec PyProof.Rows
def rg3 (i c : Int) (n : Nat) : List Int := (List.range n).map fun k : Nat => i + (k : Int) * c
def tLstRg3 (ta : TA) : TE := fun σ H Q => ta σ H fun vs H1 => ∃ (i j c : Int) (n : Nat), vs = [.int i, .int j, .int c] ∧ RgC i j c n ∧ n ≤ 100000 ∧ ∀ q, H1 q = none → Q (.ref q) (upd H1 q (.lst ((rg3 i c n).map V.int)))
theorem vals_rg3 {i c : Int} {n : Nat} {acc : Array Value} (h : ItemsOf (fun k v => ∃ t, v = .int (i + k * c) t) acc n) : Vals ((rg3 i c n).map V.int) acc.toList := by
  have e : acc.toList.length = n := by rw [Array.length_toList]; exact h.1
  unfold rg3
  rw [List.map_map, ← e]
  refine vals_of_get acc.toList _ fun j u hj => ?_
  exact h.2 j u (by rw [← hj, Array.getElem?_toList])
theorem pe_listRg3 {X : Cx} {a b c : Expr} {ta : TA} {p pos p2 pos2 : Pos} (hcalm : X.calm = true) (hgl : Gl X "list") (hml : X.mg "list" = none) (hg : Gl X "range") (hm : X.mg "range" = none) (ha : PA X [a, b, c] ta)
    (hs : starEach [a, b, c] X.env = (false, eval a X.env) :: starEach [b, c] X.env := by rfl) (hpl : (backTo pos2 (starEach [b, c] X.env)).any (·.1) = false := by rfl)
    (na : starEach [(.Call (.Name "range" p2) [a, b, c] [] pos2 : Expr)] X.env = (false, eval (.Call (.Name "range" p2) [a, b, c] [] pos2) X.env) :: starEach [] X.env := by rfl) :
    PE X (.Call (.Name "list" p) [.Call (.Name "range" p2) [a, b, c] [] pos2] [] pos) (tLstRg3 ta) := by
  refine ⟨fun pins s σ H Q I h => ?_⟩
  refine Call_ (ld_blt I hgl hml boot_list (PyProof.Rows.callWith_type1 (args_cons ?_ na) na))
  refine Call_ (ld_blt I hg hm boot_range (PyProof.Rows.callWith_type1 (thn (ha.run pos2 pins s σ H _ I h) fun us s1 ⟨vs, H1, I1, r1, q1⟩ => ?_) hs hpl))
  obtain ⟨i, j, k, n, e, hc, hn, q⟩ := q1
  subst e
  cases r1 with
  | cons r rr => cases rr with
    | cons r' rr => cases rr with
      | cons r'' rr =>
        cases rr
        obtain ⟨t, rfl⟩ := r
        obtain ⟨t', rfl⟩ := r'
        obtain ⟨t'', rfl⟩ := r''
        refine call_range_3 hc.1 ?_ (.inl (PyProof.noPylong_small hc.2.1))
        refine args_nil ?_
        have I2 : Inv X pins σ H1 { s1 with heap := s1.heap.push { cls := .type "range", data := .fields #[.int i t, .int j t', .int k t''] } } := I1.kept (t' := s1.toks) fun b o e => Heap.get?_push_of_some _ e
        refine call_list_range (n := n) (I2.ok.hd hcalm) (IsRange.new ..) hc.2.2.1 hc.2.2.2 (Nat.le_trans hn (by decide)) fun h' tk acc c' hk e' hi => ?_
        refine ⟨.ref _, upd H1 _ (.lst ((rg3 i k n).map V.int)), I2.laid hk (Nat.le_refl _) (show ObjOk X.prog X.w _ _ _ (.lst ((rg3 i k n).map V.int)) from ⟨?_, acc.toList, c', vals_rg3 hi, ?_⟩), rfl, q _ (I2.hok.fresh (Nat.le_refl _))⟩
        · rw [List.length_map]; unfold rg3; rw [List.length_map, List.length_range]; exact len_line hn
        · rw [Array.toArray_toList]; exact e'
end
/-! ### pictures -/
def grid {α : Type} (n m : Nat) (f : Nat → Nat → α) : List α := (List.range n).flatMap fun a => (List.range m).map (f a)
theorem grid_succ {α : Type} (n m : Nat) (f : Nat → Nat → α) : grid (n + 1) m f = grid n m f ++ (List.range m).map (f n) := by
  unfold grid
  rw [List.range_succ, List.flatMap_append]
  show _ ++ ((List.range m).map (f n) ++ []) = _
  rw [List.append_nil]
theorem grid_len {α : Type} (n m : Nat) (f : Nat → Nat → α) : (grid n m f).length = n * m := by
  induction n with
  | zero => rw [Nat.zero_mul]; rfl
  | succ n ih => rw [grid_succ, List.length_append, ih, List.length_map, List.length_range, Nat.succ_mul]
theorem grid_at {α : Type} (m : Nat) (f : Nat → Nat → α) : ∀ (n a b : Nat), a < n → b < m → (grid n m f)[a * m + b]? = some (f a b)
  | 0, a, b, h, _ => by omega
  | n + 1, a, b, h, hb => by
    rw [grid_succ]
    by_cases c : a < n
    · have h1 : a * m + b < (grid n m f).length := by
        rw [grid_len]
        have : (a + 1) * m ≤ n * m := Nat.mul_le_mul_right m c
        rw [Nat.succ_mul] at this; omega
      rw [List.getElem?_append_left h1]
      exact grid_at m f n a b c hb
    · have e : a = n := by omega
      subst e
      rw [List.getElem?_append_right (by rw [grid_len]; omega), grid_len, Nat.add_sub_cancel_left, List.getElem?_map, List.getElem?_range hb]; rfl
structure Pic where
  w : Nat
  h : Nat
  px : List Int
structure Wf (P : Pic) : Prop where
  len : P.px.length = P.w * P.h
  w0 : 0 < P.w
  h0 : 0 < P.h
  w1 : P.w ≤ 128
  h1 : P.h ≤ 128
def atP (P : Pic) (x y : Nat) : Int := P.px.getD (y * P.w + x) 0
def colour (P : Pic) (x y : Int) : Int := if 0 ≤ x ∧ x < P.w ∧ 0 ≤ y ∧ y < P.h then atP P x.toNat y.toNat else 0
def mirP (P : Pic) : Pic := ⟨P.w, P.h, grid P.h P.w fun y k => P.px.getD (y * P.w + (P.w - 1 - k)) 0⟩
def qtrP (P : Pic) : Pic := ⟨P.h, P.w, grid P.w P.h fun x k => P.px.getD ((P.h - 1 - k) * P.w + x) 0⟩
theorem Wf.mir {P : Pic} (h : Wf P) : Wf (mirP P) := ⟨by show (grid _ _ _).length = _; rw [grid_len]; exact Nat.mul_comm _ _, h.w0, h.h0, h.w1, h.h1⟩
theorem Wf.qtr {P : Pic} (h : Wf P) : Wf (qtrP P) := ⟨by show (grid _ _ _).length = _; rw [grid_len]; exact Nat.mul_comm _ _, h.h0, h.w0, h.h1, h.w1⟩
theorem mir_at {P : Pic} {x y : Nat} (hx : x < P.w) (hy : y < P.h) : atP (mirP P) (P.w - 1 - x) y = atP P x y := by
  unfold atP
  show (grid _ _ _).getD (y * P.w + (P.w - 1 - x)) 0 = _
  rw [List.getD_eq_getElem?_getD, grid_at _ _ _ _ _ hy (by omega), show P.w - 1 - (P.w - 1 - x) = x by omega]; rfl
theorem qtr_at {P : Pic} {x y : Nat} (hx : x < P.w) (hy : y < P.h) : atP (qtrP P) (P.h - 1 - y) x = atP P x y := by
  unfold atP
  show (grid _ _ _).getD (x * P.h + (P.h - 1 - y)) 0 = _
  rw [List.getD_eq_getElem?_getD, grid_at _ _ _ _ _ hx (by omega), show P.h - 1 - (P.h - 1 - y) = y by omega]; rfl
def itN {α : Type} (f : α → α) : Nat → α → α
  | 0, a => a
  | n + 1, a => f (itN f n a)
def turnP (P : Pic) (t : Nat) : Pic := itN qtrP (t % 4) (if 4 ≤ t then mirP P else P)
theorem wf_it {P : Pic} (h : Wf P) : ∀ n, Wf (itN qtrP n P)
  | 0 => h
  | n + 1 => (wf_it h n).qtr
theorem Wf.turn {P : Pic} (h : Wf P) (t : Nat) : Wf (turnP P t) := by
  unfold turnP
  refine wf_it ?_ _
  split
  · exact h.mir
  · exact h
def pF (w h : Int) (l : Addr) : List (Str × V) := [("width", .int w), ("height", .int h), ("pixels", .ref l)]
theorem pF_w (w h : Int) (l : Addr) : (pF w h l).lookup ("width" : Str) = some (.int w) := by unfold pF; rw [List.lookup_cons_self]
theorem pF_h (w h : Int) (l : Addr) : (pF w h l).lookup ("height" : Str) = some (.int h) := by
  unfold pF; rw [List.lookup_cons, show (("height" : Str) == ("width" : Str)) = false by decide +kernel]; rw [List.lookup_cons_self]
theorem pF_p (w h : Int) (l : Addr) : (pF w h l).lookup ("pixels" : Str) = some (.ref l) := by
  unfold pF; rw [List.lookup_cons, show (("pixels" : Str) == ("width" : Str)) = false by decide +kernel]
  show List.lookup _ _ = _
  rw [List.lookup_cons, show (("pixels" : Str) == ("height" : Str)) = false by decide +kernel]
  show List.lookup _ _ = _
  rw [List.lookup_cons_self]
theorem pF_no (w h : Int) (l : Addr) {m : Str} (h1 : (m == ("width" : Str)) = false) (h2 : (m == ("height" : Str)) = false) (h3 : (m == ("pixels" : Str)) = false) : (pF w h l).lookup m = none := by
  unfold pF
  rw [List.lookup_cons, h1]
  show List.lookup _ _ = _
  rw [List.lookup_cons, h2]
  show List.lookup _ _ = _
  rw [List.lookup_cons, h3]; rfl
theorem pF_1 (w h : Int) (l : Addr) : putF "pixels" (.ref l) (putF "height" (.int h) (putF "width" (.int w) [])) = pF w h l := by
  show putF "pixels" (.ref l) (if ("width" : Str) = "height" then _ else (("width" : Str), V.int w) :: putF "height" (.int h) []) = _
  rw [if_neg (by decide +kernel)]
  show (if ("width" : Str) = "pixels" then _ else (("width" : Str), V.int w) :: (if ("height" : Str) = "pixels" then _ else (("height" : Str), V.int h) :: putF "pixels" (.ref l) [])) = _
  rw [if_neg (by decide +kernel), if_neg (by decide +kernel)]; rfl
structure PicAt (C : Addr) (H : Hp) (o l : Addr) (P : Pic) : Prop where
  ob : ∃ dx, H o = some (.ins C dx (pF P.w P.h l))
  ls : H l = some (.lst (P.px.map V.int))
theorem PicAt.same {C o l : Addr} {H H' : Hp} {P : Pic} (h : PicAt C H o l P) (s : Same H H') : PicAt C H' o l P := by
  obtain ⟨dx, e⟩ := h.ob
  exact ⟨⟨dx, s _ _ e⟩, s _ _ h.ls⟩
/-- all but some objects -/
def ButOne (H H' : Hp) (o : Addr) : Prop := ∀ b u, H b = some u → b ≠ o → H' b = some u
theorem made_same {H H1 : Hp} {x dx C : Addr} (nx : H x = Option.none) (nd : H dx = Option.none) (k : ButOne (upd (upd H dx (.own x)) x (.ins C dx [])) H1 x) : Same H H1 := Same.made nx nd k
def sp_Picture___init__ (C : Addr) : Sp := fun vs H Q _ => ∃ (o dx : Addr) (w h : Int) (l : Addr), vs = [.ref o, .int w, .int h, .ref l] ∧ H o = some (.ins C dx []) ∧ ∀ H' : Hp, H' o = some (.ins C dx (pF w h l)) → ButOne H H' o → Q .non H'
theorem sc_Picture___init__ : FnScope ["self", "width", "height", "pixels"] ["self", "width", "height", "pixels"] (defScope s_Picture___init__) := ⟨rfl, rfl, rfl, by decide +kernel, rfl, by decide +kernel, by decide +kernel⟩
theorem ok_Picture___init__ (T : Txt K mg A) : FnOk P w K mg base CX0 1 A.fPicture___init__ A.dPicture___init__ ["self", "width", "height", "pixels"] (sp_Picture___init__ A.CPicture) := by
  refine T.FPicture___init__.ok sc_Picture___init__ (fun vs H Q E h => ?_) (fun cdv Ar outer s H vs Q E hr h => ?_)
  · obtain ⟨o, dx, wd, ht, l, rfl, _⟩ := h
    rfl
  · obtain ⟨o, dx, wd, ht, l, rfl, ho, q⟩ := h
    refine ⟨_, (pss_cons (ps_fld (pv 0) (pv 1) rfl)
      (pss_cons (ps_fld (pv 0) (pv 2) rfl)
      (pss_one (ps_fld (pv 0) (pv 3) rfl)))), ?_⟩
    refine ⟨_, rfl, _, rfl, o, _, dx, _, rfl, ho, T.clPicture, T.nPicture_width, (by show 0 < 1000; decide), ?_⟩
    refine ⟨_, rfl, _, rfl, o, _, dx, _, rfl, upd_same, T.clPicture, T.nPicture_height, (by show 1 < 1000; decide), ?_⟩
    refine ⟨_, rfl, _, rfl, o, _, dx, _, rfl, upd_same, T.clPicture, T.nPicture_pixels, ?_, ?_⟩
    · show (putF "height" (.int ht) (putF "width" (.int wd) [])).length < 1000
      show (if ("width" : Str) = "height" then _ else (("width" : Str), V.int wd) :: putF "height" (.int ht) []).length < 1000
      rw [if_neg (by decide +kernel)]; show 2 < 1000; decide
    refine q _ ?_ fun b u e hb => ?_
    · rw [upd_same]; exact congrArg (fun z => some (HO.ins _ dx z)) (pF_1 wd ht l)
    · rw [upd_ne hb, upd_ne hb, upd_ne hb]; exact e
def sp_Picture_colour_at (C : Addr) : Sp := fun vs H Q _ => ∃ (o l : Addr) (P : Pic) (x y : Int), vs = [.ref o, .int x, .int y] ∧ PicAt C H o l P ∧ Wf P ∧ Q (.int (colour P x y)) H
theorem sc_Picture_colour_at : FnScope ["self", "x", "y"] ["self", "x", "y"] (defScope s_Picture_colour_at) := ⟨rfl, rfl, rfl, by decide +kernel, rfl, by decide +kernel, by decide +kernel⟩
theorem px_at {P : Pic} (h : Wf P) {x y : Nat} (hx : x < P.w) (hy : y < P.h) : (P.px.map V.int)[y * P.w + x]? = some (.int (atP P x y)) := by
  have hlt : y * P.w + x < P.px.length := by
    rw [h.len]
    have : (y + 1) * P.w ≤ P.h * P.w := Nat.mul_le_mul_right _ hy
    rw [Nat.succ_mul, Nat.mul_comm P.h] at this
    omega
  unfold atP
  rw [List.getElem?_map, List.getElem?_eq_getElem hlt, List.getD_eq_getElem?_getD, List.getElem?_eq_getElem hlt]; rfl
theorem ok_Picture_colour_at (T : Txt K mg A) : FnOk P w K mg base CX0 1 A.fPicture_colour_at A.dPicture_colour_at ["self", "x", "y"] (sp_Picture_colour_at A.CPicture) := by
  refine T.FPicture_colour_at.ok sc_Picture_colour_at (fun vs H Q E h => ?_) (fun cdv Ar outer s H vs Q E hr h => ?_)
  · obtain ⟨o, l, P, x, y, rfl, _⟩ := h
    rfl
  · obtain ⟨o, l, Pc, x, y, rfl, hP, hw, q⟩ := h
    obtain ⟨dx, h1⟩ := hP.ob
    refine ⟨_, (pss_cons (ps_if (PW.pt (pw_and (pt_chain op_le op_lt pe_int (pv 1) (pe_fld (pv 0) rfl)) (pw_and1 (pt_chain op_le op_lt pe_int (pv 2) (pe_fld (pv 0) rfl)))))
      (pss_one (ps_ret (pe_ix (r := rIxL K) ix_list (pe_fld (pv 0) rfl) (pe_op op_add (pe_op op_mul (pv 2) (pe_fld (pv 0) rfl)) (pv 1)) (fun _ _ => rfl))))
      pss_nil)
      (pss_one (ps_ret (pe_glob (v := .int (0)) rfl T.gCLEAR ⟨_, rfl⟩)))), ?_⟩
    have out : ¬ (0 ≤ x ∧ x < Pc.w ∧ 0 ≤ y ∧ y < Pc.h) → Q (.int 0) H := fun c => by
      unfold colour at q; rw [if_neg c] at q; exact q
    have hw1 := hw.w1
    have hh1 := hw.h1
    refine ⟨_, rfl, _, _, rfl, rfl, _, rfl, iteP (fun c1 => ?_) (fun c1 => ⟨_, rfl, if_f rfl (out fun z => c1 z.1)⟩)⟩
    refine ⟨_, rfl, o, _, dx, _, _, rfl, h1, T.clPicture, T.nPicture_width, pF_w _ _ _, _, _, rfl, rfl, _, rfl, iteP (fun c2 => ?_) (fun c2 => out fun z => c2 z.2.1)⟩
    refine ⟨_, rfl, _, _, rfl, rfl, _, rfl, iteP (fun c3 => ?_) (fun c3 => ⟨_, rfl, if_f rfl (out fun z => c3 z.2.2.1)⟩)⟩
    refine ⟨_, rfl, o, _, dx, _, _, rfl, h1, T.clPicture, T.nPicture_height, pF_h _ _ _, _, _, rfl, rfl, _, rfl, iteP (fun c4 => ?_) (fun c4 => out fun z => c4 z.2.2.2)⟩
    unfold colour at q
    rw [if_pos ⟨c1, c2, c3, c4⟩] at q
    refine ⟨_, rfl, o, _, dx, _, _, rfl, h1, T.clPicture, T.nPicture_pixels, pF_p _ _ _, ?_⟩
    refine ⟨_, rfl, _, rfl, o, _, dx, _, _, rfl, h1, T.clPicture, T.nPicture_width, pF_w _ _ _, _, _, rfl, rfl, Or.inr ⟨by omega, by omega⟩, _, rfl, _, _, rfl, rfl, ?_⟩
    refine ⟨l, _, _, _, rfl, rfl, SqL.of hP.ls, at_of (j := y.toNat * Pc.w + x.toNat) ?_ (px_at hw (by omega) (by omega)), q⟩
    rw [Int.natCast_add, Int.natCast_mul, Int.toNat_of_nonneg c1, Int.toNat_of_nonneg c3]
/-- a new picture at o, its list at l -/
structure NewPic (C : Addr) (H H' : Hp) (o l : Addr) (P : Pic) : Prop where
  at_ : PicAt C H' o l P
  same : Same H H'
  no : H o = none
  nl : H l = none
/-! ### o.f as a target within a tuple of targets -/
def gFld (K : PySem.W.Frag) (to : TE) (f : Str) : TG := fun v σ H Q => to σ H fun x H1 => ∃ a C dx fs, x = .ref a ∧ H1 a = some (.ins C dx fs) ∧ Cls K C ∧ NoAttr K C f ∧ fs.length < 1000 ∧ Q σ (upd H1 a (.ins C dx (putF f v fs)))
theorem pg_fld {X : Cx} {o : Expr} {to : TE} {f : Str} {pos : Pos} (ho : PE X o to) : PG X (.Attribute o f pos) (gFld X.K to f) := by
  refine ⟨fun pins s σ H v u Q I r h => ?_⟩
  rw [assign_Attribute]
  refine wpAny_bind (wpAny_holding (thn (ho.run pins s σ H _ I h) fun ov s1 ⟨x, H1, I1, rx, a, C, dx, fs, ex, ea, c, n, l, q⟩ => ?_))
  subst ex
  obtain rfl : ov = Value.ref a := rx
  refine wpAny_bind (wpAny_standAt (wpAny_bind (wpAny_holding (setattr_ok I1 ea c n l r fun s3 I3 => ?_))))
  exact wpAny_release ⟨σ, _, I3, q⟩
/-! ### the way through a picture on which a turned one is met -/
theorem wlk_ne {k k' : Str} {v : V} {r : List (Str × V)} (h : (k == k') = false) : List.lookup k ((k', v) :: r) = List.lookup k r := by rw [List.lookup_cons, h]
theorem wpk_ne {f g : Str} {v x : V} {r : List (Str × V)} (h : g ≠ f) : putF f v ((g, x) :: r) = (g, x) :: putF f v r := by
  show (if g = f then _ else _) = _
  rw [if_neg h]
theorem wpk_eq {f : Str} {v x : V} {r : List (Str × V)} : putF f v ((f, x) :: r) = (f, v) :: r := by
  show (if f = f then _ else _) = _
  rw [if_pos rfl]
theorem wpk_new {f : Str} {v : V} : putF f v [] = [(f, v)] := rfl
def wF (w h f r d : Int) : List (Str × V) := [("width", .int w), ("height", .int h), ("first", .int f), ("right", .int r), ("down", .int d)]
theorem wF_w (w h f r d : Int) : (wF w h f r d).lookup ("width" : Str) = some (.int w) := by
  unfold wF
  rw [List.lookup_cons_self]
theorem wF_pw (w h f r d x : Int) : putF "width" (.int x) (wF w h f r d) = wF x h f r d := by
  unfold wF
  rw [wpk_eq]
theorem wF_h (w h f r d : Int) : (wF w h f r d).lookup ("height" : Str) = some (.int h) := by
  unfold wF
  rw [wlk_ne (by decide +kernel), List.lookup_cons_self]
theorem wF_ph (w h f r d x : Int) : putF "height" (.int x) (wF w h f r d) = wF w x f r d := by
  unfold wF
  rw [wpk_ne (by decide +kernel), wpk_eq]
theorem wF_f (w h f r d : Int) : (wF w h f r d).lookup ("first" : Str) = some (.int f) := by
  unfold wF
  rw [wlk_ne (by decide +kernel), wlk_ne (by decide +kernel), List.lookup_cons_self]
theorem wF_pf (w h f r d x : Int) : putF "first" (.int x) (wF w h f r d) = wF w h x r d := by
  unfold wF
  rw [wpk_ne (by decide +kernel), wpk_ne (by decide +kernel), wpk_eq]
theorem wF_r (w h f r d : Int) : (wF w h f r d).lookup ("right" : Str) = some (.int r) := by
  unfold wF
  rw [wlk_ne (by decide +kernel), wlk_ne (by decide +kernel), wlk_ne (by decide +kernel), List.lookup_cons_self]
theorem wF_pr (w h f r d x : Int) : putF "right" (.int x) (wF w h f r d) = wF w h f x d := by
  unfold wF
  rw [wpk_ne (by decide +kernel), wpk_ne (by decide +kernel), wpk_ne (by decide +kernel), wpk_eq]
theorem wF_d (w h f r d : Int) : (wF w h f r d).lookup ("down" : Str) = some (.int d) := by
  unfold wF
  rw [wlk_ne (by decide +kernel), wlk_ne (by decide +kernel), wlk_ne (by decide +kernel), wlk_ne (by decide +kernel), List.lookup_cons_self]
theorem wF_pd (w h f r d x : Int) : putF "down" (.int x) (wF w h f r d) = wF w h f r x := by
  unfold wF
  rw [wpk_ne (by decide +kernel), wpk_ne (by decide +kernel), wpk_ne (by decide +kernel), wpk_ne (by decide +kernel), wpk_eq]
theorem wF_no (w h f r d : Int) {m : Str} (h1 : (m == ("width" : Str)) = false) (h2 : (m == ("height" : Str)) = false) (h3 : (m == ("first" : Str)) = false) (h4 : (m == ("right" : Str)) = false) (h5 : (m == ("down" : Str)) = false) : (wF w h f r d).lookup m = none := by
  unfold wF
  rw [wlk_ne h1, wlk_ne h2, wlk_ne h3, wlk_ne h4, wlk_ne h5]; rfl
structure Wk where
  w : Nat
  h : Nat
  f : Int
  r : Int
  d : Int
def wkF (k : Wk) : List (Str × V) := wF k.w k.h k.f k.r k.d
def qtrW (k : Wk) : Wk := ⟨k.h, k.w, k.f + ((k.h : Int) - 1) * k.d, -k.d, k.r⟩
def begW (w h t : Nat) : Wk := if 4 ≤ t then ⟨w, h, (w : Int) - 1, -1, w⟩ else ⟨w, h, 0, 1, w⟩
def wayOf (w h t : Nat) : Wk := itN qtrW (t % 4) (begW w h t)
/-- the way k through P meets Q -/
structure Rep (P : Pic) (k : Wk) (Q : Pic) : Prop where
  ew : Q.w = k.w
  eh : Q.h = k.h
  wf : Wf Q
  r0 : k.r ≠ 0
  d0 : k.d ≠ 0
  rb : -128 ≤ k.r ∧ k.r ≤ 128
  db : -128 ≤ k.d ∧ k.d ≤ 128
  at_ : ∀ x y : Nat, x < Q.w → y < Q.h → 0 ≤ k.f + x * k.r + y * k.d ∧ k.f + x * k.r + y * k.d < P.px.length ∧ atP Q x y = P.px.getD (k.f + x * k.r + y * k.d).toNat 0
theorem Rep.fb {P Q : Pic} {k : Wk} (R : Rep P k Q) : 0 ≤ k.f ∧ k.f < P.px.length := by
  have h := R.at_ 0 0 R.wf.w0 R.wf.h0
  simp only [Int.natCast_zero, Int.zero_mul, Int.add_zero] at h
  exact ⟨h.1, h.2.1⟩
theorem Rep.self {P : Pic} (h : Wf P) : Rep P ⟨P.w, P.h, 0, 1, P.w⟩ P := by
  have hw0 := h.w0
  have hw1 := h.w1
  refine ⟨rfl, rfl, h, (by decide : (1 : Int) ≠ 0), by show (P.w : Int) ≠ 0; omega, (by decide : (-128 : Int) ≤ 1 ∧ (1 : Int) ≤ 128), ⟨by show -128 ≤ (P.w : Int); omega, by show (P.w : Int) ≤ 128; omega⟩, fun x y hx hy => ?_⟩
  show 0 ≤ 0 + (x : Int) * 1 + y * P.w ∧ 0 + (x : Int) * 1 + y * P.w < P.px.length ∧ _ = P.px.getD (0 + (x : Int) * 1 + y * P.w).toNat 0
  have e : 0 + (x : Int) * 1 + y * P.w = ((y * P.w + x : Nat) : Int) := by rw [Int.natCast_add, Int.natCast_mul]; omega
  have hlt : y * P.w + x < P.px.length := by
    rw [h.len]
    have : (y + 1) * P.w ≤ P.h * P.w := Nat.mul_le_mul_right _ hy
    rw [Nat.succ_mul, Nat.mul_comm P.h] at this
    omega
  rw [e]
  refine ⟨by omega, by omega, ?_⟩
  rw [Int.toNat_natCast]; rfl
theorem Rep.mir {P : Pic} (h : Wf P) : Rep P ⟨P.w, P.h, (P.w : Int) - 1, -1, P.w⟩ (mirP P) := by
  have hw0 := h.w0
  have hw1 := h.w1
  refine ⟨rfl, rfl, h.mir, (by decide : (-1 : Int) ≠ 0), by show (P.w : Int) ≠ 0; omega, (by decide : (-128 : Int) ≤ -1 ∧ (-1 : Int) ≤ 128), ⟨by show -128 ≤ (P.w : Int); omega, by show (P.w : Int) ≤ 128; omega⟩, fun x y hx hy => ?_⟩
  have hx' : x < P.w := hx
  have hy' : y < P.h := hy
  have a := mir_at (x := P.w - 1 - x) (y := y) (P := P) (by omega) hy'
  rw [show P.w - 1 - (P.w - 1 - x) = x by omega] at a
  have s := (Rep.self h).at_ (P.w - 1 - x) y (by omega) hy'
  have e : ((P.w : Int) - 1) + (x : Int) * -1 + y * P.w = 0 + ((P.w - 1 - x : Nat) : Int) * 1 + y * P.w := by omega
  show 0 ≤ ((P.w : Int) - 1) + (x : Int) * -1 + y * P.w ∧ ((P.w : Int) - 1) + (x : Int) * -1 + y * P.w < P.px.length ∧ _ = P.px.getD (((P.w : Int) - 1) + (x : Int) * -1 + y * P.w).toNat 0
  rw [e, a]
  exact s
theorem Rep.qtr {P Q : Pic} {k : Wk} (R : Rep P k Q) : Rep P (qtrW k) (qtrP Q) := by
  have rb := R.rb
  have db := R.db
  have r0 := R.r0
  have d0 := R.d0
  refine ⟨R.eh, R.ew, R.wf.qtr, by show -k.d ≠ 0; omega, r0, ⟨by show -128 ≤ -k.d; omega, by show -k.d ≤ 128; omega⟩, rb, fun x y hx hy => ?_⟩
  have hx' : x < Q.h := hx
  have hy' : y < Q.w := hy
  have a := qtr_at (P := Q) (x := y) (y := Q.h - 1 - x) hy' (by omega)
  rw [show Q.h - 1 - (Q.h - 1 - x) = x by omega] at a
  have s := R.at_ y (Q.h - 1 - x) hy' (by omega)
  have e : (k.f + ((k.h : Int) - 1) * k.d) + (x : Int) * -k.d + y * k.r = k.f + y * k.r + ((Q.h - 1 - x : Nat) : Int) * k.d := by
    rw [show ((Q.h - 1 - x : Nat) : Int) = ((k.h : Int) - 1) - x by have := R.eh; omega, Int.sub_mul ((k.h : Int) - 1) x k.d, Int.mul_neg]
    generalize ((k.h : Int) - 1) * k.d = z
    omega
  show 0 ≤ (k.f + ((k.h : Int) - 1) * k.d) + (x : Int) * -k.d + y * k.r ∧ (k.f + ((k.h : Int) - 1) * k.d) + (x : Int) * -k.d + y * k.r < P.px.length ∧ _ = P.px.getD ((k.f + ((k.h : Int) - 1) * k.d) + (x : Int) * -k.d + y * k.r).toNat 0
  rw [e, a]
  exact s
theorem Rep.it {P Q : Pic} {k : Wk} (R : Rep P k Q) : ∀ n, Rep P (itN qtrW n k) (itN qtrP n Q)
  | 0 => R
  | n + 1 => (R.it n).qtr
theorem Rep.beg {P : Pic} (h : Wf P) (t : Nat) : Rep P (begW P.w P.h t) (if 4 ≤ t then mirP P else P) := by
  unfold begW
  split
  · exact Rep.mir h
  · exact Rep.self h
theorem Rep.turn {P : Pic} (h : Wf P) (t : Nat) : Rep P (wayOf P.w P.h t) (turnP P t) := (Rep.beg h t).it _
theorem RgC.step {i c : Int} {m : Nat} (hc : c ≠ 0) (hb : -128 ≤ c ∧ c ≤ 128) (hi : -1000000 ≤ i ∧ i ≤ 1000000) (hm : m ≤ 128) : RgC i (i + m * c) c m := by
  have hmc : -(128 * 128) ≤ (m : Int) * c ∧ (m : Int) * c ≤ 128 * 128 := by
    have h1 : ((m : Int) * c).natAbs ≤ 128 * 128 := by
      rw [Int.natAbs_mul]
      exact Nat.mul_le_mul (by omega) (by omega)
    omega
  have sz : Builtin.Range.rangeSize i (i + m * c) c = m := by
    unfold Builtin.Range.rangeSize
    by_cases hp : c > 0
    · rw [if_pos hp]
      by_cases m0 : m = 0
      · subst m0; rw [if_neg (by simp)]; rfl
      · have p : 0 < (m : Int) * c := Int.mul_pos (by omega) hp
        rw [if_pos (by omega), show i + (m : Int) * c - i - 1 = (c - 1) + ((m : Int) - 1) * c by rw [Int.sub_mul]; omega, Int.add_mul_ediv_right _ _ (by omega), Int.ediv_eq_zero_of_lt (by omega) (by omega)]
        omega
    · rw [if_neg hp]
      by_cases m0 : m = 0
      · subst m0; rw [if_neg (by simp)]; rfl
      · have p : 0 < (m : Int) * -c := Int.mul_pos (by omega) (by omega)
        rw [Int.mul_neg] at p
        rw [if_pos (by omega), show i - (i + (m : Int) * c) - 1 = (-c - 1) + ((m : Int) - 1) * -c by rw [Int.sub_mul, Int.mul_neg]; omega, Int.add_mul_ediv_right _ _ (by omega), Int.ediv_eq_zero_of_lt (by omega) (by omega)]
        omega
  refine ⟨hc, by omega, ?_, sz⟩
  unfold Builtin.Range.small
  rw [sz]
  simp only [Builtin.Range.rangeFitsLong, Bool.and_eq_true, Bool.or_eq_true, decide_eq_true_eq, beq_iff_eq]
  refine ⟨⟨⟨⟨by omega, by omega⟩, by omega⟩, by omega⟩, .inr ?_⟩
  split <;> (simp only [Bool.and_eq_true, decide_eq_true_eq]; omega)
def sp_Walk__make_quarter (C : Addr) : Sp := fun vs H Q _ => ∃ (o dx : Addr) (w h f r d : Int), vs = [.ref o] ∧ H o = some (.ins C dx (wF w h f r d)) ∧ (-1000 ≤ h ∧ h ≤ 1000) ∧ ∀ H' : Hp, H' o = some (.ins C dx (wF h w (f + (h - 1) * d) (-d) r)) → ButOne H H' o → Q .non H'
theorem sc_Walk__make_quarter : FnScope ["self"] ["self"] (defScope s_Walk__make_quarter) := ⟨rfl, rfl, rfl, by decide +kernel, rfl, by decide +kernel, by decide +kernel⟩
theorem ok_Walk__make_quarter (T : Txt K mg A) : FnOk P w K mg base CX0 1 A.fWalk__make_quarter A.dWalk__make_quarter ["self"] (sp_Walk__make_quarter A.CWalk) := by
  refine T.FWalk__make_quarter.ok sc_Walk__make_quarter (fun vs H Q E h => ?_) (fun cdv Ar outer s H vs Q E hr h => ?_)
  · obtain ⟨o, dx, wd, ht, f, r, d, rfl, _⟩ := h
    rfl
  · obtain ⟨o, dx, wd, ht, f, r, d, rfl, ho, hb, q⟩ := h
    refine ⟨_, (pss_cons (ps_fldaug (pv 0) (pe_op op_mul (pe_op op_sub (pe_fld (pv 0) rfl) pe_int) (pe_fld (pv 0) rfl)) in_add)
      (pss_cons (ps_asg (pe_tup (pa_cons (pe_un un_neg (pe_fld (pv 0) rfl)) (pa_cons (pe_fld (pv 0) rfl) pa_nil))) (pg_tup rfl (pgs_cons (pg_fld (pv 0)) (pgs_cons (pg_fld (pv 0)) pgs_nil))))
      (pss_one (ps_asg (pe_tup (pa_cons (pe_fld (pv 0) rfl) (pa_cons (pe_fld (pv 0) rfl) pa_nil))) (pg_tup rfl (pgs_cons (pg_fld (pv 0)) (pgs_cons (pg_fld (pv 0)) pgs_nil))))))), ?_⟩
    refine ⟨_, rfl, o, _, dx, _, _, rfl, ho, T.clWalk, T.nWalk_first, wF_f _ _ _ _ _, ?_⟩
    refine ⟨_, rfl, o, _, dx, _, _, rfl, ho, T.clWalk, T.nWalk_height, wF_h _ _ _ _ _, _, _, rfl, rfl, _, rfl, o, _, dx, _, _, rfl, ho, T.clWalk, T.nWalk_down, wF_d _ _ _ _ _, _, _, rfl, rfl, (Or.inl ⟨by omega, by omega⟩ : CMul _ _), ?_⟩
    refine ⟨_, _, rfl, rfl, dx, _, ho, (by show 5 < 1000; decide), ?_⟩
    have e1 : (upd H o (.ins A.CWalk dx (putF "first" (.int (f + (ht - 1) * d)) (wF wd ht f r d)))) o = some (.ins A.CWalk dx (wF wd ht (f + (ht - 1) * d) r d)) := by rw [upd_same, wF_pf]
    have b1 : ButOne H (upd H o (.ins A.CWalk dx (putF "first" (.int (f + (ht - 1) * d)) (wF wd ht f r d)))) o := fun b u e hb => by rw [upd_ne hb]; exact e
    generalize upd H o (.ins A.CWalk dx (putF "first" (.int (f + (ht - 1) * d)) (wF wd ht f r d))) = H1 at e1 b1 ⊢
    refine ⟨_, rfl, o, _, dx, _, _, rfl, e1, T.clWalk, T.nWalk_down, wF_d _ _ _ _ _, _, rfl, _, rfl, o, _, dx, _, _, rfl, e1, T.clWalk, T.nWalk_right, wF_r _ _ _ _ _, len_line (by show 2 ≤ 100000; decide), fun p hp => ?_⟩
    have s1 := same_upd (o := .tup [.int (-d), .int r]) hp
    have q1 : SqT K (upd H1 p (.tup [.int (-d), .int r])) p [.int (-d), .int r] := SqT.of upd_same
    generalize upd H1 p (.tup [.int (-d), .int r]) = H2 at s1 q1 ⊢
    have e2 := s1 _ _ e1
    refine ⟨p, _, rfl, q1, rfl, _, _, rfl, _, rfl, o, _, dx, _, rfl, e2, T.clWalk, T.nWalk_right, (by show 5 < 1000; decide), ?_⟩
    have e3 : (upd H2 o (.ins A.CWalk dx (putF "right" (.int (-d)) (wF wd ht (f + (ht - 1) * d) r d)))) o = some (.ins A.CWalk dx (wF wd ht (f + (ht - 1) * d) (-d) d)) := by rw [upd_same, wF_pr]
    have b3 : ButOne H (upd H2 o (.ins A.CWalk dx (putF "right" (.int (-d)) (wF wd ht (f + (ht - 1) * d) r d)))) o := fun b u e hb => by rw [upd_ne hb]; exact s1 _ _ (b1 b u e hb)
    generalize upd H2 o (.ins A.CWalk dx (putF "right" (.int (-d)) (wF wd ht (f + (ht - 1) * d) r d))) = H3 at e3 b3 ⊢
    refine ⟨_, _, rfl, _, rfl, o, _, dx, _, rfl, e3, T.clWalk, T.nWalk_down, (by show 5 < 1000; decide), rfl, ?_⟩
    have e4 : (upd H3 o (.ins A.CWalk dx (putF "down" (.int r) (wF wd ht (f + (ht - 1) * d) (-d) d)))) o = some (.ins A.CWalk dx (wF wd ht (f + (ht - 1) * d) (-d) r)) := by rw [upd_same, wF_pd]
    have b4 : ButOne H (upd H3 o (.ins A.CWalk dx (putF "down" (.int r) (wF wd ht (f + (ht - 1) * d) (-d) d)))) o := fun b u e hb => by rw [upd_ne hb]; exact b3 b u e hb
    generalize upd H3 o (.ins A.CWalk dx (putF "down" (.int r) (wF wd ht (f + (ht - 1) * d) (-d) d))) = H4 at e4 b4 ⊢
    refine ⟨_, rfl, o, _, dx, _, _, rfl, e4, T.clWalk, T.nWalk_height, wF_h _ _ _ _ _, _, rfl, o, _, dx, _, _, rfl, e4, T.clWalk, T.nWalk_width, wF_w _ _ _ _ _, len_line (by show 2 ≤ 100000; decide), fun p2 hp2 => ?_⟩
    have s5 := same_upd (o := .tup [.int ht, .int wd]) hp2
    have q5 : SqT K (upd H4 p2 (.tup [.int ht, .int wd])) p2 [.int ht, .int wd] := SqT.of upd_same
    generalize upd H4 p2 (.tup [.int ht, .int wd]) = H5 at s5 q5 ⊢
    have e5 := s5 _ _ e4
    refine ⟨p2, _, rfl, q5, rfl, _, _, rfl, _, rfl, o, _, dx, _, rfl, e5, T.clWalk, T.nWalk_width, (by show 5 < 1000; decide), ?_⟩
    have e6 : (upd H5 o (.ins A.CWalk dx (putF "width" (.int ht) (wF wd ht (f + (ht - 1) * d) (-d) r)))) o = some (.ins A.CWalk dx (wF ht ht (f + (ht - 1) * d) (-d) r)) := by rw [upd_same, wF_pw]
    refine ⟨_, _, rfl, _, rfl, o, _, dx, _, rfl, e6, T.clWalk, T.nWalk_height, (by show 5 < 1000; decide), rfl, ?_⟩
    refine q _ (by rw [upd_same, wF_ph]) fun b u e hb => ?_
    rw [upd_ne hb, upd_ne hb]
    exact s5 _ _ (b4 b u e hb)
def wF2 (w h : Int) : List (Str × V) := [("width", .int w), ("height", .int h)]
def wF3 (w h f : Int) : List (Str × V) := [("width", .int w), ("height", .int h), ("first", .int f)]
def wF4 (w h f r : Int) : List (Str × V) := [("width", .int w), ("height", .int h), ("first", .int f), ("right", .int r)]
theorem wF_2 (w h : Int) : putF "height" (.int h) (putF "width" (.int w) []) = wF2 w h := by
  rw [wpk_new, wpk_ne (by decide +kernel), wpk_new]; rfl
theorem wF_3 (w h f : Int) : putF "first" (.int f) (wF2 w h) = wF3 w h f := by
  unfold wF2
  rw [wpk_ne (by decide +kernel), wpk_ne (by decide +kernel), wpk_new]; rfl
theorem wF_4 (w h f r : Int) : putF "right" (.int r) (wF3 w h f) = wF4 w h f r := by
  unfold wF3
  rw [wpk_ne (by decide +kernel), wpk_ne (by decide +kernel), wpk_ne (by decide +kernel), wpk_new]; rfl
theorem wF_5 (w h f r d : Int) : putF "down" (.int d) (wF4 w h f r) = wF w h f r d := by
  unfold wF4
  rw [wpk_ne (by decide +kernel), wpk_ne (by decide +kernel), wpk_ne (by decide +kernel), wpk_ne (by decide +kernel), wpk_new]; rfl
def WkAt (C : Addr) (H : Hp) (o : Addr) (k : Wk) : Prop := ∃ dx, H o = some (.ins C dx (wkF k))
theorem WkAt.same {C o : Addr} {H H' : Hp} {k : Wk} (h : WkAt C H o k) (s : Same H H') : WkAt C H' o k := by
  obtain ⟨dx, e⟩ := h
  exact ⟨dx, s _ _ e⟩
theorem itW_b (w h : Nat) (t n : Nat) (hw : w ≤ 128) (hh : h ≤ 128) : (itN qtrW n (begW w h t)).w ≤ 128 ∧ (itN qtrW n (begW w h t)).h ≤ 128 := by
  induction n with
  | zero =>
    show (begW w h t).w ≤ 128 ∧ (begW w h t).h ≤ 128
    unfold begW
    split <;> exact ⟨hw, hh⟩
  | succ n ih => exact ⟨ih.2, ih.1⟩
def sp_Walk___init__ (C : Addr) : Sp := fun vs H Q _ => ∃ (o dx : Addr) (w h t : Nat), vs = [.ref o, .int (w : Int), .int (h : Int), .int (t : Int)] ∧ H o = some (.ins C dx []) ∧ w ≤ 128 ∧ h ≤ 128 ∧ ∀ H' : Hp, H' o = some (.ins C dx (wkF (wayOf w h t))) → ButOne H H' o → Q .non H'
theorem sc_Walk___init__ : FnScope ["self", "width", "height", "turn", "_"] ["self", "width", "height", "turn"] (defScope s_Walk___init__) := ⟨rfl, rfl, rfl, by decide +kernel, rfl, by decide +kernel, by decide +kernel⟩
theorem ok_Walk___init__ (T : Txt K mg A) : FnOk P w K mg base CX0 2 A.fWalk___init__ A.dWalk___init__ ["self", "width", "height", "turn"] (sp_Walk___init__ A.CWalk) := by
  refine T.FWalk___init__.ok sc_Walk___init__ (fun vs H Q E h => ?_) (fun cdv Ar outer s H vs Q E hr h => ?_)
  · obtain ⟨o, dx, wd, ht, t, rfl, _⟩ := h
    rfl
  · obtain ⟨o, dx, wd, ht, t, rfl, ho, hw, hh, q⟩ := h
    refine ⟨_, (pss_cons (ps_fld (pv 0) (pv 1) rfl)
      (pss_cons (ps_fld (pv 0) (pv 2) rfl)
      (pss_cons (ps_fld (pv 0) pe_int rfl)
      (pss_cons (ps_fld (pv 0) pe_int rfl)
      (pss_cons (ps_fld (pv 0) (pv 1) rfl)
      (C8.pss_cut (ps_if (pt_cmpR op_ge (pv 3) pe_int (nomark _))
      (pss_cons (ps_fld (pv 0) (pe_op op_sub (pv 1) pe_int) rfl)
      (pss_one (ps_fld (pv 0) (pe_un un_neg pe_int) rfl)))
      pss_nil)
      (pss_one (ps_for PassesOwn.never rfl (pi_range1 (by rfl) T.range (pa_cons (pe_op op_mod (pv 3) pe_int) pa_nil)) (pg_name (i := 4) sc_Walk___init__.nd rfl (Or.inl rfl))
      (pss_one (ps_expr (pe_meth0 (pv 0) T.clWalk T.mWalk__make_quarter (ok_Walk__make_quarter T) (hr.mono (by decide)) T.bWalk__make_quarter .nil pass0))))))))))), ?_⟩
    refine ⟨_, rfl, _, rfl, o, _, dx, _, rfl, ho, T.clWalk, T.nWalk_width, (by show 0 < 1000; decide), ?_⟩
    refine ⟨_, rfl, _, rfl, o, _, dx, _, rfl, upd_same, T.clWalk, T.nWalk_height, (by rw [wpk_new]; show 1 < 1000; decide), ?_⟩
    rw [wF_2]
    refine ⟨_, rfl, o, _, dx, _, rfl, upd_same, T.clWalk, T.nWalk_first, (by show 2 < 1000; decide), ?_⟩
    rw [wF_3]
    refine ⟨_, rfl, o, _, dx, _, rfl, upd_same, T.clWalk, T.nWalk_right, (by show 3 < 1000; decide), ?_⟩
    rw [wF_4]
    refine ⟨_, rfl, _, rfl, o, _, dx, _, rfl, upd_same, T.clWalk, T.nWalk_down, (by show 4 < 1000; decide), ?_⟩
    rw [wF_5]
    have b1 : ButOne H (upd (upd (upd (upd (upd H o (.ins A.CWalk dx (putF "width" (.int (wd : Int)) []))) o (.ins A.CWalk dx (wF2 wd ht))) o (.ins A.CWalk dx (wF3 wd ht 0))) o (.ins A.CWalk dx (wF4 wd ht 0 1))) o (.ins A.CWalk dx (wF wd ht 0 1 wd))) o := fun b u e hb => by rw [upd_ne hb, upd_ne hb, upd_ne hb, upd_ne hb, upd_ne hb]; exact e
    have e1 : (upd (upd (upd (upd (upd H o (.ins A.CWalk dx (putF "width" (.int (wd : Int)) []))) o (.ins A.CWalk dx (wF2 wd ht))) o (.ins A.CWalk dx (wF3 wd ht 0))) o (.ins A.CWalk dx (wF4 wd ht 0 1))) o (.ins A.CWalk dx (wF wd ht 0 1 wd))) o = some (.ins A.CWalk dx (wF wd ht 0 1 wd)) := upd_same
    generalize upd (upd (upd (upd (upd H o (.ins A.CWalk dx (putF "width" (.int (wd : Int)) []))) o (.ins A.CWalk dx (wF2 wd ht))) o (.ins A.CWalk dx (wF3 wd ht 0))) o (.ins A.CWalk dx (wF4 wd ht 0 1))) o (.ins A.CWalk dx (wF wd ht 0 1 wd)) = H1 at b1 e1 ⊢
    refine ⟨fun σ' H' => σ' = [some (.ref o), some (.int (wd : Int)), some (.int (ht : Int)), some (.int (t : Int)), none] ∧ H' o = some (.ins A.CWalk dx (wkF (begW wd ht t))) ∧ ButOne H H' o, ?_, ?_⟩
    · refine ⟨_, rfl, _, _, rfl, rfl, _, rfl, iteP (fun c => ?_) (fun c => ?_)⟩
      · refine ⟨_, rfl, _, _, rfl, rfl, _, rfl, o, _, dx, _, rfl, e1, T.clWalk, T.nWalk_first, (by show 5 < 1000; decide), ?_⟩
        rw [wF_pf]
        refine ⟨_, rfl, _, rfl, o, _, dx, _, rfl, upd_same, T.clWalk, T.nWalk_right, (by show 5 < 1000; decide), rfl, ?_, fun b u e hb => ?_⟩
        · rw [upd_same, wF_pr]
          unfold begW
          rw [if_pos (by omega)]; rfl
        · rw [upd_ne hb, upd_ne hb]; exact b1 b u e hb
      · refine ⟨rfl, ?_, b1⟩
        unfold begW
        rw [if_neg (by omega)]; exact e1
    rintro σ' H2 ⟨rfl, e2, b2⟩
    have et : (t : Int) % 4 = ((t % 4 : Nat) : Int) := (Int.natCast_emod _ _).symm
    refine ⟨_, rfl, _, _, rfl, rfl, by show (0 : Int) < 4; decide, _, rfl, by rw [et]; omega, by rw [et]; omega, ?_⟩
    have e4 : ((t : Int) % 4).toNat = t % 4 := by rw [et]; omega
    refine for_range (lo := 0) (n := ((t : Int) % 4).toNat) (fun i σ H' => ∃ v : Option V, σ = [some (.ref o), some (.int (wd : Int)), some (.int (ht : Int)), some (.int (t : Int)), v] ∧ H' o = some (.ins A.CWalk dx (wkF (itN qtrW i (begW wd ht t)))) ∧ ButOne H H' o) ⟨none, rfl, e2, b2⟩ ?_ ?_
    · rintro i σ H5 hi ⟨v, rfl, e5, b5⟩
      have hb := itW_b wd ht t i hw hh
      refine ⟨_, rfl, o, dx, _, rfl, e5, wF_no _ _ _ _ _ (by decide +kernel) (by decide +kernel) (by decide +kernel) (by decide +kernel) (by decide +kernel), o, dx, _, _, _, _, _, rfl, e5, ⟨by omega, by omega⟩, fun H6 e6 b6 => ⟨_, rfl, e6, fun b u e hb => b6 b u (b5 b u e hb) hb⟩⟩
    · rintro σ H5 ⟨v, rfl, e5, b5⟩
      rw [e4] at e5
      exact q _ e5 b5
def wayL (k : Wk) (x y : Int) (m : Nat) : List Int := (List.range m).map fun i : Nat => k.f + x * k.r + y * k.d + i * k.r
def sp_Walk_row_places (C : Addr) : Sp := fun vs H Q _ => ∃ (o : Addr) (k : Wk) (x y : Int) (m : Nat), vs = [.ref o, .int x, .int y, .int (m : Int)] ∧ WkAt C H o k ∧ k.r ≠ 0 ∧ (-128 ≤ k.r ∧ k.r ≤ 128) ∧ (-128 ≤ k.d ∧ k.d ≤ 128) ∧ (-20000 ≤ k.f ∧ k.f ≤ 20000) ∧ (-1000 ≤ x ∧ x ≤ 1000) ∧ (-1000 ≤ y ∧ y ≤ 1000) ∧ m ≤ 128 ∧
  ∀ p H', Same H H' → H p = none → H' p = some (.lst ((wayL k x y m).map V.int)) → Q (.ref p) H'
theorem sc_Walk_row_places : FnScope ["self", "x", "y", "many", "begin"] ["self", "x", "y", "many"] (defScope s_Walk_row_places) := ⟨rfl, rfl, rfl, by decide +kernel, rfl, by decide +kernel, by decide +kernel⟩
theorem ok_Walk_row_places (T : Txt K mg A) : FnOk P w K mg base CX0 1 A.fWalk_row_places A.dWalk_row_places ["self", "x", "y", "many"] (sp_Walk_row_places A.CWalk) := by
  refine T.FWalk_row_places.ok sc_Walk_row_places (fun vs H Q E h => ?_) (fun cdv Ar outer s H vs Q E hr h => ?_)
  · obtain ⟨_, _, _, _, _, rfl, _⟩ := h
    rfl
  · obtain ⟨o, k, x, y, m, rfl, ⟨dx, ho⟩, r0, rb, db, fb, xb, yb, mb, q⟩ := h
    refine ⟨_, (pss_cons (ps_set (i := 4) sc_Walk_row_places.nd rfl (Or.inl rfl) (pe_op op_add (pe_op op_add (pe_fld (pv 0) rfl) (pe_op op_mul (pv 1) (pe_fld (pv 0) rfl))) (pe_op op_mul (pv 2) (pe_fld (pv 0) rfl))))
      (pss_one (ps_ret (pe_listRg3 rfl (by rfl) T.list (by rfl) T.range (pa_cons (pv 4) (pa_cons (pe_op op_add (pv 4) (pe_op op_mul (pv 3) (pe_fld (pv 0) rfl))) (pa_cons (pe_fld (pv 0) rfl) pa_nil))))))), ?_⟩
    refine ⟨_, rfl, o, _, dx, _, _, rfl, ho, T.clWalk, T.nWalk_first, wF_f _ _ _ _ _, ?_⟩
    refine ⟨_, rfl, _, rfl, o, _, dx, _, _, rfl, ho, T.clWalk, T.nWalk_right, wF_r _ _ _ _ _, _, _, rfl, rfl, (Or.inl ⟨by omega, by omega⟩ : CMul _ _), _, _, rfl, rfl, ?_⟩
    refine ⟨_, rfl, _, rfl, o, _, dx, _, _, rfl, ho, T.clWalk, T.nWalk_down, wF_d _ _ _ _ _, _, _, rfl, rfl, (Or.inl ⟨by omega, by omega⟩ : CMul _ _), _, _, rfl, rfl, ?_⟩
    have hx : -(1000 * 128) ≤ x * k.r ∧ x * k.r ≤ 1000 * 128 := by
      have h1 : (x * k.r).natAbs ≤ 1000 * 128 := by
        rw [Int.natAbs_mul]; exact Nat.mul_le_mul (by omega) (by omega)
      omega
    have hy : -(1000 * 128) ≤ y * k.d ∧ y * k.d ≤ 1000 * 128 := by
      have h1 : (y * k.d).natAbs ≤ 1000 * 128 := by
        rw [Int.natAbs_mul]; exact Nat.mul_le_mul (by omega) (by omega)
      omega
    refine ⟨_, rfl, _, rfl, _, rfl, _, rfl, o, _, dx, _, _, rfl, ho, T.clWalk, T.nWalk_right, wF_r _ _ _ _ _, _, _, rfl, rfl, (Or.inr ⟨by omega, by omega⟩ : CMul _ _), _, _, rfl, rfl, _, rfl, o, _, dx, _, _, rfl, ho, T.clWalk, T.nWalk_right, wF_r _ _ _ _ _, _, _, _, m, rfl, RgC.step r0 rb (by omega) mb, by omega, fun p hp => ?_⟩
    exact q p _ (same_upd hp) hp upd_same
theorem px_grid {Q : Pic} (h : Wf Q) : grid Q.h Q.w (fun y x => atP Q x y) = Q.px := by
  refine List.ext_getElem? fun n => ?_
  by_cases c : n < Q.w * Q.h
  · have h1 : n % Q.w < Q.w := Nat.mod_lt _ h.w0
    have h2 : n / Q.w < Q.h := Nat.div_lt_of_lt_mul c
    have e : n / Q.w * Q.w + n % Q.w = n := Nat.div_add_mod' n Q.w
    have g := grid_at Q.w (fun y x => atP Q x y) Q.h (n / Q.w) (n % Q.w) h2 h1
    rw [e] at g
    rw [g]
    unfold atP
    have hl : n < Q.px.length := by rw [h.len]; exact c
    rw [e, List.getD_eq_getElem?_getD, List.getElem?_eq_getElem hl]; rfl
  · rw [List.getElem?_eq_none (by rw [grid_len, Nat.mul_comm]; omega), List.getElem?_eq_none (by rw [h.len]; omega)]
theorem sc_Picture_turned : FnScope ["self", "turn", "walk", "pixels", "y", "at"] ["self", "turn"] (defScope s_Picture_turned) := ⟨rfl, rfl, rfl, by decide +kernel, rfl, by decide +kernel, by decide +kernel⟩
def sp_Picture_turned (C : Addr) : Sp := fun vs H Q _ => ∃ (o l : Addr) (P : Pic) (t : Nat), vs = [.ref o, .int (t : Int)] ∧ PicAt C H o l P ∧ Wf P ∧ t < 8 ∧ ∀ (o' l' : Addr) (H' : Hp), NewPic C H H' o' l' (turnP P t) → Q (.ref o') H'
theorem ok_Picture_turned (T : Txt K mg A) : FnOk P w K mg base CX0 4 A.fPicture_turned A.dPicture_turned ["self", "turn"] (sp_Picture_turned A.CPicture) := by
  refine T.FPicture_turned.ok sc_Picture_turned (fun vs H Q E h => ?_) (fun cdv Ar outer s H vs Q E hr h => ?_)
  · obtain ⟨o, l, P, t, rfl, _⟩ := h
    rfl
  · obtain ⟨o, l, Pc, t, rfl, hP, hw, ht, q⟩ := h
    obtain ⟨dx, h1⟩ := hP.ob
    have hw0 := hw.w0
    have hh0 := hw.h0
    have hw1 := hw.w1
    have hh1 := hw.h1
    refine ⟨_, (pss_cons (ps_set (i := 2) sc_Picture_turned.nd rfl (Or.inl rfl) (pe_make T.MWalk (ok_Walk___init__ T) (hr.mono (by decide)) rfl T.gWalk T.bWalk___init__ .nil pass0 (pa_cons (pe_fld (pv 0) rfl) (pa_cons (pe_fld (pv 0) rfl) (pa_cons (pv 1) pa_nil)))))
      (pss_cons (ps_set (i := 3) sc_Picture_turned.nd rfl (Or.inl rfl) (pe_lst pa_nil))
      (pss_cons (ps_for PassesOwn.never rfl (pi_range1 (by rfl) T.range (pa_cons (pe_fld (pv 2) rfl) pa_nil)) (pg_name (i := 4) sc_Picture_turned.nd rfl (Or.inl rfl))
      (pss_one (ps_expr (pe_bm PySem.F.plainAttrs_list PySem.F.slot_list_extend PySem.F.type_list_extend mt_extend (pv 3) (pa_cons (pe_lc (own := [("at", 5)]) (g := (gName 5)) (te := (tOp (rIxL K) (tFld K (tVar 0) "pixels") (tVar 5))) (tt := tYes) rfl sc_Picture_turned.nd (pi_list (pe_meth (pv 2) T.clWalk T.mWalk_row_places (ok_Walk_row_places T) (hr.mono (by decide)) T.bWalk_row_places .nil pass0 (pa_cons pe_int (pa_cons (pv 4) (pa_cons (pe_fld (pv 2) rfl) pa_nil))))) (blkOk_by (own := [("at", 5)]) (N := ["self", "turn", "walk", "pixels", "y", "at"]) (sc := defScope s_Picture_turned) (by decide +kernel)) (fun _ _ _ _ _ => (pg_name (i := 5) sc_Picture_turned.nd rfl (Or.inl rfl))) (fun _ _ _ _ _ => pts_nil) (fun _ _ _ _ _ => by exact (pe_ix (r := rIxL K) ix_list (pe_fld (pv 0) rfl) (pv 5) (fun _ _ => rfl)))) pa_nil)))))
      (pss_one (ps_ret (pe_make T.MPicture (ok_Picture___init__ T) (hr.mono (by decide)) rfl T.gPicture T.bPicture___init__ .nil pass0 (pa_cons (pe_fld (pv 2) rfl) (pa_cons (pe_fld (pv 2) rfl) (pa_cons (pv 3) pa_nil))))))))), ?_⟩
    refine ⟨_, rfl, o, _, dx, _, _, rfl, h1, T.clPicture, T.nPicture_width, pF_w _ _ _, _, rfl, o, _, dx, _, _, rfl, h1, T.clPicture, T.nPicture_height, pF_h _ _ _, _, rfl, ?_⟩
    intro x dx2 nx ndx nex
    refine ⟨x, dx2, _, _, _, rfl, upd_same, hw1, hh1, fun H3 h3 b3 => ⟨rfl, ?_⟩⟩
    have R := Rep.turn hw t
    have s3 := made_same nx ndx b3
    generalize wayOf Pc.w Pc.h t = k at R h3
    generalize turnP Pc t = Qp at R q
    have qw := R.wf
    have qw1 := qw.w1
    have qh1 := qw.h1
    have fb := R.fb
    have hpx : Pc.px.length ≤ 128 * 128 := by rw [hw.len]; exact Nat.mul_le_mul hw1 hh1
    have ew := R.ew
    have eh := R.eh
    refine ⟨len_line (by show 0 ≤ 100000; decide), fun D hD => ?_⟩
    have sD := same_upd (o := .lst []) hD
    have eD : (upd H3 D (.lst [])) D = some (.lst []) := upd_same
    generalize upd H3 D (.lst []) = H4 at sD eD ⊢
    refine ⟨_, rfl, x, _, dx2, _, _, rfl, sD _ _ h3, T.clWalk, T.nWalk_height, wF_h _ _ _ _ _, _, rfl, by omega, by omega, ?_⟩
    refine for_range (lo := 0) (n := (k.h : Int).toNat) (fun i σ H' => ∃ v4 : Option V, σ = [some (.ref o), some (.int (t : Int)), some (.ref x), some (.ref D), v4, none] ∧ Same H3 H' ∧ H' D = some (.lst ((grid i Qp.w fun y x => atP Qp x y).map V.int))) ⟨none, rfl, sD, eD⟩ ?_ ?_
    · rintro y σ H5 hy ⟨v4, rfl, s5, e5⟩
      have hy' : y < Qp.h := by omega
      refine ⟨_, rfl, .inl ⟨rfl, _, SqL.of e5⟩, ?_⟩
      refine ⟨_, rfl, x, dx2, _, rfl, s5 _ _ h3, wF_no _ _ _ _ _ (by decide +kernel) (by decide +kernel) (by decide +kernel) (by decide +kernel) (by decide +kernel), _, rfl, _, rfl, x, _, dx2, _, _, rfl, s5 _ _ h3, T.clWalk, T.nWalk_width, wF_w _ _ _ _ _, x, k, 0, _, k.w, rfl, ⟨dx2, s5 _ _ h3⟩, R.r0, R.rb, R.db, ⟨by omega, by omega⟩, by decide, ⟨by omega, by omega⟩, by omega, fun p H6 s6 n6 e6 => ?_⟩
      refine ⟨p, rfl, ⟨_, SqL.of e6⟩, fun D2 hD2 => ?_⟩
      have s36 := s5.trans s6
      have hP6 := (hP.same s3).same s36
      have lw : (wayL k 0 (0 + (y : Int)) k.w).length = k.w := by unfold wayL; rw [List.length_map, List.length_range]
      refine lc_dp (walk_list (K := K) (a := p) (xs := (wayL k 0 (0 + (y : Int)) k.w).map V.int)) (K := K) (V0 := H6) (H0 := H6) (fun j => some (PyData.int (atP Qp j y))) [some (.ref o), some (.int (t : Int)), some (.ref x), some (.ref D), some (.int (0 + (y : Int))), none] rfl (Same.refl _) hD2 (by rw [List.length_map, lw]; omega) (fun H' s => SqL.of (s _ _ e6)) (fun i x H H' y => y.1) ?_ ?_
      · rintro j v U7 H7 hj x7 ⟨_, hv⟩ Qy Qn hy2 _
        rw [List.length_map, lw] at hj
        unfold wayL at hv
        rw [List.getElem?_map, List.getElem?_map, List.getElem?_range hj] at hv
        cases hv
        have hP7 := hP6.same x7.hh
        obtain ⟨dx7, h7⟩ := hP7.ob
        obtain ⟨a1, a2, a3⟩ := R.at_ j y (by omega) hy'
        have ei : k.f + 0 * k.r + (0 + (y : Int)) * k.d + (j : Int) * k.r = k.f + (j : Int) * k.r + (y : Int) * k.d := by rw [Int.zero_mul, Int.zero_add]; omega
        refine ⟨rfl, _, rfl, o, _, dx7, _, _, rfl, h7, T.clPicture, T.nPicture_pixels, pF_p _ _ _, _, rfl, l, _, _, .int (atP Qp j y), rfl, rfl, SqL.of hP7.ls, at_of (j := (k.f + (j : Int) * k.r + (y : Int) * k.d).toNat) ?_ ?_, hy2 (PyData.int (atP Qp j y)) _ _ _ rfl (Ext.refl x7.vh) (.int _)⟩
        · rw [Int.toNat_of_nonneg a1]; exact ei
        · have hlt : (k.f + (j : Int) * k.r + (y : Int) * k.d).toNat < Pc.px.length := by omega
          rw [List.getElem?_map, List.getElem?_eq_getElem hlt, a3, List.getD_eq_getElem?_getD, List.getElem?_eq_getElem hlt]; rfl
      · rintro U7 H7 zs x7 hDU dl _
        rw [List.length_map, lw, fm_some, show ((List.range k.w).map fun j => PyData.int (atP Qp j y)) = ((List.range Qp.w).map fun j => atP Qp j y).map PyData.int from by rw [List.map_map, ← ew]; rfl] at dl
        have e := dp_intsV dl
        subst e
        have hDH := x7.vh _ _ hDU
        have e57 := x7.hh _ _ (s6 _ _ e5)
        have gl : (grid y Qp.w fun y x => atP Qp x y).length ≤ 128 * 128 := by
          rw [grid_len]; exact Nat.mul_le_mul (by omega) qw1
        have ne : D2 ≠ D := fun z => by
          rw [z] at hD2
          rw [s6 _ _ e5] at hD2; cases hD2
        refine ⟨D, D2, _, _, rfl, rfl, e57, hDH, ?_, ?_⟩
        · rw [List.length_map, List.length_map, List.length_map, List.length_range, sizeLine_eq]; omega
        · refine ⟨_, rfl, fun b u eb => ?_, ?_⟩
          · have hb : b ≠ D := ne_of_none eb hD
            rw [upd_ne hb]
            exact x7.hh _ _ (s6 _ _ (s5 _ _ eb))
          · rw [upd_same, ← List.map_append, grid_succ]
    · rintro σ H5 ⟨v4, rfl, s5, e5⟩
      rw [show (k.h : Int).toNat = Qp.h by omega, px_grid qw] at e5
      refine ⟨_, rfl, x, _, dx2, _, _, rfl, s5 _ _ h3, T.clWalk, T.nWalk_width, wF_w _ _ _ _ _, _, rfl, x, _, dx2, _, _, rfl, s5 _ _ h3, T.clWalk, T.nWalk_height, wF_h _ _ _ _ _, _, rfl, ?_⟩
      intro x7 dx7 nx7 ndx7 nex7
      refine ⟨x7, dx7, _, _, _, rfl, upd_same, fun H8 h8 b8 => ⟨rfl, ?_⟩⟩
      have s8 := made_same nx7 ndx7 b8
      rw [← ew, ← eh] at h8
      exact q x7 D H8 ⟨⟨⟨dx7, h8⟩, s8 _ _ e5⟩, (s3.trans s5).trans s8, (s3.trans s5).free nx7, s3.free hD⟩
def clearP (w h : Nat) : Pic := ⟨w, h, List.replicate (w * h) 0⟩
def sp_clear_picture (C : Addr) : Sp := fun vs H Q _ => ∃ (w h : Nat), vs = [.int (w : Int), .int (h : Int)] ∧ w ≤ 128 ∧ h ≤ 128 ∧ ∀ (o' l' : Addr) (H' : Hp), NewPic C H H' o' l' (clearP w h) → Q (.ref o') H'
theorem sc_clear_picture : FnScope ["width", "height"] ["width", "height"] (defScope s_clear_picture) := ⟨rfl, rfl, rfl, by decide +kernel, rfl, by decide +kernel, by decide +kernel⟩
theorem ok_clear_picture (T : Txt K mg A) : FnOk P w K mg base CX0 3 A.fclear_picture A.dclear_picture ["width", "height"] (sp_clear_picture A.CPicture) := by
  refine T.Fclear_picture.ok sc_clear_picture (fun vs H Q E h => ?_) (fun cdv Ar outer s H vs Q E hr h => ?_)
  · obtain ⟨wd, ht, rfl, _⟩ := h
    rfl
  · obtain ⟨wd, ht, rfl, hw, hh, q⟩ := h
    refine ⟨_, (pss_one (ps_ret (pe_make T.MPicture (ok_Picture___init__ T) (hr.mono (by decide)) rfl T.gPicture T.bPicture___init__ .nil pass0 (pa_cons (pv 0) (pa_cons (pv 1) (pa_cons (pe_op op_rep (pe_lst (pa_cons (pe_glob (v := .int (0)) rfl T.gCLEAR ⟨_, rfl⟩) pa_nil)) (pe_op op_mul (pv 0) (pv 1))) pa_nil)))))), ?_⟩
    have hm : wd * ht ≤ 128 * 128 := Nat.mul_le_mul hw hh
    have hmi : (wd : Int) * (ht : Int) = ((wd * ht : Nat) : Int) := (Int.natCast_mul _ _).symm
    refine ⟨_, rfl, _, rfl, by decide, fun p1 f1 => ?_⟩
    refine ⟨_, rfl, _, rfl, _, _, rfl, rfl, Or.inl ⟨by omega, by omega⟩, p1, _, _, rfl, rfl, upd_same, ?_, ?_, ?_, fun p2 f2 => ?_⟩
    · rw [hmi]; omega
    · rw [hmi]; omega
    · rw [hmi]; exact len_line (by show 1 * _ ≤ _; omega)
    dsimp only
    rw [rep_flat, hmi, show ((wd * ht : Nat) : Int).toNat = wd * ht by omega]
    intro x dx nx ndx nex
    refine ⟨x, dx, _, _, _, rfl, upd_same, fun H3 h3 b3 => ⟨rfl, ?_⟩⟩
    have s3 := made_same nx ndx b3
    have s2 : Same H (upd (upd H p1 (.lst [.int 0])) p2 (.lst (List.replicate (wd * ht) (.int 0)))) := (same_upd f1).trans (same_upd f2)
    refine q x p2 H3 ⟨⟨⟨dx, h3⟩, ?_⟩, s2.trans s3, s2.free nx, (same_upd f1).free f2⟩
    refine (s3 _ _ upd_same).trans ?_
    show _ = some (HO.lst ((List.replicate (wd * ht) 0).map V.int))
    rw [List.map_replicate]
def sp__law_picture (C : Addr) : Sp := fun vs H Q _ => ∃ (r : Int), vs = [.int r] ∧ ∀ (o l : Addr) (P : Pic) (H' : Hp), Wf P → NewPic C H H' o l P → Q (.ref o) H'
theorem sc__law_picture : FnScope ["row", "width", "height", "k"] ["row"] (defScope s__law_picture) := ⟨rfl, rfl, rfl, by decide +kernel, rfl, by decide +kernel, by decide +kernel⟩
theorem ok__law_picture (T : Txt K mg A) : FnOk P w K mg base CX0 3 A.f_law_picture A.d_law_picture ["row"] (sp__law_picture A.CPicture) := by
  refine T.F_law_picture.ok sc__law_picture (fun vs H Q E h => ?_) (fun cdv Ar outer s H vs Q E hr h => ?_)
  · obtain ⟨r, rfl, _⟩ := h
    rfl
  · obtain ⟨r, rfl, q⟩ := h
    refine ⟨_, (pss_cons (ps_set (i := 1) sc__law_picture.nd rfl (Or.inl rfl) (pe_op op_add pe_int (pe_op op_mod (pe_callTy call_int1 (by rfl) T.int (by decide +kernel) (pa_cons (pv 0) pa_nil)) pe_int)))
      (pss_cons (ps_set (i := 2) sc__law_picture.nd rfl (Or.inl rfl) (pe_op op_add pe_int (pe_op op_mod (pe_callTy call_int1 (by rfl) T.int (by decide +kernel) (pa_cons (pe_op op_fdiv (pv 0) pe_int) pa_nil)) pe_int)))
      (pss_one (ps_ret (pe_make T.MPicture (ok_Picture___init__ T) (hr.mono (by decide)) rfl T.gPicture T.bPicture___init__ .nil pass0 (pa_cons (pv 1) (pa_cons (pv 2) (pa_cons (pe_lc (own := [("k", 3)]) (g := (gName 3)) (tt := tYes) rfl sc__law_picture.nd (pi_range1 (by rfl) T.range (pa_cons (pe_op op_mul (pv 1) (pv 2)) pa_nil)) (blkOk_by (own := [("k", 3)]) (N := ["row", "width", "height", "k"]) (sc := defScope s__law_picture) (by decide +kernel)) (fun _ _ _ _ _ => (pg_name (i := 3) sc__law_picture.nd rfl (Or.inl rfl))) (fun _ _ _ _ _ => pts_nil) (fun _ _ _ _ _ => by exact (pe_op op_mod (pe_callTy call_int1 (by rfl) T.int (by decide +kernel) (pa_cons (pe_op op_add (pe_op op_fdiv (pv 0) (pe_op op_add (pv 3) pe_int)) (pe_op op_mul (pv 3) pe_int)) pa_nil)) pe_int))) pa_nil)))))))), ?_⟩
    walk_at "rd"
    obtain ⟨wd, hwd, hw0, hw1⟩ : ∃ n : Nat, 1 + r % 5 = n ∧ 0 < n ∧ n ≤ 5 := ⟨(1 + r % 5).toNat, by omega, by omega, by omega⟩
    obtain ⟨ht, hht, hh0, hh1⟩ : ∃ n : Nat, 1 + r / 5 % 5 = n ∧ 0 < n ∧ n ≤ 5 := ⟨(1 + r / 5 % 5).toNat, by omega, by omega, by omega⟩
    dsimp only
    rw [hwd, hht]
    have hm : wd * ht ≤ 5 * 5 := Nat.mul_le_mul hw1 hh1
    have hmi : (wd : Int) * (ht : Int) = ((wd * ht : Nat) : Int) := (Int.natCast_mul _ _).symm
    refine ⟨Or.inl ⟨by omega, by omega⟩, _, rfl, by rw [hmi]; omega, by rw [hmi]; omega, fun D hD => ?_⟩
    refine lc_dp (walk_range (lo := 0) (n := ((wd : Int) * (ht : Int)).toNat)) (K := K) (V0 := H) (H0 := H) (fun k => some (PyData.int ((r / ((k : Int) + 3) + (k : Int) * 977) % 4294967296))) [some (.int r), some (.int (wd : Int)), some (.int (ht : Int)), none] rfl (Same.refl _) hD (by rw [hmi]; omega) (fun _ _ => trivial) (fun i x H H' y => y.1) ?_ ?_
    · rintro i x U H1 hi xx ⟨_, rfl⟩ Qy Qn hy _
      rw [hmi] at hi
      refine ⟨rfl, _, rfl, _, rfl, _, _, rfl, rfl, _, _, rfl, rfl, ⟨?_, ?_⟩, _, rfl, _, _, rfl, rfl, Or.inr ⟨by decide, by decide⟩, _, _, rfl, rfl, Or.inl ⟨_, rfl, ?_⟩⟩
      · show (0 : Int) < 0 + (i : Int) + 3; omega
      · show 0 + (i : Int) + 3 < 1073741824; omega
      refine ⟨_, _, rfl, rfl, by show (0 : Int) < 4294967296; decide, ?_⟩
      rw [Int.zero_add]
      exact hy _ _ _ _ rfl (Ext.refl xx.vh) (.int _)
    · rintro U H1 ys xx hDU dl _
      rw [hmi, show ((wd * ht : Nat) : Int).toNat = wd * ht by omega, fm_some, show ((List.range (wd * ht)).map fun k : Nat => PyData.int ((r / ((k : Int) + 3) + (k : Int) * 977) % 4294967296)) = ((List.range (wd * ht)).map fun k : Nat => (r / ((k : Int) + 3) + (k : Int) * 977) % 4294967296).map PyData.int from by rw [List.map_map]; rfl] at dl
      have e := dp_intsV dl
      subst e
      have hlen : ((List.range (wd * ht)).map fun k : Nat => (r / ((k : Int) + 3) + (k : Int) * 977) % 4294967296).length = wd * ht := by rw [List.length_map, List.length_range]
      generalize ((List.range (wd * ht)).map fun k : Nat => (r / ((k : Int) + 3) + (k : Int) * 977) % 4294967296) = px at hlen hDU
      intro x dx nx ndx nex
      refine ⟨x, dx, _, _, _, rfl, upd_same, fun H3 h3 b3 => ⟨rfl, ?_⟩⟩
      have s3 := made_same nx ndx b3
      exact q x D ⟨wd, ht, px⟩ H3 ⟨hlen, hw0, hh0, Nat.le_trans hw1 (by decide), Nat.le_trans hh1 (by decide)⟩ ⟨⟨⟨dx, h3⟩, s3 _ _ (xx.vh _ _ hDU)⟩, xx.hh.trans s3, xx.hh.free nx, hD⟩
/-! ### where a place comes -/
structure Pl where
  x : Int
  y : Int
  w : Int
  h : Int
def mirPl (c : Pl) : Pl := ⟨c.w - 1 - c.x, c.y, c.w, c.h⟩
def qtrPl (c : Pl) : Pl := ⟨c.h - 1 - c.y, c.x, c.h, c.w⟩
def comePl (t : Nat) (c : Pl) : Pl := itN qtrPl (t % 4) (if 4 ≤ t then mirPl c else c)
/-- the place c of the picture P has the colour v -/
structure Has (P : Pic) (c : Pl) (v : Int) : Prop where
  ex : ∃ x y : Nat, c = ⟨x, y, P.w, P.h⟩ ∧ x < P.w ∧ y < P.h ∧ atP P x y = v
theorem Has.mir {P : Pic} {c : Pl} {v : Int} (h : Has P c v) : Has (mirP P) (mirPl c) v := by
  obtain ⟨x, y, rfl, hx, hy, e⟩ := h.ex
  refine ⟨P.w - 1 - x, y, ?_, by show P.w - 1 - x < P.w; omega, hy, (mir_at hx hy).trans e⟩
  show (⟨_, _, _, _⟩ : Pl) = ⟨_, _, _, _⟩
  rw [show ((P.w - 1 - x : Nat) : Int) = (P.w : Int) - 1 - (x : Int) by omega]; rfl
theorem Has.qtr {P : Pic} {c : Pl} {v : Int} (h : Has P c v) : Has (qtrP P) (qtrPl c) v := by
  obtain ⟨x, y, rfl, hx, hy, e⟩ := h.ex
  refine ⟨P.h - 1 - y, x, ?_, by show P.h - 1 - y < P.h; omega, hx, (qtr_at hx hy).trans e⟩
  show (⟨_, _, _, _⟩ : Pl) = ⟨_, _, _, _⟩
  rw [show ((P.h - 1 - y : Nat) : Int) = (P.h : Int) - 1 - (y : Int) by omega]; rfl
theorem Has.it {P : Pic} {c : Pl} {v : Int} (h : Has P c v) : ∀ n, Has (itN qtrP n P) (itN qtrPl n c) v
  | 0 => h
  | n + 1 => (h.it n).qtr
theorem Has.turn {P : Pic} {c : Pl} {v : Int} (h : Has P c v) (t : Nat) : Has (turnP P t) (comePl t c) v := by
  unfold turnP comePl
  by_cases k : 4 ≤ t
  · rw [if_pos k, if_pos k]; exact h.mir.it _
  · rw [if_neg k, if_neg k]; exact h.it _
def sp__law_come (K : PySem.W.Frag) : Sp := fun vs H Q _ => ∃ (t : Nat) (c : Pl), vs = [.int (t : Int), .int c.w, .int c.h, .int c.x, .int c.y] ∧ t < 8 ∧ ∀ (p : Addr) (H' : Hp), Same H H' → H' p = some (.tup [.int (comePl t c).x, .int (comePl t c).y, .int (comePl t c).w, .int (comePl t c).h]) → Q (.ref p) H'
theorem sc__law_come : FnScope ["turn", "width", "height", "x", "y", "step"] ["turn", "width", "height", "x", "y"] (defScope s__law_come) := ⟨rfl, rfl, rfl, by decide +kernel, rfl, by decide +kernel, by decide +kernel⟩
theorem ok__law_come (T : Txt K mg A) : FnOk P w K mg base CX0 1 A.f_law_come A.d_law_come ["turn", "width", "height", "x", "y"] (sp__law_come K) := by
  refine T.F_law_come.ok sc__law_come (fun vs H Q E h => ?_) (fun cdv Ar outer s H vs Q E hr h => ?_)
  · obtain ⟨t, c, rfl, _⟩ := h
    rfl
  · obtain ⟨t, c, rfl, ht, q⟩ := h
    refine ⟨_, (C8.pss_cut (ps_if (pt_cmpR op_ge (pv 0) pe_int (nomark _))
      (pss_one (ps_set (i := 3) sc__law_come.nd rfl (Or.inl rfl) (pe_op op_sub (pe_op op_sub (pv 1) pe_int) (pv 3))))
      pss_nil)
      (pss_cons (ps_for PassesOwn.never rfl (pi_range1 (by rfl) T.range (pa_cons pe_int pa_nil)) (pg_name (i := 5) sc__law_come.nd rfl (Or.inl rfl))
      (pss_one (ps_if (pt_cmpR op_lt (pv 5) (pe_op op_mod (pe_callTy call_int1 (by rfl) T.int (by decide +kernel) (pa_cons (pv 0) pa_nil)) pe_int) (nomark _))
      (pss_cons (ps_par (i := 3) (j := 4) (by rfl) sc__law_come.nd rfl rfl (by decide) rfl rfl (pa_cons (pe_op op_sub (pe_op op_sub (pv 2) pe_int) (pv 4)) (pa_cons (pv 3) pa_nil)) (by rfl))
      (pss_one (ps_par (i := 1) (j := 2) (by rfl) sc__law_come.nd rfl rfl (by decide) rfl rfl (pa_cons (pv 2) (pa_cons (pv 1) pa_nil)) (by rfl))))
      pss_nil)))
      (pss_one (ps_ret (pe_tup (pa_cons (pv 3) (pa_cons (pv 4) (pa_cons (pv 1) (pa_cons (pv 2) pa_nil))))))))), ?_⟩
    unfold comePl at q
    refine ⟨fun σ' H' => σ' = [some (.int (t : Int)), some (.int (if 4 ≤ t then mirPl c else c).w), some (.int (if 4 ≤ t then mirPl c else c).h), some (.int (if 4 ≤ t then mirPl c else c).x), some (.int (if 4 ≤ t then mirPl c else c).y), none] ∧ H' = H, ?_, ?_⟩
    · refine ⟨_, rfl, _, _, rfl, rfl, _, rfl, iteP (fun k => ?_) (fun k => ?_)⟩
      · rw [if_pos (show 4 ≤ t by omega)]
        walk_at "rd"
        first | exact ⟨rfl, rfl⟩ | rfl
      · rw [if_neg (show ¬ 4 ≤ t by omega)]
        exact ⟨rfl, rfl⟩
    rintro σ' H' ⟨rfl, rfl⟩
    generalize (if 4 ≤ t then mirPl c else c) = c0 at q ⊢
    refine ⟨4, rfl, by decide, by decide, for_range (lo := 0) (n := 4) (fun i σ H2 => ∃ v : Option V, σ = [some (.int (t : Int)), some (.int (itN qtrPl (min i (t % 4)) c0).w), some (.int (itN qtrPl (min i (t % 4)) c0).h), some (.int (itN qtrPl (min i (t % 4)) c0).x), some (.int (itN qtrPl (min i (t % 4)) c0).y), v] ∧ H2 = H')
      ⟨none, by rw [Nat.zero_min]; rfl, rfl⟩ ?_ ?_⟩
    · rintro i σ H2 hi ⟨v, rfl, rfl⟩
      walk_at "rd"
      refine iteP (fun k => ?_) (fun k => ?_)
      · have k' : i < t % 4 := by
          have : (0 : Int) + (i : Int) < (t : Int) % 4 := k
          omega
        rw [Nat.min_eq_left (Nat.le_of_lt k')]
        rw [Nat.min_eq_left k']
        refine ⟨_, rfl, _, _, rfl, rfl, _, rfl, _, _, rfl, rfl, _, rfl, _, _, rfl, ?_⟩
        refine ⟨_, rfl, _, rfl, _, _, rfl, ?_⟩
        exact ⟨_, rfl, rfl⟩
      · have k' : ¬ i < t % 4 := fun z => k (by show (0 : Int) + (i : Int) < (t : Int) % 4; omega)
        rw [Nat.min_eq_right (by omega), Nat.min_eq_right (by omega)]
        exact ⟨_, rfl, rfl⟩
    · rintro σ H2 ⟨v, rfl, rfl⟩
      rw [Nat.min_eq_right (by omega)]
      refine ⟨_, rfl, _, rfl, _, rfl, _, rfl, len_line (by show 4 ≤ 100000; decide), fun p hp => q p _ (same_upd hp) upd_same⟩
def sp__law_good (C : Addr) : Sp := fun vs H Q _ => ∃ (o l : Addr) (P : Pic) (t : Nat), vs = [.ref o, .int (t : Int)] ∧ PicAt C H o l P ∧ Wf P ∧ t < 8 ∧ ∀ H', Same H H' → Q (.bl true) H'
theorem sh_tupI {n : Nat} (xs : List Int) : Sh 1 (.tuple (xs.map PyData.int)) := sh_tuple fun d hd => by
  obtain ⟨i, _, rfl⟩ := List.mem_map.mp hd
  exact sh_int i
theorem sh_tup1 (xs : List Int) : Sh 1 (.tuple (xs.map PyData.int)) := sh_tupI (n := 0) xs
theorem dp_tup1 {K : PySem.W.Frag} {H : Hp} {p : Addr} {xs : List Int} (h : SqT K H p (xs.map V.int)) : Dp K H (.ref p) (.tuple (xs.map PyData.int)) := .tup h (dpall_ints xs)
theorem sc__law_good : FnScope ["picture", "turn", "spun", "y", "x", "to"] ["picture", "turn"] (defScope s__law_good) := ⟨rfl, rfl, rfl, by decide +kernel, rfl, by decide +kernel, by decide +kernel⟩
theorem ok__law_good (T : Txt K mg A) : FnOk P w K mg base CX0 5 A.f_law_good A.d_law_good ["picture", "turn"] (sp__law_good A.CPicture) := by
  refine T.F_law_good.ok sc__law_good (fun vs H Q E h => ?_) (fun cdv Ar outer s H vs Q E hr h => ?_)
  · obtain ⟨o, l, P, t, rfl, _⟩ := h
    rfl
  · obtain ⟨o, l, Pc, t, rfl, hP, hw, ht, q⟩ := h
    obtain ⟨dx, h1⟩ := hP.ob
    refine ⟨_, (pss_cons (ps_set (i := 2) sc__law_good.nd rfl (Or.inl rfl) (pe_meth (pv 0) T.clPicture T.mPicture_turned (ok_Picture_turned T) (hr.mono (by decide)) T.bPicture_turned .nil pass0 (pa_cons (pv 1) pa_nil)))
      (pss_cons (ps_for PassesOwn.never rfl (pi_range1 (by rfl) T.range (pa_cons (pe_fld (pv 0) rfl) pa_nil)) (pg_name (i := 3) sc__law_good.nd rfl (Or.inl rfl))
      (pss_one (ps_for PassesOwn.never rfl (pi_range1 (by rfl) T.range (pa_cons (pe_fld (pv 0) rfl) pa_nil)) (pg_name (i := 4) sc__law_good.nd rfl (Or.inl rfl))
      (pss_cons (ps_set (i := 5) sc__law_good.nd rfl (Or.inl rfl) (pe_call (ok__law_come T) (hr.mono (by decide)) rfl T.g_law_come T.k_law_come T.b_law_come .nil pass0 (pa_cons (pv 1) (pa_cons (pe_fld (pv 0) rfl) (pa_cons (pe_fld (pv 0) rfl) (pa_cons (pv 4) (pa_cons (pv 3) pa_nil)))))))
      (pss_cons (ps_if (pt_cmpR (op_neD hr.units) (pe_tup (pa_cons (pe_fld (pv 2) rfl) (pa_cons (pe_fld (pv 2) rfl) pa_nil))) (pe_tup (pa_cons (pe_ix (r := rIxT K) ix_tup (pv 5) pe_int (fun _ _ => rfl)) (pa_cons (pe_ix (r := rIxT K) ix_tup (pv 5) pe_int (fun _ _ => rfl)) pa_nil))) (nomark _))
      (pss_one (ps_ret pe_bl))
      pss_nil)
      (pss_one (ps_if (pt_cmpR op_ne (pe_meth (pv 2) T.clPicture T.mPicture_colour_at (ok_Picture_colour_at T) (hr.mono (by decide)) T.bPicture_colour_at .nil pass0 (pa_cons (pe_ix (r := rIxT K) ix_tup (pv 5) pe_int (fun _ _ => rfl)) (pa_cons (pe_ix (r := rIxT K) ix_tup (pv 5) pe_int (fun _ _ => rfl)) pa_nil))) (pe_ix (r := rIxL K) ix_list (pe_fld (pv 0) rfl) (pe_op op_add (pe_op op_mul (pv 3) (pe_fld (pv 0) rfl)) (pv 4)) (fun _ _ => rfl)) (nomark _))
      (pss_one (ps_ret pe_bl))
      pss_nil)))))))
      (pss_cons (ps_for PassesOwn.never rfl (pi_tup (pe_tup (pa_cons (pe_tup (pa_cons (pe_un un_neg pe_int) (pa_cons pe_int pa_nil))) (pa_cons (pe_tup (pa_cons pe_int (pa_cons (pe_un un_neg pe_int) pa_nil))) (pa_cons (pe_tup (pa_cons (pe_fld (pv 2) rfl) (pa_cons pe_int pa_nil))) (pa_cons (pe_tup (pa_cons pe_int (pa_cons (pe_fld (pv 2) rfl) pa_nil))) (pa_cons (pe_tup (pa_cons (pe_un un_neg pe_int) (pa_cons pe_int pa_nil))) pa_nil))))))) (pg_tup rfl (pgs_cons (pg_name (i := 4) sc__law_good.nd rfl (Or.inl rfl)) (pgs_cons (pg_name (i := 3) sc__law_good.nd rfl (Or.inl rfl)) pgs_nil)))
      (pss_one (ps_if (pt_cmpR op_ne (pe_meth (pv 2) T.clPicture T.mPicture_colour_at (ok_Picture_colour_at T) (hr.mono (by decide)) T.bPicture_colour_at .nil pass0 (pa_cons (pv 4) (pa_cons (pv 3) pa_nil))) pe_int (nomark _))
      (pss_one (ps_ret pe_bl))
      pss_nil)))
      (pss_one (ps_ret (pe_cmpR op_eq (pe_callB call_len_seq (by rfl) T.len PySem.boot_len (pa_cons (pe_fld (pv 2) rfl) pa_nil)) (pe_op op_mul (pe_fld (pv 0) rfl) (pe_fld (pv 0) rfl)) (nomark _))))))), ?_⟩
    refine ⟨_, rfl, o, dx, _, rfl, h1, pF_no _ _ _ (by decide +kernel) (by decide +kernel) (by decide +kernel), _, rfl, o, l, Pc, t, rfl, hP, hw, ht, fun o2 l2 H2 N => ?_⟩
    have wt := hw.turn t
    obtain ⟨dx2, h2⟩ := N.at_.ob
    have hw1 := hw.w1
    have hh1 := hw.h1
    have tw1 := wt.w1
    have th1 := wt.h1
    refine ⟨_, rfl, o, _, dx, _, _, rfl, N.same _ _ h1, T.clPicture, T.nPicture_height, pF_h _ _ _, _, rfl, by show -(2 ^ 62) ≤ (Pc.h : Int); omega, by show (Pc.h : Int) < 2 ^ 62; omega, ?_⟩
    refine for_range (lo := 0) (n := (Pc.h : Int).toNat) (fun i σ H' => ∃ v3 v4 v5 : Option V, σ = [some (.ref o), some (.int (t : Int)), some (.ref o2), v3, v4, v5] ∧ Same H2 H') ⟨_, _, _, rfl, Same.refl H2⟩ ?_ ?_
    · rintro y σ H3 hy ⟨v3, v4, v5, rfl, s3⟩
      refine ⟨_, rfl, o, _, dx, _, _, rfl, s3 _ _ (N.same _ _ h1), T.clPicture, T.nPicture_width, pF_w _ _ _, _, rfl, by show -(2 ^ 62) ≤ (Pc.w : Int); omega, by show (Pc.w : Int) < 2 ^ 62; omega, ?_⟩
      refine for_range (lo := 0) (n := (Pc.w : Int).toNat) (fun i σ H' => ∃ v4 v5 : Option V, σ = [some (.ref o), some (.int (t : Int)), some (.ref o2), some (.int (0 + (y : Int))), v4, v5] ∧ Same H2 H') ⟨_, _, rfl, s3⟩ ?_ ?_
      · rintro x σ H4 hx ⟨v4, v5, rfl, s4⟩
        have hs : Has Pc ⟨0 + (x : Int), 0 + (y : Int), Pc.w, Pc.h⟩ (atP Pc x y) := ⟨x, y, by rw [Int.zero_add, Int.zero_add], by omega, by omega, rfl⟩
        have ht2 := hs.turn t
        have hP4 := (hP.same N.same).same s4
        have hN4 := N.at_.same s4
        obtain ⟨dx4, h4⟩ := hP4.ob
        obtain ⟨dx5, h5⟩ := hN4.ob
        refine ⟨_, rfl, _, rfl, o, _, dx4, _, _, rfl, h4, T.clPicture, T.nPicture_width, pF_w _ _ _, _, rfl, o, _, dx4, _, _, rfl, h4, T.clPicture, T.nPicture_height, pF_h _ _ _, _, rfl, _, rfl, t, ⟨0 + (x : Int), 0 + (y : Int), Pc.w, Pc.h⟩, rfl, ht, fun p6 H6 s6 e6 => ?_⟩
        generalize comePl t ⟨0 + (x : Int), 0 + (y : Int), Pc.w, Pc.h⟩ = c at ht2 e6
        obtain ⟨x2, y2, rfl, hx2, hy2, ea⟩ := ht2.ex
        -- (spun.width, spun.height) != (to[2], to[3])
        refine ⟨_, rfl, o2, _, dx5, _, _, rfl, s6 _ _ h5, T.clPicture, T.nPicture_width, pF_w _ _ _, _, rfl, o2, _, dx5, _, _, rfl, s6 _ _ h5, T.clPicture, T.nPicture_height, pF_h _ _ _, len_line (by show 2 ≤ 100000; decide), fun p7 f7 => ?_⟩
        have t7 := same_upd (o := .tup [.int ((turnP Pc t).w : Int), .int ((turnP Pc t).h : Int)]) f7
        refine ⟨_, rfl, p6, _, 2, _, rfl, rfl, SqT.of (t7 _ _ e6), atI_nat (j := 2) rfl, _, rfl, p6, _, 3, _, rfl, rfl, SqT.of (t7 _ _ e6), atI_nat (j := 3) rfl, len_line (by show 2 ≤ 100000; decide), fun p8 f8 => ?_⟩
        have t8 := same_upd (o := .tup [.int ((turnP Pc t).w : Int), .int ((turnP Pc t).h : Int)]) f8
        have s8 := (s6.trans t7).trans t8
        refine ⟨_, _, dp_tup1 (xs := [((turnP Pc t).w : Int), ((turnP Pc t).h : Int)]) (SqT.of (t8 _ _ upd_same)), dp_tup1 (xs := [((turnP Pc t).w : Int), ((turnP Pc t).h : Int)]) (SqT.of upd_same), (sh_tup1 _).shaped, (sh_tup1 _).shaped, _, rfl, if_f (by rw [(sh_tup1 _).self]; rfl) ?_⟩
        -- colour_at
        have e6' := t8 _ _ (t7 _ _ e6)
        refine ⟨_, rfl, o2, dx5, _, rfl, s8 _ _ h5, pF_no _ _ _ (by decide +kernel) (by decide +kernel) (by decide +kernel), _, rfl, p6, _, 0, _, rfl, rfl, SqT.of e6', atI_nat (j := 0) rfl, _, rfl, p6, _, 1, _, rfl, rfl, SqT.of e6', atI_nat (j := 1) rfl, o2, l2, turnP Pc t, (x2 : Int), (y2 : Int), rfl, hN4.same s8, wt, ?_⟩
        have ec : colour (turnP Pc t) (x2 : Int) (y2 : Int) = atP Pc x y := by
          unfold colour
          rw [if_pos ⟨by omega, by omega, by omega, by omega⟩]; exact ea
        rw [ec]
        refine ⟨_, rfl, o, _, dx4, _, _, rfl, s8 _ _ h4, T.clPicture, T.nPicture_pixels, pF_p _ _ _, _, rfl, _, rfl, o, _, dx4, _, _, rfl, s8 _ _ h4, T.clPicture, T.nPicture_width, pF_w _ _ _, _, _, rfl, rfl, Or.inr ⟨by omega, by omega⟩, _, rfl, _, _, rfl, rfl, ?_⟩
        refine ⟨l, _, _, _, rfl, rfl, SqL.of (s8 _ _ hP4.ls), at_of (j := y * Pc.w + x) ?_ (px_at hw (by omega) (by omega)), rfl, _, rfl, if_f (by rw [decide_eq_true rfl]; rfl) ⟨_, _, rfl, s4.trans s8⟩⟩
        rw [Int.natCast_add, Int.natCast_mul, Int.zero_add, Int.zero_add]
      · rintro σ H4 ⟨v4, v5, rfl, s4⟩
        exact ⟨_, _, _, rfl, s4⟩
    · rintro σ H3 ⟨v3, v4, v5, rfl, s3⟩
      have hP3 := (hP.same N.same).same s3
      have hN3 := N.at_.same s3
      obtain ⟨dx4, h4⟩ := hP3.ob
      obtain ⟨dx5, h5⟩ := hN3.ob
      refine ⟨_, rfl, len_line (by show 2 ≤ 100000; decide), fun q1 g1 => ⟨_, rfl, len_line (by show 2 ≤ 100000; decide), fun q2 g2 => ?_⟩⟩
      have r1 := same_upd (o := .tup [.int (-1), .int 0]) g1
      have r2 := same_upd (o := .tup [.int 0, .int (-1)]) g2
      have r12 := r1.trans r2
      refine ⟨_, rfl, o2, _, dx5, _, _, rfl, r12 _ _ h5, T.clPicture, T.nPicture_width, pF_w _ _ _, len_line (by show 2 ≤ 100000; decide), fun q3 g3 => ?_⟩
      have r3 := same_upd (o := .tup [.int ((turnP Pc t).w : Int), .int 0]) g3
      have r13 := r12.trans r3
      refine ⟨_, rfl, o2, _, dx5, _, _, rfl, r13 _ _ h5, T.clPicture, T.nPicture_height, pF_h _ _ _, len_line (by show 2 ≤ 100000; decide), fun q4 g4 => ⟨_, rfl, len_line (by show 2 ≤ 100000; decide), fun q5 g5 => ⟨len_line (by show 5 ≤ 100000; decide), fun q6 g6 => ?_⟩⟩⟩
      have r4 := same_upd (o := .tup [.int 0, .int ((turnP Pc t).h : Int)]) g4
      have r5 := same_upd (o := .tup [.int (-9), .int 90]) g5
      have r6 := same_upd (o := .tup [.ref q1, .ref q2, .ref q3, .ref q4, .ref q5]) g6
      have a1 := (((((r2.trans r3).trans r4).trans r5).trans r6)) _ _ (upd_same (H := H3) (a := q1) (o := .tup [.int (-1), .int 0]))
      have a2 := (((r3.trans r4).trans r5).trans r6) _ _ (upd_same (H := upd H3 q1 (.tup [.int (-1), .int 0])) (a := q2) (o := .tup [.int 0, .int (-1)]))
      have a3 := ((r4.trans r5).trans r6) _ _ (upd_same (H := upd (upd H3 q1 (.tup [.int (-1), .int 0])) q2 (.tup [.int 0, .int (-1)])) (a := q3) (o := .tup [.int ((turnP Pc t).w : Int), .int 0]))
      have a4 := (r5.trans r6) _ _ (upd_same (H := upd (upd (upd H3 q1 (.tup [.int (-1), .int 0])) q2 (.tup [.int 0, .int (-1)])) q3 (.tup [.int ((turnP Pc t).w : Int), .int 0])) (a := q4) (o := .tup [.int 0, .int ((turnP Pc t).h : Int)]))
      have a5 := r6 _ _ (upd_same (H := upd (upd (upd (upd H3 q1 (.tup [.int (-1), .int 0])) q2 (.tup [.int 0, .int (-1)])) q3 (.tup [.int ((turnP Pc t).w : Int), .int 0])) q4 (.tup [.int 0, .int ((turnP Pc t).h : Int)])) (a := q5) (o := .tup [.int (-9), .int 90]))
      have r16 := ((r13.trans r4).trans r5).trans r6
      have a6 : (upd (upd (upd (upd (upd (upd H3 q1 (.tup [.int (-1), .int 0])) q2 (.tup [.int 0, .int (-1)])) q3 (.tup [.int ((turnP Pc t).w : Int), .int 0])) q4 (.tup [.int 0, .int ((turnP Pc t).h : Int)])) q5 (.tup [.int (-9), .int 90])) q6 (.tup [.ref q1, .ref q2, .ref q3, .ref q4, .ref q5])) q6 = _ := upd_same
      generalize (upd (upd (upd (upd (upd (upd H3 q1 (.tup [.int (-1), .int 0])) q2 (.tup [.int 0, .int (-1)])) q3 (.tup [.int ((turnP Pc t).w : Int), .int 0])) q4 (.tup [.int 0, .int ((turnP Pc t).h : Int)])) q5 (.tup [.int (-9), .int 90])) q6 (.tup [.ref q1, .ref q2, .ref q3, .ref q4, .ref q5])) = H9 at a1 a2 a3 a4 a5 a6 r16
      refine ⟨q6, rfl, ⟨_, SqT.of a6⟩, for_tup (K := K) (a := q6) (xs := [.ref q1, .ref q2, .ref q3, .ref q4, .ref q5]) (fun i σ H' => ∃ v3 v4 v5 : Option V, σ = [some (.ref o), some (.int (t : Int)), some (.ref o2), v3, v4, v5] ∧ Same H9 H')
        ⟨_, _, _, rfl, Same.refl _⟩ (fun i σ H' _ ⟨_, _, _, _, s⟩ => SqT.of (s _ _ a6)) ?_ ?_⟩
      · rintro i xq σ H10 hi ⟨v3, v4, v5, rfl, s10⟩
        obtain ⟨qq, x, y, rfl, eq, hc⟩ : ∃ (qq : Addr) (x y : Int), xq = .ref qq ∧ H9 qq = some (.tup [.int x, .int y]) ∧ colour (turnP Pc t) x y = 0 := by
          have off : ∀ x y : Int, ¬ (0 ≤ x ∧ x < (turnP Pc t).w ∧ 0 ≤ y ∧ y < (turnP Pc t).h) → colour (turnP Pc t) x y = 0 := fun x y c => by unfold colour; exact if_neg c
          have hm := List.mem_of_getElem? hi
          simp only [List.mem_cons, List.not_mem_nil, or_false] at hm
          rcases hm with h | h | h | h | h
          · exact ⟨q1, _, _, h, a1, off _ _ (by omega)⟩
          · exact ⟨q2, _, _, h, a2, off _ _ (by omega)⟩
          · exact ⟨q3, _, _, h, a3, off _ _ (by omega)⟩
          · exact ⟨q4, _, _, h, a4, off _ _ (by omega)⟩
          · exact ⟨q5, _, _, h, a5, off _ _ (by omega)⟩
        have s10' := r16.trans s10
        refine ⟨qq, _, rfl, SqT.of (s10 _ _ eq), rfl, _, _, rfl, _, _, rfl, rfl, ?_⟩
        refine ⟨_, rfl, o2, dx5, _, rfl, s10' _ _ h5, pF_no _ _ _ (by decide +kernel) (by decide +kernel) (by decide +kernel), _, rfl, _, rfl, o2, l2, turnP Pc t, x, y, rfl, hN3.same s10', wt, ?_⟩
        rw [hc]
        exact ⟨rfl, _, rfl, if_f (by rw [decide_eq_true rfl]; rfl) ⟨_, _, _, rfl, s10⟩⟩
      · rintro σ H10 ⟨v3, v4, v5, rfl, s10⟩
        have s10' := r16.trans s10
        have wl := wt.len
        refine ⟨_, rfl, o2, _, dx5, _, _, rfl, s10' _ _ h5, T.clPicture, T.nPicture_pixels, pF_p _ _ _, l2, _, rfl, .inl (SqL.of (s10' _ _ hN3.ls)), ?_⟩
        refine ⟨_, rfl, o, _, dx4, _, _, rfl, s10' _ _ h4, T.clPicture, T.nPicture_width, pF_w _ _ _, _, rfl, o, _, dx4, _, _, rfl, s10' _ _ h4, T.clPicture, T.nPicture_height, pF_h _ _ _, _, _, rfl, rfl, Or.inl ⟨by omega, by omega⟩, rfl, ?_⟩
        have el : ((turnP Pc t).px.map V.int).length = Pc.w * Pc.h := by
          rw [List.length_map, wl]
          unfold turnP
          have : ∀ (n : Nat) (R : Pic), R.w * R.h = Pc.w * Pc.h → (itN qtrP n R).w * (itN qtrP n R).h = Pc.w * Pc.h := by
            intro n R hR
            induction n with
            | zero => exact hR
            | succ n ih => show (itN qtrP n R).h * (itN qtrP n R).w = _; rw [Nat.mul_comm]; exact ih
          refine this _ _ ?_
          split <;> rfl
        have e9 : V.int (((turnP Pc t).px.map V.int).length : Int) = V.int ((Pc.w : Int) * (Pc.h : Int)) := by rw [el, Int.natCast_mul]
        have := q _ ((N.same.trans s3).trans s10')
        exact (decide_eq_true e9).symm ▸ this
theorem sc_law : FnScope ["script", "k", "row", "picture", "kept", "spun", "clear", "pixel"] ["script"] (defScope s_law) := ⟨rfl, rfl, rfl, by decide +kernel, rfl, by decide +kernel, by decide +kernel⟩
theorem ok_law (T : Txt K mg A) : FnOk P w K mg base CX0 6 A.flaw A.dlaw ["script"] (sp_law K) := by
  refine T.Flaw.ok sc_law (fun vs H Q E h => ?_) (fun cdv Ar outer s H vs Q E hr h => ?_)
  · obtain ⟨a, ns, rfl, _⟩ := h
    rfl
  · obtain ⟨a, ns, rfl, hS, hlen, q⟩ := h
    refine ⟨_, (pss_cons (ps_for PassesOwn.never rfl (pi_range1 (by rfl) T.range (pa_cons (pe_op op_add (pe_callB (call_min2 rfl) (by rfl) T.min (by decide +kernel) (pa_cons (pe_callB call_len_seq (by rfl) T.len PySem.boot_len (pa_cons (pv 0) pa_nil)) (pa_cons pe_int pa_nil))) pe_int) pa_nil)) (pg_name (i := 1) sc_law.nd rfl (Or.inl rfl))
      (pss_cons (ps_set (i := 2) sc_law.nd rfl (Or.inl rfl) (pe_callTy call_int1 (by rfl) T.int (by decide +kernel) (pa_cons (pe_call (ok__law_row T) (hr.mono (by decide)) rfl T.g_law_row T.k_law_row T.b_law_row .nil pass0 (pa_cons (pv 0) (pa_cons (pv 1) pa_nil))) pa_nil)))
      (pss_cons (ps_set (i := 3) sc_law.nd rfl (Or.inl rfl) (pe_call (ok__law_picture T) (hr.mono (by decide)) rfl T.g_law_picture T.k_law_picture T.b_law_picture .nil pass0 (pa_cons (pe_op op_fdiv (pv 2) pe_int) pa_nil)))
      (pss_cons (ps_set (i := 4) sc_law.nd rfl (Or.inl rfl) (pe_callTy call_list_of (by rfl) T.list (by decide +kernel) (pa_cons (pe_fld (pv 3) rfl) pa_nil)))
      (pss_cons (ps_if (PW.pt (pw_or (pt_not (pt_val (pe_call (ok__law_good T) (hr.mono (by decide)) rfl T.g_law_good T.k_law_good T.b_law_good .nil pass0 (pa_cons (pv 3) (pa_cons (pe_op op_mod (pv 2) pe_int) pa_nil))))) (pw_or1 (pt_cmpR (op_neD hr.units) (pe_fld (pv 3) rfl) (pv 4) (nomark _)))))
      (pss_one (ps_ret pe_bl))
      pss_nil)
      (pss_cons (ps_set (i := 5) sc_law.nd rfl (Or.inl rfl) (pe_meth (pv 3) T.clPicture T.mPicture_turned (ok_Picture_turned T) (hr.mono (by decide)) T.bPicture_turned .nil pass0 (pa_cons (pe_op op_mod (pv 2) pe_int) pa_nil)))
      (pss_cons (ps_asg pe_int (pg_sub (pe_fld (pv 5) rfl) pe_int set_list))
      (pss_cons (ps_if (pt_cmpR (op_neD hr.units) (pe_fld (pv 3) rfl) (pv 4) (nomark _))
      (pss_one (ps_ret pe_bl))
      pss_nil)
      (pss_cons (ps_set (i := 6) sc_law.nd rfl (Or.inl rfl) (pe_call (ok_clear_picture T) (hr.mono (by decide)) rfl T.gclear_picture T.kclear_picture T.bclear_picture .nil pass0 (pa_cons (pe_fld (pv 3) rfl) (pa_cons (pe_fld (pv 3) rfl) pa_nil))))
      (pss_one (ps_if (PW.pt (pw_or (pt_cmpR (op_neD hr.units) (pe_tup (pa_cons (pe_fld (pv 6) rfl) (pa_cons (pe_fld (pv 6) rfl) pa_nil))) (pe_tup (pa_cons (pe_fld (pv 3) rfl) (pa_cons (pe_fld (pv 3) rfl) pa_nil))) (nomark _)) (pw_or1 (pt_cmpR (op_neD hr.units) (pe_fld (pv 6) rfl) (pe_lc (own := [("pixel", 7)]) (g := (gName 7)) (tt := tYes) rfl sc_law.nd (pi_list (pv 4)) (blkOk_by (own := [("pixel", 7)]) (N := ["script", "k", "row", "picture", "kept", "spun", "clear", "pixel"]) (sc := defScope s_law) (by decide +kernel)) (fun _ _ _ _ _ => (pg_name (i := 7) sc_law.nd rfl (Or.inl rfl))) (fun _ _ _ _ _ => pts_nil) (fun _ _ _ _ _ => by exact pe_int)) (nomark _)))))
      (pss_one (ps_ret pe_bl))
      pss_nil)))))))))))
      (pss_one (ps_ret pe_bl))), ?_⟩
    refine ⟨_, rfl, a, _, rfl, .inl hS, _, _, rfl, _, _, rfl, rfl, _, rfl, ?_, ?_, ?_⟩
    · split <;> omega
    · rw [List.length_map]; split <;> omega
    refine for_range (lo := 0) (fun i σ H' => ∃ v1 v2 v3 v4 v5 v6 v7 : Option V, σ = [some (.ref a), v1, v2, v3, v4, v5, v6, v7] ∧ Same H H') ⟨_, _, _, _, _, _, _, rfl, Same.refl H⟩ ?_ ?_
    · rintro i σ H1 hi ⟨v1, v2, v3, v4, v5, v6, v7, rfl, s1⟩
      refine ⟨_, rfl, _, rfl, a, ns, i, ?_, s1.seq hS, Or.inl ⟨_, rfl, ?_⟩⟩
      · show [V.ref a, V.int (0 + (i : Int))] = [V.ref a, V.int (i : Int)]
        rw [Int.zero_add]
      have hr0 := lawRow_nn ns i
      generalize lawRow ns i = row at hr0 ⊢
      refine ⟨_, rfl, _, _, rfl, rfl, ⟨by decide, by decide⟩, _, rfl, fun o l Pc H2 hw N => ?_⟩
      obtain ⟨dx, h1⟩ := N.at_.ob
      have hw1 := hw.w1
      have hh1 := hw.h1
      have hwl := hw.len
      have hpx : Pc.px.length ≤ 128 * 128 := by rw [hwl]; exact Nat.mul_le_mul hw1 hh1
      refine ⟨_, rfl, o, _, dx, _, _, rfl, h1, T.clPicture, T.nPicture_pixels, pF_p _ _ _, l, _, rfl, .inl (SqL.of N.at_.ls), fun p1 f1 => ?_⟩
      have t1 := same_upd (o := .lst (Pc.px.map V.int)) f1
      have e1 : (upd H2 p1 (.lst (Pc.px.map V.int))) p1 = _ := upd_same
      have P1 := N.at_.same t1
      have hp1l : p1 ≠ l := (ne_of_none N.at_.ls f1).symm
      have hp1 : H p1 = none := s1.free (N.same.free f1)
      have s2 : Same H (upd H2 p1 (.lst (Pc.px.map V.int))) := (s1.trans N.same).trans t1
      generalize upd H2 p1 (.lst (Pc.px.map V.int)) = H3 at t1 e1 P1 s2
      obtain ⟨k, hk, hk8⟩ : ∃ k : Nat, row % 8 = k ∧ k < 8 := ⟨(row % 8).toNat, by omega, by omega⟩
      refine ⟨_, rfl, _, rfl, _, _, rfl, rfl, by show (0 : Int) < 8; decide, o, l, Pc, k, ?_, P1, hw, hk8, fun H4 s4 => ?_⟩
      · exact congrArg (fun z => [V.ref o, V.int z]) hk
      obtain ⟨dx3, h3⟩ := P1.ob
      refine ⟨_, rfl, if_f rfl ⟨_, rfl, o, _, dx3, _, _, rfl, s4 _ _ h3, T.clPicture, T.nPicture_pixels, pF_p _ _ _, _, rfl, _, _, dp_ints (SqL.of (s4 _ _ P1.ls)), dp_ints (SqL.of (s4 _ _ e1)), (sh_ints _).shaped, (sh_ints _).shaped, _, rfl, if_f (by rw [(sh_ints _).self]; rfl) ?_⟩⟩
      -- spun
      refine ⟨_, rfl, o, dx3, _, rfl, s4 _ _ h3, pF_no _ _ _ (by decide +kernel) (by decide +kernel) (by decide +kernel), _, rfl, _, _, rfl, rfl, by show (0 : Int) < 8; decide, o, l, Pc, k, congrArg (fun z => [V.ref o, V.int z]) hk, P1.same s4, hw, hk8, fun o5 l5 H5 N5 => ?_⟩
      obtain ⟨dx5, h5⟩ := N5.at_.ob
      have wt := hw.turn k
      have hne : (turnP Pc k).px ≠ [] := fun z => by
        have := wt.len
        rw [z] at this
        have h0 : 0 < (turnP Pc k).w * (turnP Pc k).h := Nat.mul_pos wt.w0 wt.h0
        rw [← this] at h0; exact absurd h0 (by decide)
      refine ⟨_, rfl, o5, _, dx5, _, _, rfl, h5, T.clPicture, T.nPicture_pixels, pF_p _ _ _, l5, _, 0, 0, rfl, rfl, N5.at_.ls, ?_, ?_⟩
      · have h0 : 0 < ((turnP Pc k).px.map V.int).length := by rw [List.length_map]; exact List.length_pos_iff.mpr hne
        unfold ixN
        rw [if_pos (by omega), if_pos (by omega)]; rfl
      have s6 : Same H3 (upd H5 l5 (.lst (((turnP Pc k).px.map V.int).set 0 (.int 7)))) := fun b u e => by
        have e5 := N5.same _ _ (s4 _ _ e)
        rw [upd_ne (ne_of_none (s4 _ _ e) N5.nl)]; exact e5
      generalize upd H5 l5 (.lst (((turnP Pc k).px.map V.int).set 0 (.int 7))) = H6 at s6 ⊢
      refine ⟨_, rfl, o, _, dx3, _, _, rfl, s6 _ _ h3, T.clPicture, T.nPicture_pixels, pF_p _ _ _, _, rfl, _, _, dp_ints (SqL.of (s6 _ _ P1.ls)), dp_ints (SqL.of (s6 _ _ e1)), (sh_ints _).shaped, (sh_ints _).shaped, _, rfl, if_f (by rw [(sh_ints _).self]; rfl) ?_⟩
      -- clear
      refine ⟨_, rfl, o, _, dx3, _, _, rfl, s6 _ _ h3, T.clPicture, T.nPicture_width, pF_w _ _ _, _, rfl, o, _, dx3, _, _, rfl, s6 _ _ h3, T.clPicture, T.nPicture_height, pF_h _ _ _, Pc.w, Pc.h, rfl, hw1, hh1, fun o7 l7 H7 N7 => ?_⟩
      obtain ⟨dx7, h7⟩ := N7.at_.ob
      have s7 := s6.trans N7.same
      refine ⟨_, rfl, o7, _, dx7, _, _, rfl, h7, T.clPicture, T.nPicture_width, pF_w _ _ _, _, rfl, o7, _, dx7, _, _, rfl, h7, T.clPicture, T.nPicture_height, pF_h _ _ _, len_line (by show 2 ≤ 100000; decide), fun p8 f8 => ?_⟩
      have t8 := same_upd (o := .tup [.int ((clearP Pc.w Pc.h).w : Int), .int ((clearP Pc.w Pc.h).h : Int)]) f8
      refine ⟨_, rfl, o, _, dx3, _, _, rfl, t8 _ _ (s7 _ _ h3), T.clPicture, T.nPicture_width, pF_w _ _ _, _, rfl, o, _, dx3, _, _, rfl, t8 _ _ (s7 _ _ h3), T.clPicture, T.nPicture_height, pF_h _ _ _, len_line (by show 2 ≤ 100000; decide), fun p9 f9 => ?_⟩
      have t9 := same_upd (o := .tup [.int (Pc.w : Int), .int (Pc.h : Int)]) f9
      refine ⟨_, _, dp_tup1 (xs := [(Pc.w : Int), (Pc.h : Int)]) (SqT.of (t9 _ _ upd_same)), dp_tup1 (xs := [(Pc.w : Int), (Pc.h : Int)]) (SqT.of upd_same), (sh_tup1 _).shaped, (sh_tup1 _).shaped, _, rfl, if_f (by rw [(sh_tup1 _).self]; rfl) ?_⟩
      have s9 := t8.trans t9
      have s39 := s7.trans s9
      refine ⟨_, rfl, o7, _, dx7, _, _, rfl, s9 _ _ h7, T.clPicture, T.nPicture_pixels, pF_p _ _ _, ?_⟩
      have e19 := s39 _ _ e1
      have e7l := s9 _ _ N7.at_.ls
      generalize (upd (upd H7 p8 (.tup [.int ((clearP Pc.w Pc.h).w : Int), .int ((clearP Pc.w Pc.h).h : Int)])) p9 (.tup [.int (Pc.w : Int), .int (Pc.h : Int)])) = H9 at s39 e19 e7l ⊢
      refine ⟨_, rfl, p1, rfl, ⟨_, SqL.of e19⟩, fun D hD => ?_⟩
      refine lc_dp (walk_list (K := K) (a := p1) (xs := Pc.px.map V.int)) (K := K) (V0 := H9) (H0 := H9) (fun k => some (PyData.int 0)) [some (.ref a), some (.int (0 + (i : Int))), some (.int row), some (.ref o), some (.ref p1), some (.ref o5), some (.ref o7), none] rfl (Same.refl _) hD (by rw [List.length_map]; omega) (fun H' s => SqL.of (s _ _ e19)) (fun i x H H' y => y.1) ?_ ?_
      · rintro j x U H2 hi xx ⟨_, hx⟩ Qy Qn hy _
        exact ⟨rfl, hy _ _ _ _ rfl (Ext.refl xx.vh) (.int _)⟩
      rintro U HA ys xx hDU dl _
      rw [List.length_map, fm_some, show ((List.range Pc.px.length).map fun _ => PyData.int 0) = (List.replicate (Pc.w * Pc.h) (0 : Int)).map PyData.int from by
        rw [List.map_replicate, List.map_const', List.length_range, hwl]] at dl
      have e := dp_intsV dl
      subst e
      refine ⟨_, _, dp_ints (xs := (clearP Pc.w Pc.h).px) (SqL.of (xx.hh _ _ e7l)), dp_ints (xs := List.replicate (Pc.w * Pc.h) (0 : Int)) (SqL.of (xx.vh _ _ hDU)), (sh_ints _).shaped, (sh_ints _).shaped, _, rfl, if_f ?_ ?_⟩
      · show (!PyData.eqv (pInts (List.replicate (Pc.w * Pc.h) (0 : Int))) (pInts (List.replicate (Pc.w * Pc.h) (0 : Int)))) = false
        rw [(sh_ints _).self]; rfl
      · exact ⟨_, _, _, _, _, _, _, rfl, (s2.trans s39).trans xx.hh⟩
    · rintro σ H1 _
      exact q H1
end
theorem all_mk {K : PySem.W.Frag} {h : Heap} {mg : Str → Option Value} {fa : Addr} (X : K.In h) (G : h.Ns mainGlobals mg) (hfa : mg "law" = some (.ref fa))
    {fclear_picture : Addr} {od1 an1 : Option Addr} {sl1 : Array (Option Value)} {oc1 kV1 dc1 pm1 cd1 ct1 : Value}
    {f_law_cell : Addr} {od2 an2 : Option Addr} {sl2 : Array (Option Value)} {oc2 kV2 dc2 pm2 cd2 ct2 : Value}
    {f_law_row : Addr} {od3 an3 : Option Addr} {sl3 : Array (Option Value)} {oc3 kV3 dc3 pm3 cd3 ct3 : Value}
    {f_law_picture : Addr} {od4 an4 : Option Addr} {sl4 : Array (Option Value)} {oc4 kV4 dc4 pm4 cd4 ct4 : Value}
    {f_law_come : Addr} {od5 an5 : Option Addr} {sl5 : Array (Option Value)} {oc5 kV5 dc5 pm5 cd5 ct5 : Value}
    {f_law_good : Addr} {od6 an6 : Option Addr} {sl6 : Array (Option Value)} {oc6 kV6 dc6 pm6 cd6 ct6 : Value}
    {flaw : Addr} {od7 an7 : Option Addr} {sl7 : Array (Option Value)} {oc7 kV7 dc7 pm7 cd7 ct7 : Value}
    {fPicture___init__ : Addr} {od8 an8 : Option Addr} {sl8 : Array (Option Value)} {oc8 kV8 dc8 pm8 cd8 ct8 : Value}
    {fPicture_colour_at : Addr} {od9 an9 : Option Addr} {sl9 : Array (Option Value)} {oc9 kV9 dc9 pm9 cd9 ct9 : Value}
    {fPicture_turned : Addr} {od10 an10 : Option Addr} {sl10 : Array (Option Value)} {oc10 kV10 dc10 pm10 cd10 ct10 : Value}
    {fWalk___init__ : Addr} {od11 an11 : Option Addr} {sl11 : Array (Option Value)} {oc11 kV11 dc11 pm11 cd11 ct11 : Value}
    {fWalk_row_places : Addr} {od12 an12 : Option Addr} {sl12 : Array (Option Value)} {oc12 kV12 dc12 pm12 cd12 ct12 : Value}
    {fWalk__make_quarter : Addr} {od13 an13 : Option Addr} {sl13 : Array (Option Value)} {oc13 kV13 dc13 pm13 cd13 ct13 : Value}
    {tCLEAR : Tok}
    {CPicture : Addr}
    {CWalk : Addr}
    (a1 : PySem.W.nsIn K mainGlobals "clear_picture" = some (some (.ref fclear_picture)))
    (l1 : K.lookup fclear_picture = some ⟨oc1, od1, .func (PySem.W.fnOf "clear_picture" "clear_picture" (defArgs s_clear_picture) (defBody s_clear_picture) (defScope s_clear_picture) .none kV1 dc1 pm1 an1 cd1 ct1), sl1⟩) (c1 : PySem.W.codeIn K cd1 "clear_picture" = true) (k1 : PySem.W.keepIn K (.ref fclear_picture) = true)
    (a2 : PySem.W.nsIn K mainGlobals "_law_cell" = some (some (.ref f_law_cell)))
    (l2 : K.lookup f_law_cell = some ⟨oc2, od2, .func (PySem.W.fnOf "_law_cell" "_law_cell" (defArgs s__law_cell) (defBody s__law_cell) (defScope s__law_cell) .none kV2 dc2 pm2 an2 cd2 ct2), sl2⟩) (c2 : PySem.W.codeIn K cd2 "_law_cell" = true) (k2 : PySem.W.keepIn K (.ref f_law_cell) = true)
    (a3 : PySem.W.nsIn K mainGlobals "_law_row" = some (some (.ref f_law_row)))
    (l3 : K.lookup f_law_row = some ⟨oc3, od3, .func (PySem.W.fnOf "_law_row" "_law_row" (defArgs s__law_row) (defBody s__law_row) (defScope s__law_row) .none kV3 dc3 pm3 an3 cd3 ct3), sl3⟩) (c3 : PySem.W.codeIn K cd3 "_law_row" = true) (k3 : PySem.W.keepIn K (.ref f_law_row) = true)
    (a4 : PySem.W.nsIn K mainGlobals "_law_picture" = some (some (.ref f_law_picture)))
    (l4 : K.lookup f_law_picture = some ⟨oc4, od4, .func (PySem.W.fnOf "_law_picture" "_law_picture" (defArgs s__law_picture) (defBody s__law_picture) (defScope s__law_picture) .none kV4 dc4 pm4 an4 cd4 ct4), sl4⟩) (c4 : PySem.W.codeIn K cd4 "_law_picture" = true) (k4 : PySem.W.keepIn K (.ref f_law_picture) = true)
    (a5 : PySem.W.nsIn K mainGlobals "_law_come" = some (some (.ref f_law_come)))
    (l5 : K.lookup f_law_come = some ⟨oc5, od5, .func (PySem.W.fnOf "_law_come" "_law_come" (defArgs s__law_come) (defBody s__law_come) (defScope s__law_come) .none kV5 dc5 pm5 an5 cd5 ct5), sl5⟩) (c5 : PySem.W.codeIn K cd5 "_law_come" = true) (k5 : PySem.W.keepIn K (.ref f_law_come) = true)
    (a6 : PySem.W.nsIn K mainGlobals "_law_good" = some (some (.ref f_law_good)))
    (l6 : K.lookup f_law_good = some ⟨oc6, od6, .func (PySem.W.fnOf "_law_good" "_law_good" (defArgs s__law_good) (defBody s__law_good) (defScope s__law_good) .none kV6 dc6 pm6 an6 cd6 ct6), sl6⟩) (c6 : PySem.W.codeIn K cd6 "_law_good" = true) (k6 : PySem.W.keepIn K (.ref f_law_good) = true)
    (a7 : PySem.W.nsIn K mainGlobals "law" = some (some (.ref flaw)))
    (l7 : K.lookup flaw = some ⟨oc7, od7, .func (PySem.W.fnOf "law" "law" (defArgs s_law) (defBody s_law) (defScope s_law) .none kV7 dc7 pm7 an7 cd7 ct7), sl7⟩) (c7 : PySem.W.codeIn K cd7 "law" = true) (k7 : PySem.W.keepIn K (.ref flaw) = true)
    (a8 : PySem.W.findIn K (.ref CPicture) "__init__" = some (some (.ref fPicture___init__)))
    (i8 : PySem.W.isFn K (.ref fPicture___init__) = true)
    (l8 : K.lookup fPicture___init__ = some ⟨oc8, od8, .func (PySem.W.fnOf "__init__" "Picture.__init__" (defArgs s_Picture___init__) (defBody s_Picture___init__) (defScope s_Picture___init__) .none kV8 dc8 pm8 an8 cd8 ct8), sl8⟩) (c8 : PySem.W.codeIn K cd8 "Picture.__init__" = true) (k8 : PySem.W.keepIn K (.ref fPicture___init__) = true)
    (a9 : PySem.W.findIn K (.ref CPicture) "colour_at" = some (some (.ref fPicture_colour_at)))
    (i9 : PySem.W.isFn K (.ref fPicture_colour_at) = true)
    (l9 : K.lookup fPicture_colour_at = some ⟨oc9, od9, .func (PySem.W.fnOf "colour_at" "Picture.colour_at" (defArgs s_Picture_colour_at) (defBody s_Picture_colour_at) (defScope s_Picture_colour_at) .none kV9 dc9 pm9 an9 cd9 ct9), sl9⟩) (c9 : PySem.W.codeIn K cd9 "Picture.colour_at" = true) (k9 : PySem.W.keepIn K (.ref fPicture_colour_at) = true)
    (a10 : PySem.W.findIn K (.ref CPicture) "turned" = some (some (.ref fPicture_turned)))
    (i10 : PySem.W.isFn K (.ref fPicture_turned) = true)
    (l10 : K.lookup fPicture_turned = some ⟨oc10, od10, .func (PySem.W.fnOf "turned" "Picture.turned" (defArgs s_Picture_turned) (defBody s_Picture_turned) (defScope s_Picture_turned) .none kV10 dc10 pm10 an10 cd10 ct10), sl10⟩) (c10 : PySem.W.codeIn K cd10 "Picture.turned" = true) (k10 : PySem.W.keepIn K (.ref fPicture_turned) = true)
    (a11 : PySem.W.findIn K (.ref CWalk) "__init__" = some (some (.ref fWalk___init__)))
    (i11 : PySem.W.isFn K (.ref fWalk___init__) = true)
    (l11 : K.lookup fWalk___init__ = some ⟨oc11, od11, .func (PySem.W.fnOf "__init__" "Walk.__init__" (defArgs s_Walk___init__) (defBody s_Walk___init__) (defScope s_Walk___init__) .none kV11 dc11 pm11 an11 cd11 ct11), sl11⟩) (c11 : PySem.W.codeIn K cd11 "Walk.__init__" = true) (k11 : PySem.W.keepIn K (.ref fWalk___init__) = true)
    (a12 : PySem.W.findIn K (.ref CWalk) "row_places" = some (some (.ref fWalk_row_places)))
    (i12 : PySem.W.isFn K (.ref fWalk_row_places) = true)
    (l12 : K.lookup fWalk_row_places = some ⟨oc12, od12, .func (PySem.W.fnOf "row_places" "Walk.row_places" (defArgs s_Walk_row_places) (defBody s_Walk_row_places) (defScope s_Walk_row_places) .none kV12 dc12 pm12 an12 cd12 ct12), sl12⟩) (c12 : PySem.W.codeIn K cd12 "Walk.row_places" = true) (k12 : PySem.W.keepIn K (.ref fWalk_row_places) = true)
    (a13 : PySem.W.findIn K (.ref CWalk) "_make_quarter" = some (some (.ref fWalk__make_quarter)))
    (i13 : PySem.W.isFn K (.ref fWalk__make_quarter) = true)
    (l13 : K.lookup fWalk__make_quarter = some ⟨oc13, od13, .func (PySem.W.fnOf "_make_quarter" "Walk._make_quarter" (defArgs s_Walk__make_quarter) (defBody s_Walk__make_quarter) (defScope s_Walk__make_quarter) .none kV13 dc13 pm13 an13 cd13 ct13), sl13⟩) (c13 : PySem.W.codeIn K cd13 "Walk._make_quarter" = true) (k13 : PySem.W.keepIn K (.ref fWalk__make_quarter) = true)
    (z_int : PySem.W.nsIn K mainGlobals "int" = some none)
    (z_len : PySem.W.nsIn K mainGlobals "len" = some none)
    (z_list : PySem.W.nsIn K mainGlobals "list" = some none)
    (z_min : PySem.W.nsIn K mainGlobals "min" = some none)
    (z_range : PySem.W.nsIn K mainGlobals "range" = some none)
    (q_CLEAR : PySem.W.nsIn K mainGlobals "CLEAR" = some (some (.int (0) tCLEAR)))
    (uPicture : PySem.W.nsIn K mainGlobals "Picture" = some (some (.ref CPicture)))
    (pgPicture : PySem.W.plainGet K CPicture Str.empty = true) (hdPicture : PySem.W.hasDictIn K CPicture = true) (poPicture : PySem.W.plainOver K CPicture = true) (saPicture : PySem.W.findIn K (.ref CPicture) "__setattr__" = some (some (.builtin "object.__setattr__"))) (mkPicture : PySem.W.makesIn K CPicture = true) (kcPicture : PySem.W.keepIn K (.ref CPicture) = true)
    (nPicture_width : PySem.W.findIn K (.ref CPicture) "width" = some none)
    (nPicture_height : PySem.W.findIn K (.ref CPicture) "height" = some none)
    (nPicture_pixels : PySem.W.findIn K (.ref CPicture) "pixels" = some none)
    (uWalk : PySem.W.nsIn K mainGlobals "Walk" = some (some (.ref CWalk)))
    (pgWalk : PySem.W.plainGet K CWalk Str.empty = true) (hdWalk : PySem.W.hasDictIn K CWalk = true) (poWalk : PySem.W.plainOver K CWalk = true) (saWalk : PySem.W.findIn K (.ref CWalk) "__setattr__" = some (some (.builtin "object.__setattr__"))) (mkWalk : PySem.W.makesIn K CWalk = true) (kcWalk : PySem.W.keepIn K (.ref CWalk) = true)
    (nWalk_width : PySem.W.findIn K (.ref CWalk) "width" = some none)
    (nWalk_height : PySem.W.findIn K (.ref CWalk) "height" = some none)
    (nWalk_first : PySem.W.findIn K (.ref CWalk) "first" = some none)
    (nWalk_right : PySem.W.findIn K (.ref CWalk) "right" = some none)
    (nWalk_down : PySem.W.findIn K (.ref CWalk) "down" = some none)
    : ∃ A : Adr, A.flaw = fa ∧ Txt K mg A ∧ (∀ (s : Shared) (v : Value), BindsTo s A.dlaw ⟨[v], []⟩ [("script", v)]) := by
  have e := hfa.symm.trans (PySem.W.mg_of X G a7)
  cases e
  have F1 := fun_mk (st := s_clear_picture) l1 c1 k1
  have b1 := F1.binds (ps := ["width", "height"]) fun _ _ _ _ _ _ us hl => match us, hl with | [_, _], _ => rfl
  have F2 := fun_mk (st := s__law_cell) l2 c2 k2
  have b2 := F2.binds (ps := ["script", "k"]) fun _ _ _ _ _ _ us hl => match us, hl with | [_, _], _ => rfl
  have F3 := fun_mk (st := s__law_row) l3 c3 k3
  have b3 := F3.binds (ps := ["script", "k"]) fun _ _ _ _ _ _ us hl => match us, hl with | [_, _], _ => rfl
  have F4 := fun_mk (st := s__law_picture) l4 c4 k4
  have b4 := F4.binds (ps := ["row"]) fun _ _ _ _ _ _ us hl => match us, hl with | [_], _ => rfl
  have F5 := fun_mk (st := s__law_come) l5 c5 k5
  have b5 := F5.binds (ps := ["turn", "width", "height", "x", "y"]) fun _ _ _ _ _ _ us hl => match us, hl with | [_, _, _, _, _], _ => rfl
  have F6 := fun_mk (st := s__law_good) l6 c6 k6
  have b6 := F6.binds (ps := ["picture", "turn"]) fun _ _ _ _ _ _ us hl => match us, hl with | [_, _], _ => rfl
  have F7 := fun_mk (st := s_law) l7 c7 k7
  have b7 := F7.binds (ps := ["script"]) fun _ _ _ _ _ _ us hl => match us, hl with | [_], _ => rfl
  have F8 := fun_mk (st := s_Picture___init__) l8 c8 k8
  have b8 := F8.binds (ps := ["self", "width", "height", "pixels"]) fun _ _ _ _ _ _ us hl => match us, hl with | [_, _, _, _], _ => rfl
  have F9 := fun_mk (st := s_Picture_colour_at) l9 c9 k9
  have b9 := F9.binds (ps := ["self", "x", "y"]) fun _ _ _ _ _ _ us hl => match us, hl with | [_, _, _], _ => rfl
  have F10 := fun_mk (st := s_Picture_turned) l10 c10 k10
  have b10 := F10.binds (ps := ["self", "turn"]) fun _ _ _ _ _ _ us hl => match us, hl with | [_, _], _ => rfl
  have F11 := fun_mk (st := s_Walk___init__) l11 c11 k11
  have b11 := F11.binds (ps := ["self", "width", "height", "turn"]) fun _ _ _ _ _ _ us hl => match us, hl with | [_, _, _, _], _ => rfl
  have F12 := fun_mk (st := s_Walk_row_places) l12 c12 k12
  have b12 := F12.binds (ps := ["self", "x", "y", "many"]) fun _ _ _ _ _ _ us hl => match us, hl with | [_, _, _, _], _ => rfl
  have F13 := fun_mk (st := s_Walk__make_quarter) l13 c13 k13
  have b13 := F13.binds (ps := ["self"]) fun _ _ _ _ _ _ us hl => match us, hl with | [_], _ => rfl
  refine ⟨{ fclear_picture := fclear_picture, dclear_picture := (PySem.W.fnOf "clear_picture" "clear_picture" (defArgs s_clear_picture) (defBody s_clear_picture) (defScope s_clear_picture) .none kV1 dc1 pm1 an1 cd1 ct1), f_law_cell := f_law_cell, d_law_cell := (PySem.W.fnOf "_law_cell" "_law_cell" (defArgs s__law_cell) (defBody s__law_cell) (defScope s__law_cell) .none kV2 dc2 pm2 an2 cd2 ct2), f_law_row := f_law_row, d_law_row := (PySem.W.fnOf "_law_row" "_law_row" (defArgs s__law_row) (defBody s__law_row) (defScope s__law_row) .none kV3 dc3 pm3 an3 cd3 ct3), f_law_picture := f_law_picture, d_law_picture := (PySem.W.fnOf "_law_picture" "_law_picture" (defArgs s__law_picture) (defBody s__law_picture) (defScope s__law_picture) .none kV4 dc4 pm4 an4 cd4 ct4), f_law_come := f_law_come, d_law_come := (PySem.W.fnOf "_law_come" "_law_come" (defArgs s__law_come) (defBody s__law_come) (defScope s__law_come) .none kV5 dc5 pm5 an5 cd5 ct5), f_law_good := f_law_good, d_law_good := (PySem.W.fnOf "_law_good" "_law_good" (defArgs s__law_good) (defBody s__law_good) (defScope s__law_good) .none kV6 dc6 pm6 an6 cd6 ct6), flaw := fa, dlaw := (PySem.W.fnOf "law" "law" (defArgs s_law) (defBody s_law) (defScope s_law) .none kV7 dc7 pm7 an7 cd7 ct7), fPicture___init__ := fPicture___init__, dPicture___init__ := (PySem.W.fnOf "__init__" "Picture.__init__" (defArgs s_Picture___init__) (defBody s_Picture___init__) (defScope s_Picture___init__) .none kV8 dc8 pm8 an8 cd8 ct8), fPicture_colour_at := fPicture_colour_at, dPicture_colour_at := (PySem.W.fnOf "colour_at" "Picture.colour_at" (defArgs s_Picture_colour_at) (defBody s_Picture_colour_at) (defScope s_Picture_colour_at) .none kV9 dc9 pm9 an9 cd9 ct9), fPicture_turned := fPicture_turned, dPicture_turned := (PySem.W.fnOf "turned" "Picture.turned" (defArgs s_Picture_turned) (defBody s_Picture_turned) (defScope s_Picture_turned) .none kV10 dc10 pm10 an10 cd10 ct10), fWalk___init__ := fWalk___init__, dWalk___init__ := (PySem.W.fnOf "__init__" "Walk.__init__" (defArgs s_Walk___init__) (defBody s_Walk___init__) (defScope s_Walk___init__) .none kV11 dc11 pm11 an11 cd11 ct11), fWalk_row_places := fWalk_row_places, dWalk_row_places := (PySem.W.fnOf "row_places" "Walk.row_places" (defArgs s_Walk_row_places) (defBody s_Walk_row_places) (defScope s_Walk_row_places) .none kV12 dc12 pm12 an12 cd12 ct12), fWalk__make_quarter := fWalk__make_quarter, dWalk__make_quarter := (PySem.W.fnOf "_make_quarter" "Walk._make_quarter" (defArgs s_Walk__make_quarter) (defBody s_Walk__make_quarter) (defScope s_Walk__make_quarter) .none kV13 dc13 pm13 an13 cd13 ct13), tCLEAR := tCLEAR, CPicture := CPicture, CWalk := CWalk }, rfl, { Fclear_picture := F1, bclear_picture := b1, gclear_picture := PySem.W.mg_of X G a1, kclear_picture := k1, F_law_cell := F2, b_law_cell := b2, g_law_cell := PySem.W.mg_of X G a2, k_law_cell := k2, F_law_row := F3, b_law_row := b3, g_law_row := PySem.W.mg_of X G a3, k_law_row := k3, F_law_picture := F4, b_law_picture := b4, g_law_picture := PySem.W.mg_of X G a4, k_law_picture := k4, F_law_come := F5, b_law_come := b5, g_law_come := PySem.W.mg_of X G a5, k_law_come := k5, F_law_good := F6, b_law_good := b6, g_law_good := PySem.W.mg_of X G a6, k_law_good := k6, Flaw := F7, blaw := b7, glaw := PySem.W.mg_of X G a7, klaw := k7, FPicture___init__ := F8, bPicture___init__ := b8, MPicture := ⟨mkPicture, a8, i8, kcPicture⟩, FPicture_colour_at := F9, bPicture_colour_at := b9, mPicture_colour_at := ⟨a9, i9, k9⟩, FPicture_turned := F10, bPicture_turned := b10, mPicture_turned := ⟨a10, i10, k10⟩, FWalk___init__ := F11, bWalk___init__ := b11, MWalk := ⟨mkWalk, a11, i11, kcWalk⟩, FWalk_row_places := F12, bWalk_row_places := b12, mWalk_row_places := ⟨a12, i12, k12⟩, FWalk__make_quarter := F13, bWalk__make_quarter := b13, mWalk__make_quarter := ⟨a13, i13, k13⟩, int := PySem.W.mg_none_of X G z_int, len := PySem.W.mg_none_of X G z_len, list := PySem.W.mg_none_of X G z_list, min := PySem.W.mg_none_of X G z_min, range := PySem.W.mg_none_of X G z_range, gCLEAR := PySem.W.mg_of X G q_CLEAR, clPicture := ⟨pgPicture, hdPicture, poPicture, saPicture⟩, gPicture := PySem.W.mg_of X G uPicture, nPicture_width := nPicture_width, nPicture_height := nPicture_height, nPicture_pixels := nPicture_pixels, clWalk := ⟨pgWalk, hdWalk, poWalk, saWalk⟩, gWalk := PySem.W.mg_of X G uWalk, nWalk_width := nWalk_width, nWalk_height := nWalk_height, nWalk_first := nWalk_first, nWalk_right := nWalk_right, nWalk_down := nWalk_down }, fun s v => .of_eq rfl⟩
theorem walk {l : PySem.W.OpenLaw} {q : Program} {loose : List Str} {XP : (Str → Option Value) → Heap → Prop} {YP : World → Heap → Prop} {d : DefRec} {K : Params → PySem.W.Frag} (hn : l.most = some 63) (hdf : d.params.defaults = [])
    (hY : ∀ (w : World) (h : Heap), YP w h → (K w.params).In h)
    (F : ∀ (w : World) (mg : Str → Option Value) (fa : Addr) (h : Heap), (K w.params).In h → h.Ns mainGlobals mg → mg d.name = some (.ref fa) →
      ∃ A : Adr, A.flaw = fa ∧ Txt (K w.params) mg A ∧ (∀ (s : Shared) (v : Value), BindsTo s A.dlaw ⟨[v], []⟩ [("script", v)])) :
    PySem.W.WalkO q loose XP YP l.row.toRowW d [] (fun f vs => PySem.call f vs) :=
  L2.walk_of (n := 63) (k := 6) (x := "script") (CX := fun _ => CX0) (sp := fun w => sp_law (K w.params)) hn (by decide) hdf ⟨rfl, by decide, by decide⟩ hY (fun w mg fa h X G hfa => by
    obtain ⟨A, rfl, T, b⟩ := F w mg fa h X G hfa
    exact ⟨A.dlaw, b, fun base _ _ => ok_law T⟩) (fun _ _ a ns hl _ hS => ⟨a, ns, rfl, hS, hl, fun _ => rfl⟩) fun _ _ _ _ _ z => z
end My
open PySem PySem.W PyProof.Rows
set_option maxRecDepth 100000 in
set_option maxHeartbeats 0 in
theorem PySem.Challenge.cw_sillwatch_k27_turned_pictures_holds : PySem.Challenge.rw_sillwatch_k27_turned_pictures.Holds := by
  w_on; o_law; k_head; (case hw => w_witness2)
  k_fill
  refine My.walk (l := PySem.Challenge.rw_sillwatch_k27_turned_pictures) rfl rfl (fun w h Y => PySem.W.kIn_of Y) ?F
  case F =>
    intro w mg fa h KX G hmg
    refine' My.all_mk KX G hmg ?a1 ?l1 ?c1 ?k1 ?a2 ?l2 ?c2 ?k2 ?a3 ?l3 ?c3 ?k3 ?a4 ?l4 ?c4 ?k4 ?a5 ?l5 ?c5 ?k5 ?a6 ?l6 ?c6 ?k6 ?a7 ?l7 ?c7 ?k7 ?a8 ?i8 ?l8 ?c8 ?k8 ?a9 ?i9 ?l9 ?c9 ?k9 ?a10 ?i10 ?l10 ?c10 ?k10 ?a11 ?i11 ?l11 ?c11 ?k11 ?a12 ?i12 ?l12 ?c12 ?k12 ?a13 ?i13 ?l13 ?c13 ?k13 ?z_int ?z_len ?z_list ?z_min ?z_range ?q_CLEAR ?uPicture ?pgPicture ?hdPicture ?poPicture ?saPicture ?mkPicture ?kcPicture ?nPicture_width ?nPicture_height ?nPicture_pixels ?uWalk ?pgWalk ?hdWalk ?poWalk ?saWalk ?mkWalk ?kcWalk ?nWalk_width ?nWalk_height ?nWalk_first ?nWalk_right ?nWalk_down
    (case uPicture => k_is)
    (case uWalk => k_is)
    (case a1 => k_is)
    (case l1 => k_is)
    (case c1 => k_is)
    (case k1 => k_is)
    (case a2 => k_is)
    (case l2 => k_is)
    (case c2 => k_is)
    (case k2 => k_is)
    (case a3 => k_is)
    (case l3 => k_is)
    (case c3 => k_is)
    (case k3 => k_is)
    (case a4 => k_is)
    (case l4 => k_is)
    (case c4 => k_is)
    (case k4 => k_is)
    (case a5 => k_is)
    (case l5 => k_is)
    (case c5 => k_is)
    (case k5 => k_is)
    (case a6 => k_is)
    (case l6 => k_is)
    (case c6 => k_is)
    (case k6 => k_is)
    (case a7 => k_is)
    (case l7 => k_is)
    (case c7 => k_is)
    (case k7 => k_is)
    (case a8 => k_is)
    (case i8 => k_is)
    (case l8 => k_is)
    (case c8 => k_is)
    (case k8 => k_is)
    (case a9 => k_is)
    (case i9 => k_is)
    (case l9 => k_is)
    (case c9 => k_is)
    (case k9 => k_is)
    (case a10 => k_is)
    (case i10 => k_is)
    (case l10 => k_is)
    (case c10 => k_is)
    (case k10 => k_is)
    (case a11 => k_is)
    (case i11 => k_is)
    (case l11 => k_is)
    (case c11 => k_is)
    (case k11 => k_is)
    (case a12 => k_is)
    (case i12 => k_is)
    (case l12 => k_is)
    (case c12 => k_is)
    (case k12 => k_is)
    (case a13 => k_is)
    (case i13 => k_is)
    (case l13 => k_is)
    (case c13 => k_is)
    (case k13 => k_is)
    (case z_int => k_is)
    (case z_len => k_is)
    (case z_list => k_is)
    (case z_min => k_is)
    (case z_range => k_is)
    (case q_CLEAR => k_is)
    (case pgPicture => k_is)
    (case hdPicture => k_is)
    (case poPicture => k_is)
    (case saPicture => k_is)
    (case mkPicture => k_is)
    (case kcPicture => k_is)
    (case nPicture_width => k_is)
    (case nPicture_height => k_is)
    (case nPicture_pixels => k_is)
    (case pgWalk => k_is)
    (case hdWalk => k_is)
    (case poWalk => k_is)
    (case saWalk => k_is)
    (case mkWalk => k_is)
    (case kcWalk => k_is)
    (case nWalk_width => k_is)
    (case nWalk_height => k_is)
    (case nWalk_first => k_is)
    (case nWalk_right => k_is)
    (case nWalk_down => k_is)
