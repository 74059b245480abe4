import PyProof.Rows.All
import Wide.All
import OpenK.AllK
import Wide.FinOn
import HandS.ForMost
import HandS.Exc
import HandS.TryOnly
import HandS.ExcOwn
import HandS.WordsExc
import HandS.IsInst
import HandS.Wide
import HandS.Flow
import HandS.More
import HandS.Codes
import HandS.Walk
import HandS.TupLe
import HandS.WordsDict
import HandS.Conv
import HandS.TryMany
import HandS.ExcIs
import KE.KBits
import HandS.CallLocal
import HandS.Strs
import HandS.SetFor
import HandS.Set
import HandS.Property
import HandS.DeepEq
import HandS.DictComp
import PySem.Challenge.RW_sillwatch_k30_changes_laid_over
set_option Elab.async false
set_option linter.all false
set_option maxRecDepth 100000
set_option maxHeartbeats 4000000
namespace My
open PySem L2
def topS (i : Nat) : Stmt := PySem.Challenge.pw_sillwatch_k30_changes_laid_over.main.body.getD i (.Pass ⟨0, 0, 0, 0⟩)
abbrev s_empty_content : Stmt := topS 4
abbrev s_laid_over : Stmt := topS 5
abbrev s_changed_content : Stmt := topS 6
abbrev s_content_size : Stmt := topS 7
abbrev s_scale_fits : Stmt := topS 8
abbrev s__latest : Stmt := topS 9
abbrev s__copied_list : Stmt := topS 10
abbrev s__copied_dict : Stmt := topS 11
abbrev s_clear_picture : Stmt := topS 16
abbrev s__law_cell : Stmt := topS 18
abbrev s__law_row : Stmt := topS 19
abbrev s__law_change : Stmt := topS 20
abbrev s__law_state : Stmt := topS 21
abbrev s__law_alike : Stmt := topS 22
abbrev s__law_said : Stmt := topS 23
abbrev s__law_size_good : Stmt := topS 24
abbrev s_law : Stmt := topS 25
abbrev s_Content___init__ : Stmt := inClass (topS 2) 0
abbrev s_Change___init__ : Stmt := inClass (topS 3) 0
abbrev s_Picture___init__ : Stmt := inClass (topS 14) 0
structure Adr where
  fempty_content : Addr
  dempty_content : FuncData
  flaid_over : Addr
  dlaid_over : FuncData
  fchanged_content : Addr
  dchanged_content : FuncData
  fcontent_size : Addr
  dcontent_size : FuncData
  fscale_fits : Addr
  dscale_fits : FuncData
  f_latest : Addr
  d_latest : FuncData
  f_copied_list : Addr
  d_copied_list : FuncData
  f_copied_dict : Addr
  d_copied_dict : FuncData
  fclear_picture : Addr
  dclear_picture : FuncData
  f_law_cell : Addr
  d_law_cell : FuncData
  f_law_row : Addr
  d_law_row : FuncData
  f_law_change : Addr
  d_law_change : FuncData
  f_law_state : Addr
  d_law_state : FuncData
  f_law_alike : Addr
  d_law_alike : FuncData
  f_law_said : Addr
  d_law_said : FuncData
  f_law_size_good : Addr
  d_law_size_good : FuncData
  flaw : Addr
  dlaw : FuncData
  fContent___init__ : Addr
  dContent___init__ : FuncData
  fChange___init__ : Addr
  dChange___init__ : FuncData
  fPicture___init__ : Addr
  dPicture___init__ : FuncData
  tCLEAR : Tok
  CContent : Addr
  CChange : Addr
  CPicture : Addr
  CWalk : Addr
structure Txt (K : PySem.W.Frag) (mg : Str → Option Value) (A : Adr) : Prop where
  Fempty_content : Fun K "empty_content" "empty_content" s_empty_content A.fempty_content A.dempty_content
  bempty_content : Binds K A.dempty_content ["number"] []
  gempty_content : mg "empty_content" = some (.ref A.fempty_content)
  kempty_content : PySem.W.keepIn K (.ref A.fempty_content) = true
  Flaid_over : Fun K "laid_over" "laid_over" s_laid_over A.flaid_over A.dlaid_over
  blaid_over : Binds K A.dlaid_over ["first", "second"] []
  glaid_over : mg "laid_over" = some (.ref A.flaid_over)
  klaid_over : PySem.W.keepIn K (.ref A.flaid_over) = true
  Fchanged_content : Fun K "changed_content" "changed_content" s_changed_content A.fchanged_content A.dchanged_content
  bchanged_content : Binds K A.dchanged_content ["content", "change"] []
  gchanged_content : mg "changed_content" = some (.ref A.fchanged_content)
  kchanged_content : PySem.W.keepIn K (.ref A.fchanged_content) = true
  Fcontent_size : Fun K "content_size" "content_size" s_content_size A.fcontent_size A.dcontent_size
  bcontent_size : Binds K A.dcontent_size ["content"] []
  gcontent_size : mg "content_size" = some (.ref A.fcontent_size)
  kcontent_size : PySem.W.keepIn K (.ref A.fcontent_size) = true
  Fscale_fits : Fun K "scale_fits" "scale_fits" s_scale_fits A.fscale_fits A.dscale_fits
  bscale_fits : Binds K A.dscale_fits ["content"] []
  gscale_fits : mg "scale_fits" = some (.ref A.fscale_fits)
  kscale_fits : PySem.W.keepIn K (.ref A.fscale_fits) = true
  F_latest : Fun K "_latest" "_latest" s__latest A.f_latest A.d_latest
  b_latest : Binds K A.d_latest ["before", "said"] []
  g_latest : mg "_latest" = some (.ref A.f_latest)
  k_latest : PySem.W.keepIn K (.ref A.f_latest) = true
  F_copied_list : Fun K "_copied_list" "_copied_list" s__copied_list A.f_copied_list A.d_copied_list
  b_copied_list : Binds K A.d_copied_list ["values"] []
  g_copied_list : mg "_copied_list" = some (.ref A.f_copied_list)
  k_copied_list : PySem.W.keepIn K (.ref A.f_copied_list) = true
  F_copied_dict : Fun K "_copied_dict" "_copied_dict" s__copied_dict A.f_copied_dict A.d_copied_dict
  b_copied_dict : Binds K A.d_copied_dict ["values"] []
  g_copied_dict : mg "_copied_dict" = some (.ref A.f_copied_dict)
  k_copied_dict : PySem.W.keepIn K (.ref A.f_copied_dict) = true
  Fclear_picture : Fun K "clear_picture" "clear_picture" s_clear_picture A.fclear_picture A.dclear_picture
  bclear_picture : Binds K A.dclear_picture ["width", "height"] []
  gclear_picture : mg "clear_picture" = some (.ref A.fclear_picture)
  kclear_picture : PySem.W.keepIn K (.ref A.fclear_picture) = true
  F_law_cell : Fun K "_law_cell" "_law_cell" s__law_cell A.f_law_cell A.d_law_cell
  b_law_cell : Binds K A.d_law_cell ["script", "k"] []
  g_law_cell : mg "_law_cell" = some (.ref A.f_law_cell)
  k_law_cell : PySem.W.keepIn K (.ref A.f_law_cell) = true
  F_law_row : Fun K "_law_row" "_law_row" s__law_row A.f_law_row A.d_law_row
  b_law_row : Binds K A.d_law_row ["script", "k"] []
  g_law_row : mg "_law_row" = some (.ref A.f_law_row)
  k_law_row : PySem.W.keepIn K (.ref A.f_law_row) = true
  F_law_change : Fun K "_law_change" "_law_change" s__law_change A.f_law_change A.d_law_change
  b_law_change : Binds K A.d_law_change ["row", "k"] []
  g_law_change : mg "_law_change" = some (.ref A.f_law_change)
  k_law_change : PySem.W.keepIn K (.ref A.f_law_change) = true
  F_law_state : Fun K "_law_state" "_law_state" s__law_state A.f_law_state A.d_law_state
  b_law_state : Binds K A.d_law_state ["content"] []
  g_law_state : mg "_law_state" = some (.ref A.f_law_state)
  k_law_state : PySem.W.keepIn K (.ref A.f_law_state) = true
  F_law_alike : Fun K "_law_alike" "_law_alike" s__law_alike A.f_law_alike A.d_law_alike
  b_law_alike : Binds K A.d_law_alike ["one", "two"] []
  g_law_alike : mg "_law_alike" = some (.ref A.f_law_alike)
  k_law_alike : PySem.W.keepIn K (.ref A.f_law_alike) = true
  F_law_said : Fun K "_law_said" "_law_said" s__law_said A.f_law_said A.d_law_said
  b_law_said : Binds K A.d_law_said ["content", "change"] []
  g_law_said : mg "_law_said" = some (.ref A.f_law_said)
  k_law_said : PySem.W.keepIn K (.ref A.f_law_said) = true
  F_law_size_good : Fun K "_law_size_good" "_law_size_good" s__law_size_good A.f_law_size_good A.d_law_size_good
  b_law_size_good : Binds K A.d_law_size_good ["content"] []
  g_law_size_good : mg "_law_size_good" = some (.ref A.f_law_size_good)
  k_law_size_good : PySem.W.keepIn K (.ref A.f_law_size_good) = true
  Flaw : Fun K "law" "law" s_law A.flaw A.dlaw
  blaw : Binds K A.dlaw ["script"] []
  glaw : mg "law" = some (.ref A.flaw)
  klaw : PySem.W.keepIn K (.ref A.flaw) = true
  FContent___init__ : Fun K "__init__" "Content.__init__" s_Content___init__ A.fContent___init__ A.dContent___init__
  bContent___init__ : Binds K A.dContent___init__ ["self", "picture", "turn", "scale", "hears", "order", "places"] []
  MContent : Mk K A.CContent A.fContent___init__
  FChange___init__ : Fun K "__init__" "Change.__init__" s_Change___init__ A.fChange___init__ A.dChange___init__
  bChange___init__ : Binds K A.dChange___init__ ["self", "attached", "hearing", "turn", "scale", "order", "places", "callbacks"] []
  MChange : Mk K A.CChange A.fChange___init__
  FPicture___init__ : Fun K "__init__" "Picture.__init__" s_Picture___init__ A.fPicture___init__ A.dPicture___init__
  bPicture___init__ : Binds K A.dPicture___init__ ["self", "width", "height", "pixels"] []
  MPicture : Mk K A.CPicture A.fPicture___init__
  dict : mg "dict" = none
  int : mg "int" = none
  len : mg "len" = none
  list : mg "list" = none
  min : mg "min" = none
  range : mg "range" = none
  gCLEAR : mg "CLEAR" = some (.int (0) A.tCLEAR)
  clContent : Cls K A.CContent
  gContent : mg "Content" = some (.ref A.CContent)
  nContent_picture : NoAttr K A.CContent "picture"
  nContent_turn : NoAttr K A.CContent "turn"
  nContent_scale : NoAttr K A.CContent "scale"
  nContent_hears : NoAttr K A.CContent "hears"
  nContent_order : NoAttr K A.CContent "order"
  nContent_places : NoAttr K A.CContent "places"
  clChange : Cls K A.CChange
  gChange : mg "Change" = some (.ref A.CChange)
  nChange_attached : NoAttr K A.CChange "attached"
  nChange_hearing : NoAttr K A.CChange "hearing"
  nChange_turn : NoAttr K A.CChange "turn"
  nChange_scale : NoAttr K A.CChange "scale"
  nChange_order : NoAttr K A.CChange "order"
  nChange_places : NoAttr K A.CChange "places"
  nChange_callbacks : NoAttr K A.CChange "callbacks"
  clPicture : Cls K A.CPicture
  gPicture : mg "Picture" = some (.ref A.CPicture)
  nPicture_width : NoAttr K A.CPicture "width"
  nPicture_height : NoAttr K A.CPicture "height"
  nPicture_pixels : NoAttr K A.CPicture "pixels"
  clWalk : Cls K A.CWalk
  gWalk : mg "Walk" = some (.ref A.CWalk)
  nWalk_width : NoAttr K A.CWalk "width"
  nWalk_height : NoAttr K A.CWalk "height"
  nWalk_first : NoAttr K A.CWalk "first"
  nWalk_right : NoAttr K A.CWalk "right"
  nWalk_down : NoAttr K A.CWalk "down"
section
variable {P : Program} {w : World} {K : PySem.W.Frag} {mg : Str → Option Value} {base : Heap} {A : Adr}
/-! ### common: tests, errors, small words -/
theorem exm_self {K : PySem.W.Frag} {S : Addr} (h1 : PySem.W.subIn K (.ref S) (.type "BaseException") = some true) (h2 : PySem.W.isClsIn K S = true) (h3 : PySem.W.typeIn K (.ref S) = some (.type "type")) (h4 : PySem.W.subIn K (.ref S) (.ref S) = some true) :
    PySem.W.exmOne K (.ref S) (.ref S) = some true := by
  have g1 : (PySem.W.subIn K (.ref S) (.type "BaseException") == some true) = true := by rw [h1]; rfl
  have g0 : (PySem.W.clsIn K S).isSome = true := h2
  have g2 : ((PySem.W.clsIn K S).isSome && PySem.W.typeIn K (.ref S) == some (.type "type")) = true := by rw [g0, h3]; rfl
  show (if (PySem.W.subIn K (.ref S) (.type "BaseException") == some true) = true then (if ((PySem.W.clsIn K S).isSome && PySem.W.typeIn K (.ref S) == some (.type "type")) = true then PySem.W.subIn K (.ref S) (.ref S) else none) else none) = some true
  rw [if_pos g1, if_pos g2]
  exact h4
theorem exm_cross {K : PySem.W.Frag} {S R : Addr} {b : Bool} (h1 : PySem.W.subIn K (.ref S) (.type "BaseException") = some true) (h2 : PySem.W.isClsIn K S = true) (h3 : PySem.W.typeIn K (.ref S) = some (.type "type")) (h4 : PySem.W.subIn K (.ref R) (.ref S) = some b) :
    PySem.W.exmOne K (.ref R) (.ref S) = some b := by
  have g1 : (PySem.W.subIn K (.ref S) (.type "BaseException") == some true) = true := by rw [h1]; rfl
  have g0 : (PySem.W.clsIn K S).isSome = true := h2
  have g2 : ((PySem.W.clsIn K S).isSome && PySem.W.typeIn K (.ref S) == some (.type "type")) = true := by rw [g0, h3]; rfl
  show (if (PySem.W.subIn K (.ref S) (.type "BaseException") == some true) = true then (if ((PySem.W.clsIn K S).isSome && PySem.W.typeIn K (.ref S) == some (.type "type")) = true then PySem.W.subIn K (.ref R) (.ref S) else none) else none) = some b
  rw [if_pos g1, if_pos g2]
  exact h4
/-- the law's own promise -/
def sp_law (K : PySem.W.Frag) : Sp := fun vs H Q _ => ∃ (a : Addr) (ns : List Int), vs = [.ref a] ∧ SqL K H a (ns.map V.int) ∧ ns.length ≤ 63 ∧ ∀ H', Q (.bl true) H'
theorem iteP {p A B : Prop} [Decidable p] (h1 : p → A) (h2 : ¬ p → B) : if decide p = true then A else B := by
  by_cases h : p
  · rw [decide_eq_true h]; exact iteT (h1 h)
  · rw [decide_eq_false h]; exact iteF (h2 h)
theorem iteN {p A B : Prop} [Decidable p] (h1 : ¬ p → A) (h2 : p → B) : if (!decide p) = true then A else B := by
  by_cases h : p
  · rw [decide_eq_true h]; exact iteF (h2 h)
  · rw [decide_eq_false h]; exact iteT (h1 h)
theorem iteEq {i j : Int} {A B : Prop} (h1 : i = j → A) (h2 : i ≠ j → B) : if decide (V.int i = V.int j) = true then A else B :=
  iteP (fun h => h1 (V.int.inj h)) (fun h => h2 fun e => h (congrArg V.int e))
theorem iteNe {i j : Int} {A B : Prop} (h1 : i ≠ j → A) (h2 : i = j → B) : if (!decide (V.int i = V.int j)) = true then A else B :=
  iteN (fun h => h1 fun e => h (congrArg V.int e)) (fun h => h2 (V.int.inj h))
theorem if_t {b : Bool} {A B : Prop} (e : b = true) (h : A) : if b = true then A else B := by rw [if_pos e]; exact h
theorem if_f {b : Bool} {A B : Prop} (e : b = false) (h : B) : if b = true then A else B := by rw [e]; exact iteF h
theorem if_b {b : Bool} {A B : Prop} (h1 : b = true → A) (h2 : b = false → B) : if b = true then A else B := by
  cases b with
  | true => exact iteT (h1 rfl)
  | false => exact iteF (h2 rfl)
theorem same_upd {H : Hp} {p : Addr} {o : HO} (h : H p = none) : Same H (upd H p o) := fun b x e => by
  rw [upd_ne (ne_of_none e h)]
  exact e
theorem len_line {n : Nat} (h : n ≤ 100000) : n ≤ sizeLine := Nat.le_trans h (by decide)
theorem lt_line {n : Nat} (h : n < 100000) : n < sizeLine := Nat.lt_of_lt_of_le h (by decide)
local macro_rules | `(tactic| walk_at "rd") => `(tactic| repeat (first
  | refine ⟨_, rfl, ?_⟩
  | refine ⟨_, _, rfl, rfl, ?_⟩
  | refine ⟨rfl, ?_⟩
  | refine Or.inl ⟨_, rfl, ?_⟩
  | refine ⟨(by show (0 : Int) < _; decide), ?_⟩
  | refine ⟨(⟨by decide, by decide⟩ : CDiv _ _), ?_⟩
  | refine ⟨(Or.inl ⟨by decide, by decide⟩ : CMul _ _), ?_⟩
  | refine ⟨(Or.inr ⟨by decide, by decide⟩ : CMul _ _), ?_⟩))
/-! ### data that are compared -/
def Sh (n : Nat) (d : PyData) : Prop := d.canLay0 = true ∧ d.depth ≤ n
theorem Sh.mono {n m : Nat} {d : PyData} (h : Sh n d) (l : n ≤ m) : Sh m d := ⟨h.1, Nat.le_trans h.2 l⟩
theorem sh_all : ∀ {n : Nat} {ds : List PyData}, (∀ d ∈ ds, Sh n d) → PyData.canLayAll0 ds = true ∧ PyData.depthAll ds ≤ n
  | n, [], _ => ⟨by simp [PyData.canLayAll0], by simp [PyData.depthAll]⟩
  | n, d :: ds, h => by
    have h1 := h d List.mem_cons_self
    have h2 := sh_all fun e he => h e (List.mem_cons_of_mem _ he)
    refine ⟨?_, ?_⟩
    · simp only [PyData.canLayAll0, Bool.and_eq_true]; exact ⟨h1.1, h2.1⟩
    · simp only [PyData.depthAll]; exact Nat.max_le.mpr ⟨h1.2, h2.2⟩
theorem sh_list {n : Nat} {ds : List PyData} (h : ∀ d ∈ ds, Sh n d) : Sh (n + 1) (.list ds) := by
  have q := sh_all h
  exact ⟨by simp only [PyData.canLay0]; exact q.1, by simp only [PyData.depth]; exact Nat.succ_le_succ q.2⟩
theorem sh_tuple {n : Nat} {ds : List PyData} (h : ∀ d ∈ ds, Sh n d) : Sh (n + 1) (.tuple ds) := by
  have q := sh_all h
  exact ⟨by simp only [PyData.canLay0]; exact q.1, by simp only [PyData.depth]; exact Nat.succ_le_succ q.2⟩
theorem sh_int (i : Int) : Sh 0 (.int i) := ⟨by simp [PyData.canLay0], by simp [PyData.depth]⟩
theorem sh_bool (i : Bool) : Sh 0 (.bool i) := ⟨by simp [PyData.canLay0], by simp [PyData.depth]⟩
theorem sh_none : Sh 0 .none := ⟨by simp [PyData.canLay0], by simp [PyData.depth]⟩
theorem sh_str {s : Str} (h : PyData.strOk s = true) : Sh 0 (.str s) := ⟨by simp only [PyData.canLay0]; exact h, by simp [PyData.depth]⟩
theorem Sh.shaped {n : Nat} {d : PyData} (h : Sh n d) (l : n ≤ 64 := by decide) : SeqAt.shaped d = true := by
  show (d.canLay0 && decide (d.depth ≤ 64)) = true
  rw [h.1, decide_eq_true (Nat.le_trans h.2 l)]
  rfl
theorem Sh.self {n : Nat} {d : PyData} (h : Sh n d) : PyData.eqv d d = true := SeqAt.eqv_refl d h.1
def pInts (xs : List Int) : PyData := .list (xs.map PyData.int)
theorem sh_ints (xs : List Int) : Sh 1 (pInts xs) := sh_list fun d hd => by
  obtain ⟨i, _, rfl⟩ := List.mem_map.mp hd
  exact sh_int i
theorem dpall_ints {K : PySem.W.Frag} {H : Hp} : ∀ xs : List Int, DpAll K H (xs.map V.int) (xs.map PyData.int)
  | [] => .nil
  | x :: r => .cons (.int x) (dpall_ints r)
theorem dp_ints {K : PySem.W.Frag} {H : Hp} {p : Addr} {xs : List Int} (h : SqL K H p (xs.map V.int)) : Dp K H (.ref p) (pInts xs) := .lst h (dpall_ints xs)
/-! ### views: what is new, what stands -/
structure Ext (V H V' H' : Hp) : Prop where
  vv : Same V V'
  vh : Same V' H'
  hh : Same H H'
  nw : ∀ a, V' a ≠ none → V a ≠ none ∨ H a = none
theorem Ext.refl {V H : Hp} (h : Same V H) : Ext V H V H := ⟨Same.refl V, h, Same.refl H, fun _ h => Or.inl h⟩
theorem Ext.trans {V H V1 H1 V2 H2 : Hp} (a : Ext V H V1 H1) (b : Ext V1 H1 V2 H2) : Ext V H V2 H2 :=
  ⟨a.vv.trans b.vv, b.vh, a.hh.trans b.hh, fun x h => by
    rcases b.nw x h with q | q
    · exact a.nw x q
    · exact Or.inr (a.hh.free q)⟩
theorem none_of_same {V H : Hp} {p : Addr} (s : Same V H) (h : H p = none) : V p = none := s.free h
theorem Ext.new {V H : Hp} {p : Addr} {o : HO} (s : Same V H) (h : H p = none) : Ext V H (upd V p o) (upd H p o) :=
  ⟨same_upd (s.free h), fun b u e => by
    by_cases hb : b = p
    · subst hb; rw [upd_same] at e ⊢; exact e
    · rw [upd_ne hb] at e ⊢; exact s b u e, same_upd h, fun a e => by
    by_cases ha : a = p
    · subst ha; exact Or.inr h
    · rw [upd_ne ha] at e; exact Or.inl e⟩
/-- a new object that the view does not take in -/
theorem Ext.skip {V H : Hp} {p : Addr} {o : HO} (s : Same V H) (h : H p = none) : Ext V H V (upd H p o) :=
  ⟨Same.refl V, s.trans (same_upd h), same_upd h, fun _ e => Or.inl e⟩
theorem Ext.keepOut {V H V' H' : Hp} (x : Ext V H V' H') {D : Addr} (h : V D = none) (hd : H D ≠ none) : V' D = none := by
  cases e : V' D with
  | none => rfl
  | some o =>
    rcases x.nw D (by rw [e]; exact fun z => by cases z) with q | q
    · exact absurd h q
    · exact absurd q hd
/-- an object outside of the view changes -/
theorem Ext.poke {V H V' H' : Hp} (x : Ext V H V' H') {D : Addr} {o : HO} (hd : H D = none) (h : V' D = none) : Ext V H V' (upd H' D o) :=
  ⟨x.vv, fun b u e => by
    have hb : b ≠ D := fun z => by rw [z, h] at e; cases e
    rw [upd_ne hb]; exact x.vh b u e, fun b u e => by
    have hb : b ≠ D := ne_of_none e hd
    rw [upd_ne hb]; exact x.hh b u e, x.nw⟩
/-- the object at D, done, is taken in -/
theorem Ext.take {V H V' H' : Hp} (x : Ext V H V' H') {D : Addr} {o : HO} (hd : H D = none) (h : V' D = none) (e : H' D = some o) : Ext V H (upd V' D o) H' :=
  ⟨x.vv.trans (same_upd h), fun b u q => by
    by_cases hb : b = D
    · subst hb; rw [upd_same] at q; rw [e]; exact q
    · rw [upd_ne hb] at q; exact x.vh b u q, x.hh, fun a q => by
    by_cases ha : a = D
    · subst ha; exact Or.inr hd
    · rw [upd_ne ha] at q; exact x.nw a q⟩
theorem _root_.L2.Same.sqt {K : PySem.W.Frag} {H H' : Hp} {a : Addr} {xs : List V} (e : Same H H') (h : SqT K H a xs) : SqT K H' a xs := by
  rcases h with (h | ⟨o, h⟩) | h
  · exact .inl (.inl (e _ _ h))
  · exact .inl (.inr ⟨o, e _ _ h⟩)
  · exact .inr h
mutual
theorem dp_same {K : PySem.W.Frag} {H H' : Hp} (s : Same H H') : ∀ (d : PyData) (v : V), Dp K H v d → Dp K H' v d
  | .none, _, h => by cases h; exact .non
  | .bool b, _, h => by cases h; exact .bl b
  | .int i, _, h => by cases h; exact .int i
  | .str x, _, h => by cases h; exact .str x
  | .list ds, _, h => by
    cases h with
    | lst q r => exact .lst (s.seq q) (dpall_same s ds _ r)
  | .tuple ds, _, h => by
    cases h with
    | tup q r => exact .tup (s.sqt q) (dpall_same s ds _ r)
  | .dict _, _, h => by cases h
theorem dpall_same {K : PySem.W.Frag} {H H' : Hp} (s : Same H H') : ∀ (ds : List PyData) (vs : List V), DpAll K H vs ds → DpAll K H' vs ds
  | [], _, h => by cases h; exact .nil
  | d :: ds, _, h => by
    cases h with
    | cons q r => exact .cons (dp_same s d _ q) (dpall_same s ds _ r)
end
theorem _root_.L2.Dp.to {K : PySem.W.Frag} {H H' : Hp} {v : V} {d : PyData} (h : Dp K H v d) (s : Same H H') : Dp K H' v d := dp_same s d v h
theorem _root_.L2.DpAll.to {K : PySem.W.Frag} {H H' : Hp} {v : List V} {d : List PyData} (h : DpAll K H v d) (s : Same H H') : DpAll K H' v d := dpall_same s d v h
theorem dpall_len {K : PySem.W.Frag} {H : Hp} : ∀ {vs : List V} {ds : List PyData}, DpAll K H vs ds → vs.length = ds.length
  | _, [], h => by cases h; rfl
  | _, d :: ds, h => by
    cases h with
    | cons q r => exact congrArg (· + 1) (dpall_len r)
theorem dpall_get {K : PySem.W.Frag} {H : Hp} : ∀ {vs : List V} {ds : List PyData} {i : Nat} {v : V}, DpAll K H vs ds → vs[i]? = some v → ∃ d, ds[i]? = some d ∧ Dp K H v d
  | _, [], i, v, h, e => by cases h; cases e
  | _, d :: ds, i, v, h, e => by
    cases h with
    | cons q r =>
      match i, e with
      | 0, e => cases e; exact ⟨d, rfl, q⟩
      | i + 1, e => exact dpall_get (i := i) r e
theorem dpall_get' {K : PySem.W.Frag} {H : Hp} : ∀ {vs : List V} {ds : List PyData} {i : Nat} {d : PyData}, DpAll K H vs ds → ds[i]? = some d → ∃ v, vs[i]? = some v ∧ Dp K H v d
  | _, [], i, d, h, e => by cases e
  | _, d :: ds, i, d', h, e => by
    cases h with
    | cons q r =>
      match i, e with
      | 0, e => cases e; exact ⟨_, rfl, q⟩
      | i + 1, e => exact dpall_get' (i := i) r e
theorem dpall_app {K : PySem.W.Frag} {H : Hp} : ∀ {vs ws : List V} {ds es : List PyData}, DpAll K H vs ds → DpAll K H ws es → DpAll K H (vs ++ ws) (ds ++ es)
  | _, _, [], _, h, g => by cases h; exact g
  | _, _, d :: ds, _, h, g => by
    cases h with
    | cons q r => exact .cons q (dpall_app r g)
theorem dp_list {K : PySem.W.Frag} {H : Hp} {v : V} {ds : List PyData} (h : Dp K H v (.list ds)) : ∃ a xs, v = .ref a ∧ SqL K H a xs ∧ DpAll K H xs ds := by
  cases h with
  | lst q r => exact ⟨_, _, rfl, q, r⟩
theorem dp_tuple {K : PySem.W.Frag} {H : Hp} {v : V} {ds : List PyData} (h : Dp K H v (.tuple ds)) : ∃ a xs, v = .ref a ∧ SqT K H a xs ∧ DpAll K H xs ds := by
  cases h with
  | tup q r => exact ⟨_, _, rfl, q, r⟩
theorem dp_int {K : PySem.W.Frag} {H : Hp} {v : V} {i : Int} (h : Dp K H v (.int i)) : v = .int i := by cases h; rfl
theorem dp_str {K : PySem.W.Frag} {H : Hp} {v : V} {i : Str} (h : Dp K H v (.str i)) : v = .str i := by cases h; rfl
theorem dp_bool {K : PySem.W.Frag} {H : Hp} {v : V} {i : Bool} (h : Dp K H v (.bool i)) : v = .bl i := by cases h; rfl
/-! ### comprehensions over any walk -/
def fm {α : Type} (f : Nat → Option α) (n : Nat) : List α := (List.range n).filterMap f
theorem fm_succ {α : Type} (f : Nat → Option α) (n : Nat) : fm f (n + 1) = fm f n ++ (f n).toList := by
  unfold fm
  rw [List.range_succ, List.filterMap_append]
  congr 1
theorem fm_len {α : Type} (f : Nat → Option α) (n : Nat) : (fm f n).length ≤ n := by
  have h := List.length_filterMap_le f (List.range n)
  rw [List.length_range] at h
  exact h
structure LcInv (K : PySem.W.Frag) (V0 H0 : Hp) (D : Addr) (acc : List PyData) (H : Hp) : Prop where
  ex : ∃ V xs, Ext V0 H0 V H ∧ V D = none ∧ H D = some (.lst xs) ∧ DpAll K V xs acc
theorem LcInv.start {K : PySem.W.Frag} {V0 H0 : Hp} {D : Addr} (s : Same V0 H0) (hD : H0 D = none) : LcInv K V0 H0 D [] (upd H0 D (.lst [])) :=
  ⟨V0, [], Ext.skip s hD, s.free hD, upd_same, .nil⟩
theorem LcInv.done {K : PySem.W.Frag} {V0 H0 H : Hp} {D : Addr} {acc : List PyData} (hD : H0 D = none) (i : LcInv K V0 H0 D acc H) : ∃ U xs, Ext V0 H0 U H ∧ U D = some (.lst xs) ∧ DpAll K U xs acc ∧ Dp K U (.ref D) (.list acc) := by
  obtain ⟨V, xs, x, hv, hd, dp⟩ := i.ex
  exact ⟨_, xs, x.take hD hv hd, upd_same, dp.to (same_upd hv), .lst (SqL.of upd_same) (dp.to (same_upd hv))⟩
/-- one more item -/
theorem LcInv.push {K : PySem.W.Frag} {V0 H0 U H U' H' : Hp} {D : Addr} {acc : List PyData} {xs : List V} {y : V} {d : PyData} (hD : H0 D = none) (x : Ext V0 H0 U H) (hv : U D = none) (hd : H D = some (.lst xs)) (dp : DpAll K U xs acc)
    (x2 : Ext U H U' H') (e : Dp K U' y d) (hl : acc.length < 100000) :
    ∃ acc', H' D = some (.lst acc') ∧ acc'.length < sizeLine ∧ LcInv K V0 H0 D (acc ++ [d]) (upd H' D (.lst (acc' ++ [y]))) := by
  have hv' : U' D = none := x2.keepOut hv (by rw [hd]; exact fun z => by cases z)
  refine ⟨xs, x2.hh _ _ hd, lt_line (by rw [dpall_len dp]; exact hl), U', xs ++ [y], (x.trans x2).poke hD hv', hv', upd_same, dpall_app (dp.to x2.vv) (.cons e .nil)⟩
/-- a comprehension's reading over a walk that leaves the heap as it is: at turn i the item x, then f i: the data of what is put in, or none -/
theorem lc_dp0 {J : It} {n : Nat} {G : Hp → Prop} {Y : Nat → Hp → V → Hp → Prop} (wk : Walk J n G Y) {K : PySem.W.Frag} {V0 H0 : Hp} {D : Addr} {g : TG} {tt : TT} {te : TE} {vs : List Nat} {σ : St} {Qd : Hp → Prop} (f : Nat → Option PyData) (σ0 : St) (hσ : wipe σ vs = σ0) (s0 : Same V0 H0) (hD : H0 D = none) (hn : n < 100000)
    (hG : ∀ H, Same H0 H → G H) (hY : ∀ i H x H', Y i H x H' → H' = H)
    (hs : ∀ i x V H, i < n → Ext V0 H0 V H → Y i H x H → ∀ (Qy : VK) (Qn : Hp → Prop), (∀ d y V' H', f i = some d → Ext V H V' H' → Dp K V' y d → Qy y H') → (f i = none → ∀ V' H', Ext V H V' H' → Qn H') →
      g x σ0 H fun σ2 H2 => wipe σ2 vs = σ0 ∧ tt σ2 H2 fun b H3 => if b = true then te σ2 H3 Qy else Qn H3)
    (hd : ∀ (U H : Hp) (xs : List V), Ext V0 H0 U H → U D = none → H D = some (.lst xs) → DpAll K U xs (fm f n) → Qd H) :
    ∃ W : Nat → Nat → Hp → Prop, (∃ m, W 0 m (upd H0 D (.lst []))) ∧ ∀ i m H, W i m H →
      (J.stop i H ∧ Qd H) ∨ (J.go i H ∧ ∃ Nx : Hp → Prop, (∀ H', Nx H' → ∃ m', m' < m ∧ W (i + 1) m' H') ∧ ∀ x H', J.yld i H x H' → g x (wipe σ vs) H' fun σ2 H2 => wipe σ2 vs = wipe σ vs ∧ tt σ2 H2 fun b H3 =>
        if b = true then te σ2 H3 fun y H4 => ∃ acc, H4 D = some (.lst acc) ∧ acc.length < sizeLine ∧ Nx (upd H4 D (.lst (acc ++ [y]))) else Nx H3) := by
  subst hσ
  refine lc_it wk (fun i H => LcInv K V0 H0 D (fm f i) H) (LcInv.start s0 hD) (fun i H _ p => ?_) (fun i x H H' hi p y => ?_) (fun H p => ?_)
  · obtain ⟨V, xs, x, _⟩ := p.ex
    exact hG H x.hh
  · obtain ⟨V, xs, x0, hv, hdd, dp⟩ := p.ex
    obtain rfl := hY i H x H' y
    refine hs i x V H' hi x0 y _ _ (fun d y' V' H4 e x2 dy => ?_) (fun e V' H4 x2 => ?_)
    · have hl : (fm f i).length < 100000 := Nat.lt_of_le_of_lt (fm_len f i) (Nat.lt_trans hi hn)
      obtain ⟨acc', a1, a2, a3⟩ := LcInv.push hD x0 hv hdd dp x2 dy hl
      refine ⟨acc', a1, a2, ?_⟩
      rw [fm_succ, e]
      exact a3
    · have hv' : V' D = none := x2.keepOut hv (by rw [hdd]; exact fun z => by cases z)
      rw [fm_succ, e]
      show LcInv K V0 H0 D (fm f i ++ []) H4
      rw [List.append_nil]
      exact ⟨V', xs, x0.trans x2, hv', x2.hh _ _ hdd, dp.to x2.vv⟩
  · obtain ⟨U, xs, x, hv, hdd, dp⟩ := p.ex
    exact hd U H xs x hv hdd dp
/-- a comprehension's reading over a walk that leaves the heap as it is: at turn i the item x, then f i: the data of what is put in, or none -/
theorem lc_dp {J : It} {n : Nat} {G : Hp → Prop} {Y : Nat → Hp → V → Hp → Prop} (wk : Walk J n G Y) {K : PySem.W.Frag} {V0 H0 : Hp} {D : Addr} {g : TG} {tt : TT} {te : TE} {vs : List Nat} {σ : St} {Qd : Hp → Prop} (f : Nat → Option PyData) (σ0 : St) (hσ : wipe σ vs = σ0) (s0 : Same V0 H0) (hD : H0 D = none) (hn : n < 100000)
    (hG : ∀ H, Same H0 H → G H) (hY : ∀ i H x H', Y i H x H' → H' = H)
    (hs : ∀ i x V H, i < n → Ext V0 H0 V H → Y i H x H → ∀ (Qy : VK) (Qn : Hp → Prop), (∀ d y V' H', f i = some d → Ext V H V' H' → Dp K V' y d → Qy y H') → (f i = none → ∀ V' H', Ext V H V' H' → Qn H') →
      g x σ0 H fun σ2 H2 => wipe σ2 vs = σ0 ∧ tt σ2 H2 fun b H3 => if b = true then te σ2 H3 Qy else Qn H3)
    (hd : ∀ (U H : Hp) (xs : List V), Ext V0 H0 U H → U D = some (.lst xs) → DpAll K U xs (fm f n) → Dp K U (.ref D) (.list (fm f n)) → Qd H) :
    ∃ W : Nat → Nat → Hp → Prop, (∃ m, W 0 m (upd H0 D (.lst []))) ∧ ∀ i m H, W i m H →
      (J.stop i H ∧ Qd H) ∨ (J.go i H ∧ ∃ Nx : Hp → Prop, (∀ H', Nx H' → ∃ m', m' < m ∧ W (i + 1) m' H') ∧ ∀ x H', J.yld i H x H' → g x (wipe σ vs) H' fun σ2 H2 => wipe σ2 vs = wipe σ vs ∧ tt σ2 H2 fun b H3 =>
        if b = true then te σ2 H3 fun y H4 => ∃ acc, H4 D = some (.lst acc) ∧ acc.length < sizeLine ∧ Nx (upd H4 D (.lst (acc ++ [y]))) else Nx H3) := by
  refine lc_dp0 wk f σ0 hσ s0 hD hn hG hY hs fun U H xs x hv hdd dp => ?_
  exact hd _ H xs (x.take hD hv hdd) upd_same (dp.to (same_upd hv)) (.lst (SqL.of upd_same) (dp.to (same_upd hv)))
theorem fm_map {α β : Type} (f : α → β) : ∀ (xs : List α), fm (fun i => (xs[i]?).map f) xs.length = xs.map f := by
  intro xs
  have h : ∀ n, n ≤ xs.length → fm (fun i => (xs[i]?).map f) n = (xs.take n).map f := by
    intro n
    induction n with
    | zero => intro _; rfl
    | succ n ih =>
      intro hn
      rw [fm_succ, ih (by omega), List.getElem?_eq_getElem (by omega), List.take_succ_eq_append_getElem (by omega), List.map_append]
      rfl
  rw [h _ (Nat.le_refl _), List.take_length]

theorem lc2_outer {J : It} {n : Nat} {G : Hp → Prop} {Y : Nat → Hp → V → Hp → Prop} (wk : Walk J n G Y) {K : PySem.W.Frag} {V0 H0 : Hp} {D : Addr} {g : TG} {vs : List Nat} {σ : St} {body : St → Hp → (Hp → Prop) → Prop} {Qd : Hp → Prop} (F : Nat → List PyData) (σ0 : St) (hσ : wipe σ vs = σ0) (s0 : Same V0 H0) (hD : H0 D = none) (hF : F 0 = [])
    (hG : ∀ H, Same H0 H → G H) (hY : ∀ i H x H', Y i H x H' → H' = H)
    (hs : ∀ i x H, i < n → LcInv K V0 H0 D (F i) H → Y i H x H → ∀ Nx : Hp → Prop, (∀ H', LcInv K V0 H0 D (F (i + 1)) H' → Nx H') → g x σ0 H fun σ2 H2 => wipe σ2 vs = σ0 ∧ body σ2 H2 Nx)
    (hd : ∀ (U H : Hp) (xs : List V), Ext V0 H0 U H → U D = some (.lst xs) → DpAll K U xs (F n) → Dp K U (.ref D) (.list (F n)) → Qd H) :
    ∃ W : Nat → Nat → Hp → Prop, (∃ m, W 0 m (upd H0 D (.lst []))) ∧ ∀ i m H, W i m H →
      (J.stop i H ∧ Qd H) ∨ (J.go i H ∧ ∃ Nx : Hp → Prop, (∀ H', Nx H' → ∃ m', m' < m ∧ W (i + 1) m' H') ∧ ∀ x H', J.yld i H x H' → g x (wipe σ vs) H' fun σ2 H2 => wipe σ2 vs = wipe σ vs ∧ body σ2 H2 Nx) := by
  subst hσ
  refine ⟨fun i m H => m = n - i ∧ i ≤ n ∧ LcInv K V0 H0 D (F i) H, ⟨n, by simp, Nat.zero_le _, by rw [hF]; exact LcInv.start s0 hD⟩, ?_⟩
  rintro i m H ⟨rfl, hi, p⟩
  have sH : Same H0 H := by obtain ⟨_, _, x, _⟩ := p.ex; exact x.hh
  by_cases hlt : i < n
  · refine .inr ⟨wk.goes i H hlt (hG H sH), fun H' => LcInv K V0 H0 D (F (i + 1)) H', fun H' p' => ⟨n - (i + 1), by omega, rfl, hlt, p'⟩, fun x H' y => ?_⟩
    have y' := wk.yields i H x H' hlt (hG H sH) y
    obtain rfl := hY i H x H' y'
    exact hs i x H' hlt p y' _ fun _ h => h
  · have e : i = n := by omega
    subst e
    obtain ⟨U, xs, x, e1, e2, e3⟩ := p.done hD
    exact .inl ⟨wk.stops H (hG H sH), hd U H xs x e1 e2 e3⟩
theorem lc2_inner {J : It} {n : Nat} {G : Hp → Prop} {Y : Nat → Hp → V → Hp → Prop} (wk : Walk J n G Y) {K : PySem.W.Frag} {V0 H0 H4 : Hp} {D : Addr} {acc0 : List PyData} {g : TG} {tt : TT} {te : TE} {vs : List Nat} {σ : St} {Nx : Hp → Prop} (f : Nat → Option PyData) (σ0 : St) (hσ : wipe σ vs = σ0) (hD : H0 D = none)
    (inv : LcInv K V0 H0 D acc0 H4) (hn : acc0.length + n < 100000) (hG : ∀ H, Same H0 H → G H) (hY : ∀ i H x H', Y i H x H' → H' = H)
    (hs : ∀ i x V H, i < n → Ext V0 H0 V H → Y i H x H → ∀ (Qy : VK) (Qn : Hp → Prop), (∀ d y V' H', f i = some d → Ext V H V' H' → Dp K V' y d → Qy y H') → (f i = none → ∀ V' H', Ext V H V' H' → Qn H') →
      g x σ0 H fun σ2 H2 => wipe σ2 vs = σ0 ∧ tt σ2 H2 fun b H3 => if b = true then te σ2 H3 Qy else Qn H3)
    (hd : ∀ H, LcInv K V0 H0 D (acc0 ++ fm f n) H → Nx H) :
    ∃ W : Nat → Nat → Hp → Prop, (∃ m, W 0 m H4) ∧ ∀ i m H, W i m H →
      (J.stop i H ∧ Nx H) ∨ (J.go i H ∧ ∃ Nx1 : Hp → Prop, (∀ H', Nx1 H' → ∃ m', m' < m ∧ W (i + 1) m' H') ∧ ∀ x H', J.yld i H x H' → g x (wipe σ vs) H' fun σ2 H2 => wipe σ2 vs = wipe σ vs ∧ tt σ2 H2 fun b H3 =>
        if b = true then te σ2 H3 fun y H4 => ∃ acc, H4 D = some (.lst acc) ∧ acc.length < sizeLine ∧ Nx1 (upd H4 D (.lst (acc ++ [y]))) else Nx1 H3) := by
  subst hσ
  refine ⟨fun i m H => m = n - i ∧ i ≤ n ∧ LcInv K V0 H0 D (acc0 ++ fm f i) H, ⟨n, by simp, Nat.zero_le _, by rw [show fm f 0 = [] from rfl, List.append_nil]; exact inv⟩, ?_⟩
  rintro i m H ⟨rfl, hi, p⟩
  have sH : Same H0 H := by obtain ⟨_, _, x, _⟩ := p.ex; exact x.hh
  by_cases hlt : i < n
  · refine .inr ⟨wk.goes i H hlt (hG H sH), fun H' => LcInv K V0 H0 D (acc0 ++ fm f (i + 1)) H', fun H' p' => ⟨n - (i + 1), by omega, rfl, hlt, p'⟩, fun x H' y => ?_⟩
    have y' := wk.yields i H x H' hlt (hG H sH) y
    obtain rfl := hY i H x H' y'
    obtain ⟨V, xs, x0, hv, hdd, dp⟩ := p.ex
    refine hs i x V H' hlt x0 y' _ _ (fun d y' V' H4 e x2 dy => ?_) (fun e V' H4 x2 => ?_)
    · have hl : (acc0 ++ fm f i).length < 100000 := by have := fm_len f i; rw [List.length_append]; omega
      obtain ⟨acc', a1, a2, a3⟩ := LcInv.push hD x0 hv hdd dp x2 dy hl
      refine ⟨acc', a1, a2, ?_⟩
      rw [fm_succ, e, ← List.append_assoc]
      exact a3
    · have hv' : V' D = none := x2.keepOut hv (by rw [hdd]; exact fun z => by cases z)
      rw [fm_succ, e]
      show LcInv K V0 H0 D (acc0 ++ (fm f i ++ [])) H4
      rw [List.append_nil]
      exact ⟨V', xs, x0.trans x2, hv', x2.hh _ _ hdd, dp.to x2.vv⟩
  · have e : i = n := by omega
    subst e
    exact .inl ⟨wk.stops H (hG H sH), hd H p⟩
theorem fm_some {α : Type} (f : Nat → α) (n : Nat) : fm (fun i => some (f i)) n = (List.range n).map f := by
  induction n with
  | zero => rfl
  | succ n ih => rw [fm_succ, ih, List.range_succ, List.map_append]; rfl
theorem fl_take' {α : Type} {β : Type} (f : α → List β) : ∀ (xs : List α) (i : Nat) (x : α), xs[i]? = some x → (xs.take (i + 1)).flatMap f = (xs.take i).flatMap f ++ f x := by
  intro xs i x h
  obtain ⟨hi, e⟩ := List.getElem?_eq_some_iff.mp h
  rw [List.take_succ_eq_append_getElem hi, List.flatMap_append, e]
  show _ ++ (f x ++ []) = _
  rw [List.append_nil]
theorem fl_le' {α : Type} {β : Type} (f : α → List β) (xs : List α) (i : Nat) : ((xs.take i).flatMap f).length ≤ (xs.flatMap f).length := by
  have : xs.flatMap f = (xs.take i).flatMap f ++ (xs.drop i).flatMap f := by rw [← List.flatMap_append, List.take_append_drop]
  rw [this, List.length_append]; omega
/-! ### lists of ints, texts -/
theorem tyL {K : PySem.W.Frag} {H : Hp} {a : Addr} {xs : List V} (h : SqL K H a xs) : TyX K H (.ref a) (.type "list") := by
  rcases h with (h | ⟨o, h⟩) | ⟨o, its, n, h, c, _⟩
  · exact .base (.lst h)
  · exact .base (.frz h)
  · exact .kList h c
theorem tyT {K : PySem.W.Frag} {H : Hp} {a : Addr} {xs : List V} (h : SqT K H a xs) : TyX K H (.ref a) (.type "tuple") := by
  rcases h with (h | ⟨o, h⟩) | ⟨o, its, n, h, c, _⟩
  · exact .base (.tup h)
  · exact .fTuple h
  · exact .kTuple h c
theorem dp_intsV {K : PySem.W.Frag} {H : Hp} : ∀ {xs : List V} {is : List Int}, DpAll K H xs (is.map PyData.int) → xs = is.map V.int
  | _, [], r => by cases r; rfl
  | _, i :: is, r => by
    cases r with
    | cons r1 r2 => cases r1; rw [dp_intsV r2]; rfl
theorem dp_intsL {K : PySem.W.Frag} {H : Hp} {a : Addr} {is : List Int} (h : Dp K H (.ref a) (.list (is.map PyData.int))) : SqL K H a (is.map V.int) := by
  obtain ⟨a', xs, e, q, r⟩ := dp_list h
  cases e
  rw [← dp_intsV r]; exact q
theorem dp_strsV {K : PySem.W.Frag} {H : Hp} : ∀ {xs : List V} {is : List Str}, DpAll K H xs (is.map PyData.str) → xs = is.map V.str
  | _, [], r => by cases r; rfl
  | _, i :: is, r => by
    cases r with
    | cons r1 r2 => cases r1; rw [dp_strsV r2]; rfl
theorem dp_boolsV {K : PySem.W.Frag} {H : Hp} : ∀ {xs : List V} {is : List Bool}, DpAll K H xs (is.map PyData.bool) → xs = is.map V.bl
  | _, [], r => by cases r; rfl
  | _, i :: is, r => by
    cases r with
    | cons r1 r2 => cases r1; rw [dp_boolsV r2]; rfl
theorem dp_boolsL {K : PySem.W.Frag} {H : Hp} {a : Addr} {is : List Bool} (h : Dp K H (.ref a) (.list (is.map PyData.bool))) : SqL K H a (is.map V.bl) := by
  obtain ⟨a', xs, e, q, r⟩ := dp_list h
  cases e
  rw [← dp_boolsV r]; exact q
theorem size_eq (z : Str) : z.cps.size = z.cps.toList.length := by simp
theorem cps_at (z : Str) (i : Nat) : z.cps[i]? = z.cps.toList[i]? := by simp
theorem fm_list {α β : Type} (f : α → β) (xs : List α) (n : Nat) (h : n = xs.length) (g : Nat → Option β) (hg : ∀ i x, xs[i]? = some x → g i = some (f x)) : fm g n = xs.map f := by
  subst h
  rw [← fm_map f xs]
  unfold fm
  have : ∀ l : List Nat, (∀ i ∈ l, i < xs.length) → l.filterMap g = l.filterMap fun i => (xs[i]?).map f := by
    intro l
    induction l with
    | nil => intro _; rfl
    | cons i l ih =>
      intro hl
      have hi' := hl i List.mem_cons_self
      rw [List.filterMap_cons, List.filterMap_cons, hg i _ (List.getElem?_eq_getElem hi'), List.getElem?_eq_getElem hi', ih fun j hj => hl j (List.mem_cons_of_mem _ hj)]
      rfl
  exact this _ fun i hi => List.mem_range.mp hi
theorem rep_flat {α : Type} (v : α) : ∀ n : Nat, (List.replicate n [v]).flatten = List.replicate n v
  | 0 => rfl
  | n + 1 => by rw [List.replicate_succ, List.replicate_succ, List.flatten_cons, rep_flat v n]; rfl
/-- a list's object that is tracked, at p, new -/
structure NewL (H H' : Hp) (p : Addr) (xs : List V) : Prop where
  new : H p = none
  same : Same H H'
  at_ : H' p = some (.lst xs)
theorem NewL.ext {U H H' : Hp} {p : Addr} {xs : List V} (n : NewL H H' p xs) (s : Same U H) : Ext U H (upd U p (.lst xs)) H' :=
  ⟨same_upd (s.free n.new), fun b u e => by
    by_cases hb : b = p
    · subst hb; rw [upd_same] at e; rw [n.at_]; exact e
    · rw [upd_ne hb] at e; exact n.same _ _ (s b u e), n.same, fun a e => by
    by_cases ha : a = p
    · subst ha; exact Or.inr n.new
    · rw [upd_ne ha] at e; exact Or.inl e⟩
theorem str_app (x y : Str) : (x ++ y).cps.toList = x.cps.toList ++ y.cps.toList := Array.toList_append
theorem str_len_app (x y : Str) : (x ++ y).length = x.length + y.length := by
  show (x ++ y).cps.size = x.cps.size + y.cps.size
  rw [size_eq, str_app, List.length_append, ← size_eq, ← size_eq]
/-! ### _law_cell, _law_row -/
def lawCell (ns : List Int) (k : Nat) : Int :=
  let c := if 0 < ns.length then ns.getD (k % ns.length) 0 else 0
  if c < 0 then 1 - 2 * c else c
theorem lawCell_nn (ns : List Int) (k : Nat) : 0 ≤ lawCell ns k := by
  unfold lawCell
  simp only
  split <;> omega
def lawOne (c : Int) (k : Nat) : Int := (c * 48271 + (k : Int) * 69621 + 12345) % 2147483647
def lawTwo (o : Int) (k : Nat) : Int := (o * o + 16807 * (k : Int) + 7) % 2147483629
def lawRow (ns : List Int) (k : Nat) : Int :=
  if k < ns.length ∧ 1000000000 ≤ lawCell ns k then lawCell ns k
  else (lawTwo (lawOne (lawCell ns k) k) k * lawTwo (lawOne (lawCell ns k) k) k + lawOne (lawCell ns k) k) % 4294967291 + 4294967296 * (lawOne (lawCell ns k) k + 1)
theorem lawOne_b (c : Int) (k : Nat) : 0 ≤ lawOne c k ∧ lawOne c k < 2147483647 := by unfold lawOne; omega
theorem lawTwo_b (c : Int) (k : Nat) : 0 ≤ lawTwo c k ∧ lawTwo c k < 2147483629 := by
  unfold lawTwo
  generalize c * c + 16807 * (k : Int) + 7 = x
  omega
theorem lawRow_nn (ns : List Int) (k : Nat) : 0 ≤ lawRow ns k := by
  unfold lawRow
  have h1 := lawOne_b (lawCell ns k) k
  split
  · exact lawCell_nn ns k
  · generalize lawTwo (lawOne (lawCell ns k) k) k * lawTwo (lawOne (lawCell ns k) k) k + lawOne (lawCell ns k) k = x
    omega
def sp__law_cell (K : PySem.W.Frag) : Sp := fun vs H Q _ => ∃ (a : Addr) (ns : List Int) (k : Nat), vs = [.ref a, .int (k : Int)] ∧ SqL K H a (ns.map V.int) ∧ Q (.int (lawCell ns k)) H
theorem sc__law_cell : FnScope ["script", "k", "cell"] ["script", "k"] (defScope s__law_cell) := ⟨rfl, rfl, rfl, by decide +kernel, rfl, by decide +kernel, by decide +kernel⟩
theorem ok__law_cell (T : Txt K mg A) : FnOk P w K mg base CX0 1 A.f_law_cell A.d_law_cell ["script", "k"] (sp__law_cell K) := by
  refine T.F_law_cell.ok sc__law_cell (fun vs H Q E h => ?_) (fun cdv Ar outer s H vs Q E hr h => ?_)
  · obtain ⟨a, ns, k, rfl, _⟩ := h
    rfl
  · obtain ⟨a, ns, k, rfl, hS, q⟩ := h
    refine ⟨_, (pss_cons (ps_set (i := 2) sc__law_cell.nd rfl (Or.inl rfl) pe_int)
      (pss_cons (ps_if (pt_cmpR op_gt (pe_callB call_len_seq (by rfl) T.len PySem.boot_len (pa_cons (pv 0) pa_nil)) pe_int (nomark _))
      (pss_one (ps_set (i := 2) sc__law_cell.nd rfl (Or.inl rfl) (pe_ix ix_list (pv 0) (pe_op op_mod (pe_callTy call_int1 (by rfl) T.int (by decide +kernel) (pa_cons (pv 1) pa_nil)) (pe_callB call_len_seq (by rfl) T.len PySem.boot_len (pa_cons (pv 0) pa_nil))) (fun _ _ => rfl))))
      pss_nil)
      (pss_cons (ps_if (pt_cmpR op_lt (pv 2) pe_int (nomark _))
      (pss_one (ps_set (i := 2) sc__law_cell.nd rfl (Or.inl rfl) (pe_op op_sub pe_int (pe_op op_mul pe_int (pv 2)))))
      pss_nil)
      (pss_one (ps_ret (pv 2)))))), ?_⟩
    have two : ∀ (c : Int), (if c < 0 then 1 - 2 * c else c) = lawCell ns k → tSeq (tIfS (tTest (tOp (rI0 fun i j => .bl (decide (i < j))) (tVar 2) (tC (.int 0)))) (tAsg (tOp (rI0 fun i j => .int (i - j)) (tC (.int 1)) (tOp (rI CMul fun i j => .int (i * j)) (tC (.int 2)) (tVar 2))) (gName 2)) tNext) (tRet (tVar 2))
        { nx := fun _ H' => Q .non H', rt := Q } [some (.ref a), some (.int (k : Int)), some (.int c)] H := by
      intro c hc
      walk_at "rd"
      refine iteP (fun h => ?_) (fun h => ?_)
      · rw [if_pos h] at hc
        walk_at "rd"
        rw [← hc] at q; exact q
      · rw [if_neg h] at hc
        walk_at "rd"
        rw [← hc] at q; exact q
    refine ⟨.ref a, rfl, a, _, rfl, .inl hS, _, _, rfl, rfl, _, rfl, iteP (fun h => ?_) (fun h => ?_)⟩
    · have h0 : 0 < ns.length := by rw [List.length_map] at h; omega
      refine ⟨_, rfl, _, rfl, Or.inl ⟨_, rfl, ?_⟩⟩
      refine ⟨_, rfl, a, _, rfl, .inl hS, _, _, rfl, rfl, by show (0 : Int) < _; omega, a, _, _, .int (ns.getD (k % ns.length) 0), rfl, rfl, hS, ?_, ?_⟩
      · refine at_of (j := k % ns.length) ?_ ?_
        · rw [List.length_map]; exact (Int.natCast_emod _ _).symm
        · rw [List.getElem?_map, List.getElem?_eq_getElem (Nat.mod_lt _ h0), List.getD_eq_getElem?_getD, List.getElem?_eq_getElem (Nat.mod_lt _ h0)]; rfl
      · refine two _ ?_
        unfold lawCell; rw [if_pos h0]
    · have h0 : ¬ 0 < ns.length := by rw [List.length_map] at h; omega
      refine two _ ?_
      unfold lawCell; rw [if_neg h0]
def sp__law_row (K : PySem.W.Frag) : Sp := fun vs H Q _ => ∃ (a : Addr) (ns : List Int) (k : Nat), vs = [.ref a, .int (k : Int)] ∧ SqL K H a (ns.map V.int) ∧ Q (.int (lawRow ns k)) H
theorem sc__law_row : FnScope ["script", "k", "cell", "one", "two"] ["script", "k"] (defScope s__law_row) := ⟨rfl, rfl, rfl, by decide +kernel, rfl, by decide +kernel, by decide +kernel⟩
theorem ok__law_row (T : Txt K mg A) : FnOk P w K mg base CX0 2 A.f_law_row A.d_law_row ["script", "k"] (sp__law_row K) := by
  refine T.F_law_row.ok sc__law_row (fun vs H Q E h => ?_) (fun cdv Ar outer s H vs Q E hr h => ?_)
  · obtain ⟨a, ns, k, rfl, _⟩ := h
    rfl
  · obtain ⟨a, ns, k, rfl, hS, q⟩ := h
    refine ⟨_, (pss_cons (ps_set (i := 2) sc__law_row.nd rfl (Or.inl rfl) (pe_call (ok__law_cell T) (hr.mono (by decide)) rfl T.g_law_cell T.k_law_cell T.b_law_cell .nil pass0 (pa_cons (pv 0) (pa_cons (pv 1) pa_nil))))
      (pss_cons (ps_if (PW.pt (pw_and (pt_cmpR op_lt (pv 1) (pe_callB call_len_seq (by rfl) T.len PySem.boot_len (pa_cons (pv 0) pa_nil)) (nomark _)) (pw_and1 (pt_cmpR op_ge (pv 2) pe_int (nomark _)))))
      (pss_one (ps_ret (pv 2)))
      pss_nil)
      (pss_cons (ps_set (i := 3) sc__law_row.nd rfl (Or.inl rfl) (pe_op op_mod (pe_callTy call_int1 (by rfl) T.int (by decide +kernel) (pa_cons (pe_op op_add (pe_op op_add (pe_op op_mul (pv 2) pe_int) (pe_op op_mul (pv 1) pe_int)) pe_int) pa_nil)) pe_int))
      (pss_cons (ps_set (i := 4) sc__law_row.nd rfl (Or.inl rfl) (pe_op op_mod (pe_callTy call_int1 (by rfl) T.int (by decide +kernel) (pa_cons (pe_op op_add (pe_op op_add (pe_op op_mul (pv 3) (pv 3)) (pe_op op_mul pe_int (pv 1))) pe_int) pa_nil)) pe_int))
      (pss_one (ps_ret (pe_op op_add (pe_op op_mod (pe_callTy call_int1 (by rfl) T.int (by decide +kernel) (pa_cons (pe_op op_add (pe_op op_mul (pv 4) (pv 4)) (pv 3)) pa_nil)) pe_int) (pe_op op_mul pe_int (pe_op op_add (pv 3) pe_int))))))))), ?_⟩
    have b1 := lawOne_b (lawCell ns k) k
    have b2 := lawTwo_b (lawOne (lawCell ns k) k) k
    have m1 : CMul (lawOne (lawCell ns k) k) (lawOne (lawCell ns k) k) := Or.inl ⟨by omega, by omega⟩
    have m2 : CMul (lawTwo (lawOne (lawCell ns k) k) k) (lawTwo (lawOne (lawCell ns k) k) k) := Or.inl ⟨by omega, by omega⟩
    refine ⟨_, rfl, _, rfl, a, ns, k, rfl, hS, ?_⟩
    refine ⟨_, rfl, _, rfl, a, _, rfl, .inl hS, _, _, rfl, rfl, _, rfl, ?_⟩
    refine iteP (fun h => ?_) (fun h => ?_)
    · refine ⟨_, rfl, _, _, rfl, rfl, _, rfl, iteP (fun h2 => ?_) (fun h2 => ?_)⟩
      · have e : lawRow ns k = lawCell ns k := by unfold lawRow; rw [if_pos ⟨by rw [List.length_map] at h; omega, h2⟩]
        rw [e] at q
        exact ⟨_, rfl, q⟩
      · unfold lawRow at q
        rw [if_neg fun z => h2 z.2] at q
        walk_at "rd"
        refine ⟨m1, ?_⟩
        walk_at "rd"
        refine ⟨m2, ?_⟩
        walk_at "rd"
        exact q
    · unfold lawRow at q
      rw [if_neg fun z => h (by rw [List.length_map]; omega)] at q
      walk_at "rd"
      refine ⟨m1, ?_⟩
      walk_at "rd"
      refine ⟨m2, ?_⟩
      walk_at "rd"
      exact q
/-! ### a word that goes on by itself -/
theorem iteVP {p A B : Prop} [Decidable p] (h1 : p → A) (h2 : ¬ p → B) : if p then A else B := by
  by_cases h : p
  · rw [if_pos h]; exact h1 h
  · rw [if_neg h]; exact h2 h
/-- a new tuple is handed back -/
def RetT (H : Hp) (Q : VK) (xs : List V) : Prop := ∀ p H', Same H H' → H' p = some (.tup xs) → Q (.ref p) H'
theorem RetT.go {H : Hp} {Q : VK} {xs : List V} (h : ∀ p H', Same H H' → H' p = some (.tup xs) → Q (.ref p) H') : RetT H Q xs := h
theorem ne_self {d e : PyData} {A B : Prop} (hs : SeqAt.shaped d = true) (h : d = e) (hB : B) : if (!PyData.eqv d e) = true then A else B := by
  subst h
  have h2 : (d.canLay0 && decide (d.depth ≤ 64)) = true := hs
  have : PyData.eqv d d = true := SeqAt.eqv_refl d (by rw [Bool.and_eq_true] at h2; exact h2.1)
  rw [this]
  exact iteF hB
theorem eq_self {d e : PyData} {A B : Prop} (hs : SeqAt.shaped d = true) (h : d = e) (hA : A) : if PyData.eqv d e = true then A else B := by
  subst h
  have h2 : (d.canLay0 && decide (d.depth ≤ 64)) = true := hs
  have : PyData.eqv d d = true := SeqAt.eqv_refl d (by rw [Bool.and_eq_true] at h2; exact h2.1)
  rw [this]
  exact iteT hA
theorem t_ne {K : PySem.W.Frag} {x y : V} {H : Hp} {Q : VK} {d e : PyData} (h1 : Dp K H x d) (h2 : Dp K H y e) (s1 : SeqAt.shaped d = true) (s2 : SeqAt.shaped e = true) (q : Q (.bl (!PyData.eqv d e)) H) : rNeD K x y H Q := ⟨d, e, h1, h2, s1, s2, q⟩
theorem t_eq {K : PySem.W.Frag} {x y : V} {H : Hp} {Q : VK} {d e : PyData} (h1 : Dp K H x d) (h2 : Dp K H y e) (s1 : SeqAt.shaped d = true) (s2 : SeqAt.shaped e = true) (q : Q (.bl (PyData.eqv d e)) H) : rEqD K x y H Q := ⟨d, e, h1, h2, s1, s2, q⟩
/-! words that go on by themselves -/
local macro_rules | `(tactic| walk_at "sq") => `(tactic| first
  | exact SqT.of upd_same
  | exact SqL.of upd_same
  | assumption
  | exact SqT.of (by assumption)
  | exact SqL.of (by assumption)
  | (apply Same.sqt (same_upd (by assumption)); walk_at "sq")
  | (apply Same.seq (same_upd (by assumption)); walk_at "sq")
  | (apply Same.sqt (by assumption); walk_at "sq")
  | (apply Same.seq (by assumption); walk_at "sq"))
local macro_rules | `(tactic| walk_at "sm") => `(tactic| first
  | exact Same.refl _
  | assumption
  | (apply Same.trans _ (same_upd (by assumption)); walk_at "sm")
  | (apply Same.trans _ (by assumption); walk_at "sm"))
local macro_rules | `(tactic| walk_at "at") => `(tactic| first
  | exact atI_nat (j := 0) rfl
  | exact atI_nat (j := 1) rfl
  | exact atI_nat (j := 2) rfl
  | exact atI_nat (j := 3) rfl
  | exact atI_nat (j := 4) rfl
  | exact atI_nat (j := 5) rfl)
local macro_rules | `(tactic| walk_at "go1") => `(tactic| first
  | refine ⟨_, rfl, ?_⟩
  | refine ⟨_, _, rfl, rfl, ?_⟩
  | refine ⟨rfl, ?_⟩
  | refine Or.inl ⟨_, rfl, ?_⟩
  | refine ⟨(by show (0 : Int) < _; decide), ?_⟩
  | refine ⟨(⟨by decide, by decide⟩ : CDiv _ _), ?_⟩
  | refine ⟨(Or.inl ⟨by decide, by decide⟩ : CMul _ _), ?_⟩
  | refine ⟨(Or.inr ⟨by decide, by decide⟩ : CMul _ _), ?_⟩
  | refine ⟨_, _, rfl, ?_⟩
  | refine ⟨_, _, _, rfl, ?_⟩
  | refine ⟨_, _, _, _, rfl, ?_⟩
  | (refine And.intro (a := (0 : Int) ≤ _) ?_ ?_; focus omega)
  | (refine And.intro (a := _ ≤ sizeLine) ?_ (fun p hp => ?_); (focus (exact len_line (Nat.le_of_ble_eq_true rfl))))
  | refine RetT.go (fun p H' s e => ?_)
  | refine if_t rfl ?_
  | refine if_f rfl ?_
  | refine ⟨_, _, rfl, (by walk_at "sq"), rfl, ?_⟩
  | refine ⟨_, _, rfl, Or.inl (by walk_at "sq"), ?_⟩
  | refine ⟨_, _, rfl, Or.inr (by walk_at "sq"), ?_⟩
  | refine ⟨_, _, _, _, rfl, rfl, (by walk_at "sq"), (by walk_at "at"), ?_⟩
  | refine ⟨_, _, rfl, (by walk_at "sq"), (by show ¬(HT.sIx 4 0 (some 2) = 0 ∧ HT.sIx 4 4 none = 4); decide), fun p hp => ?_⟩
  | refine ⟨_, _, _, _, rfl, rfl, (by walk_at "sq"), (by walk_at "sq"), (by intro h; cases h), len_line (Nat.le_of_ble_eq_true rfl), (fun h => by cases h), fun _ p hp => ?_⟩)
local macro_rules | `(tactic| walk_at "go") => `(tactic| repeat walk_at "go1")
local macro_rules | `(tactic| walk_at "dps") => `(tactic| first
  | exact DpAll.nil
  | (apply DpAll.cons; (focus (walk_at "dp")); (focus (walk_at "dps"))))
local macro_rules | `(tactic| walk_at "dp") => `(tactic| first
  | exact Dp.int _
  | exact Dp.bl _
  | exact Dp.str _
  | exact Dp.non
  | (apply Dp.tup; (focus (walk_at "sq")); (focus (walk_at "dps")))
  | (apply Dp.lst; (focus (walk_at "sq")); (focus (walk_at "dps"))))
local macro_rules | `(tactic| walk_at "sh") => `(tactic| (show (PyData.canLay0 _ && decide (PyData.depth _ ≤ 64)) = true; simp [PyData.canLay0, PyData.canLayAll0, PyData.depth, PyData.depthAll]))
/-- a deep comparison: what is left is the if -/
local macro_rules | `(tactic| walk_at "ne") => `(tactic| (apply t_ne; (focus (walk_at "dp")); (focus (walk_at "dp")); (focus (walk_at "sh")); (focus (walk_at "sh")); refine ⟨_, rfl, ?_⟩))
local macro_rules | `(tactic| walk_at "neS") => `(tactic| (walk_at "ne"; refine ne_self ?_ ?_ ?_; (focus (walk_at "sh"))))
/-! ### more words -/
local macro_rules | `(tactic| walk_at "go2") => `(tactic| first
  | walk_at "go1"
  | refine ⟨(⟨by omega, by omega⟩ : CDiv _ _), ?_⟩
  | refine ⟨(Or.inl ⟨by omega, by omega⟩ : CMul _ _), ?_⟩
  | refine ⟨(Or.inr ⟨by omega, by omega⟩ : CMul _ _), ?_⟩
  | refine ⟨(by show (0 : Int) < _; omega), ?_⟩)
local macro_rules | `(tactic| walk_at "gx") => `(tactic| repeat walk_at "go2")
/-! ### a rule: list(range(a, b, c)) -/
section
open PySem.Spec PyProof.Rows
def rg3 (i c : Int) (n : Nat) : List Int := (List.range n).map fun k : Nat => i + (k : Int) * c
def tLstRg3 (ta : TA) : TE := fun σ H Q => ta σ H fun vs H1 => ∃ (i j c : Int) (n : Nat), vs = [.int i, .int j, .int c] ∧ RgC i j c n ∧ n ≤ 100000 ∧ ∀ q, H1 q = none → Q (.ref q) (upd H1 q (.lst ((rg3 i c n).map V.int)))
theorem vals_rg3 {i c : Int} {n : Nat} {acc : Array Value} (h : ItemsOf (fun k v => ∃ t, v = .int (i + k * c) t) acc n) : Vals ((rg3 i c n).map V.int) acc.toList := by
  have e : acc.toList.length = n := by rw [Array.length_toList]; exact h.1
  unfold rg3
  rw [List.map_map, ← e]
  refine vals_of_get acc.toList _ fun j u hj => ?_
  exact h.2 j u (by rw [← hj, Array.getElem?_toList])
theorem pe_listRg3 {X : Cx} {a b c : Expr} {ta : TA} {p pos p2 pos2 : Pos} (hcalm : X.calm = true) (hgl : Gl X "list") (hml : X.mg "list" = none) (hg : Gl X "range") (hm : X.mg "range" = none) (ha : PA X [a, b, c] ta)
    (hs : starEach [a, b, c] X.env = (false, eval a X.env) :: starEach [b, c] X.env := by rfl) (hpl : (backTo pos2 (starEach [b, c] X.env)).any (·.1) = false := by rfl)
    (na : starEach [(.Call (.Name "range" p2) [a, b, c] [] pos2 : Expr)] X.env = (false, eval (.Call (.Name "range" p2) [a, b, c] [] pos2) X.env) :: starEach [] X.env := by rfl) :
    PE X (.Call (.Name "list" p) [.Call (.Name "range" p2) [a, b, c] [] pos2] [] pos) (tLstRg3 ta) := by
  refine ⟨fun pins s σ H Q I h => ?_⟩
  refine Call_ (ld_blt I hgl hml boot_list (PyProof.Rows.callWith_type1 (args_cons ?_ na) na))
  refine Call_ (ld_blt I hg hm boot_range (PyProof.Rows.callWith_type1 (thn (ha.run pos2 pins s σ H _ I h) fun us s1 ⟨vs, H1, I1, r1, q1⟩ => ?_) hs hpl))
  obtain ⟨i, j, k, n, e, hc, hn, q⟩ := q1
  subst e
  cases r1 with
  | cons r rr => cases rr with
    | cons r' rr => cases rr with
      | cons r'' rr =>
        cases rr
        obtain ⟨t, rfl⟩ := r
        obtain ⟨t', rfl⟩ := r'
        obtain ⟨t'', rfl⟩ := r''
        refine call_range_3 hc.1 ?_ (.inl (PyProof.noPylong_small hc.2.1))
        refine args_nil ?_
        have I2 : Inv X pins σ H1 { s1 with heap := s1.heap.push { cls := .type "range", data := .fields #[.int i t, .int j t', .int k t''] } } := I1.kept (t' := s1.toks) fun b o e => Heap.get?_push_of_some _ e
        refine call_list_range (n := n) (I2.ok.hd hcalm) (IsRange.new ..) hc.2.2.1 hc.2.2.2 (Nat.le_trans hn (by decide)) fun h' tk acc c' hk e' hi => ?_
        refine ⟨.ref _, upd H1 _ (.lst ((rg3 i k n).map V.int)), I2.laid hk (Nat.le_refl _) (show ObjOk X.prog X.w _ _ _ (.lst ((rg3 i k n).map V.int)) from ⟨?_, acc.toList, c', vals_rg3 hi, ?_⟩), rfl, q _ (I2.hok.fresh (Nat.le_refl _))⟩
        · rw [List.length_map]; unfold rg3; rw [List.length_map, List.length_range]; exact len_line hn
        · rw [Array.toArray_toList]; exact e'
end
/-! ### pictures -/
def grid {α : Type} (n m : Nat) (f : Nat → Nat → α) : List α := (List.range n).flatMap fun a => (List.range m).map (f a)
theorem grid_succ {α : Type} (n m : Nat) (f : Nat → Nat → α) : grid (n + 1) m f = grid n m f ++ (List.range m).map (f n) := by
  unfold grid
  rw [List.range_succ, List.flatMap_append]
  show _ ++ ((List.range m).map (f n) ++ []) = _
  rw [List.append_nil]
theorem grid_len {α : Type} (n m : Nat) (f : Nat → Nat → α) : (grid n m f).length = n * m := by
  induction n with
  | zero => rw [Nat.zero_mul]; rfl
  | succ n ih => rw [grid_succ, List.length_append, ih, List.length_map, List.length_range, Nat.succ_mul]
theorem grid_at {α : Type} (m : Nat) (f : Nat → Nat → α) : ∀ (n a b : Nat), a < n → b < m → (grid n m f)[a * m + b]? = some (f a b)
  | 0, a, b, h, _ => by omega
  | n + 1, a, b, h, hb => by
    rw [grid_succ]
    by_cases c : a < n
    · have h1 : a * m + b < (grid n m f).length := by
        rw [grid_len]
        have : (a + 1) * m ≤ n * m := Nat.mul_le_mul_right m c
        rw [Nat.succ_mul] at this; omega
      rw [List.getElem?_append_left h1]
      exact grid_at m f n a b c hb
    · have e : a = n := by omega
      subst e
      rw [List.getElem?_append_right (by rw [grid_len]; omega), grid_len, Nat.add_sub_cancel_left, List.getElem?_map, List.getElem?_range hb]; rfl
structure Pic where
  w : Nat
  h : Nat
  px : List Int
structure Wf (P : Pic) : Prop where
  len : P.px.length = P.w * P.h
  w0 : 0 < P.w
  h0 : 0 < P.h
  w1 : P.w ≤ 128
  h1 : P.h ≤ 128
def atP (P : Pic) (x y : Nat) : Int := P.px.getD (y * P.w + x) 0
def colour (P : Pic) (x y : Int) : Int := if 0 ≤ x ∧ x < P.w ∧ 0 ≤ y ∧ y < P.h then atP P x.toNat y.toNat else 0
def mirP (P : Pic) : Pic := ⟨P.w, P.h, grid P.h P.w fun y k => P.px.getD (y * P.w + (P.w - 1 - k)) 0⟩
def qtrP (P : Pic) : Pic := ⟨P.h, P.w, grid P.w P.h fun x k => P.px.getD ((P.h - 1 - k) * P.w + x) 0⟩
theorem Wf.mir {P : Pic} (h : Wf P) : Wf (mirP P) := ⟨by show (grid _ _ _).length = _; rw [grid_len]; exact Nat.mul_comm _ _, h.w0, h.h0, h.w1, h.h1⟩
theorem Wf.qtr {P : Pic} (h : Wf P) : Wf (qtrP P) := ⟨by show (grid _ _ _).length = _; rw [grid_len]; exact Nat.mul_comm _ _, h.h0, h.w0, h.h1, h.w1⟩
theorem mir_at {P : Pic} {x y : Nat} (hx : x < P.w) (hy : y < P.h) : atP (mirP P) (P.w - 1 - x) y = atP P x y := by
  unfold atP
  show (grid _ _ _).getD (y * P.w + (P.w - 1 - x)) 0 = _
  rw [List.getD_eq_getElem?_getD, grid_at _ _ _ _ _ hy (by omega), show P.w - 1 - (P.w - 1 - x) = x by omega]; rfl
theorem qtr_at {P : Pic} {x y : Nat} (hx : x < P.w) (hy : y < P.h) : atP (qtrP P) (P.h - 1 - y) x = atP P x y := by
  unfold atP
  show (grid _ _ _).getD (x * P.h + (P.h - 1 - y)) 0 = _
  rw [List.getD_eq_getElem?_getD, grid_at _ _ _ _ _ hx (by omega), show P.h - 1 - (P.h - 1 - y) = y by omega]; rfl
def itN {α : Type} (f : α → α) : Nat → α → α
  | 0, a => a
  | n + 1, a => f (itN f n a)
def turnP (P : Pic) (t : Nat) : Pic := itN qtrP (t % 4) (if 4 ≤ t then mirP P else P)
theorem wf_it {P : Pic} (h : Wf P) : ∀ n, Wf (itN qtrP n P)
  | 0 => h
  | n + 1 => (wf_it h n).qtr
theorem Wf.turn {P : Pic} (h : Wf P) (t : Nat) : Wf (turnP P t) := by
  unfold turnP
  refine wf_it ?_ _
  split
  · exact h.mir
  · exact h
def pF (w h : Int) (l : Addr) : List (Str × V) := [("width", .int w), ("height", .int h), ("pixels", .ref l)]
theorem pF_w (w h : Int) (l : Addr) : (pF w h l).lookup ("width" : Str) = some (.int w) := by unfold pF; rw [List.lookup_cons_self]
theorem pF_h (w h : Int) (l : Addr) : (pF w h l).lookup ("height" : Str) = some (.int h) := by
  unfold pF; rw [List.lookup_cons, show (("height" : Str) == ("width" : Str)) = false by decide +kernel]; rw [List.lookup_cons_self]
theorem pF_p (w h : Int) (l : Addr) : (pF w h l).lookup ("pixels" : Str) = some (.ref l) := by
  unfold pF; rw [List.lookup_cons, show (("pixels" : Str) == ("width" : Str)) = false by decide +kernel]
  show List.lookup _ _ = _
  rw [List.lookup_cons, show (("pixels" : Str) == ("height" : Str)) = false by decide +kernel]
  show List.lookup _ _ = _
  rw [List.lookup_cons_self]
theorem pF_no (w h : Int) (l : Addr) {m : Str} (h1 : (m == ("width" : Str)) = false) (h2 : (m == ("height" : Str)) = false) (h3 : (m == ("pixels" : Str)) = false) : (pF w h l).lookup m = none := by
  unfold pF
  rw [List.lookup_cons, h1]
  show List.lookup _ _ = _
  rw [List.lookup_cons, h2]
  show List.lookup _ _ = _
  rw [List.lookup_cons, h3]; rfl
theorem pF_1 (w h : Int) (l : Addr) : putF "pixels" (.ref l) (putF "height" (.int h) (putF "width" (.int w) [])) = pF w h l := by
  show putF "pixels" (.ref l) (if ("width" : Str) = "height" then _ else (("width" : Str), V.int w) :: putF "height" (.int h) []) = _
  rw [if_neg (by decide +kernel)]
  show (if ("width" : Str) = "pixels" then _ else (("width" : Str), V.int w) :: (if ("height" : Str) = "pixels" then _ else (("height" : Str), V.int h) :: putF "pixels" (.ref l) [])) = _
  rw [if_neg (by decide +kernel), if_neg (by decide +kernel)]; rfl
structure PicAt (C : Addr) (H : Hp) (o l : Addr) (P : Pic) : Prop where
  ob : ∃ dx, H o = some (.ins C dx (pF P.w P.h l))
  ls : H l = some (.lst (P.px.map V.int))
theorem PicAt.same {C o l : Addr} {H H' : Hp} {P : Pic} (h : PicAt C H o l P) (s : Same H H') : PicAt C H' o l P := by
  obtain ⟨dx, e⟩ := h.ob
  exact ⟨⟨dx, s _ _ e⟩, s _ _ h.ls⟩
/-- all but some objects -/
def ButOne (H H' : Hp) (o : Addr) : Prop := ∀ b u, H b = some u → b ≠ o → H' b = some u
theorem made_same {H H1 : Hp} {x dx C : Addr} (nx : H x = Option.none) (nd : H dx = Option.none) (k : ButOne (upd (upd H dx (.own x)) x (.ins C dx [])) H1 x) : Same H H1 := Same.made nx nd k
def sp_Picture___init__ (C : Addr) : Sp := fun vs H Q _ => ∃ (o dx : Addr) (w h : Int) (l : Addr), vs = [.ref o, .int w, .int h, .ref l] ∧ H o = some (.ins C dx []) ∧ ∀ H' : Hp, H' o = some (.ins C dx (pF w h l)) → ButOne H H' o → Q .non H'
theorem sc_Picture___init__ : FnScope ["self", "width", "height", "pixels"] ["self", "width", "height", "pixels"] (defScope s_Picture___init__) := ⟨rfl, rfl, rfl, by decide +kernel, rfl, by decide +kernel, by decide +kernel⟩
theorem ok_Picture___init__ (T : Txt K mg A) : FnOk P w K mg base CX0 1 A.fPicture___init__ A.dPicture___init__ ["self", "width", "height", "pixels"] (sp_Picture___init__ A.CPicture) := by
  refine T.FPicture___init__.ok sc_Picture___init__ (fun vs H Q E h => ?_) (fun cdv Ar outer s H vs Q E hr h => ?_)
  · obtain ⟨o, dx, wd, ht, l, rfl, _⟩ := h
    rfl
  · obtain ⟨o, dx, wd, ht, l, rfl, ho, q⟩ := h
    refine ⟨_, (pss_cons (ps_fld (pv 0) (pv 1) rfl)
      (pss_cons (ps_fld (pv 0) (pv 2) rfl)
      (pss_one (ps_fld (pv 0) (pv 3) rfl)))), ?_⟩
    refine ⟨_, rfl, _, rfl, o, _, dx, _, rfl, ho, T.clPicture, T.nPicture_width, (by show 0 < 1000; decide), ?_⟩
    refine ⟨_, rfl, _, rfl, o, _, dx, _, rfl, upd_same, T.clPicture, T.nPicture_height, (by show 1 < 1000; decide), ?_⟩
    refine ⟨_, rfl, _, rfl, o, _, dx, _, rfl, upd_same, T.clPicture, T.nPicture_pixels, ?_, ?_⟩
    · show (putF "height" (.int ht) (putF "width" (.int wd) [])).length < 1000
      show (if ("width" : Str) = "height" then _ else (("width" : Str), V.int wd) :: putF "height" (.int ht) []).length < 1000
      rw [if_neg (by decide +kernel)]; show 2 < 1000; decide
    refine q _ ?_ fun b u e hb => ?_
    · rw [upd_same]; exact congrArg (fun z => some (HO.ins _ dx z)) (pF_1 wd ht l)
    · rw [upd_ne hb, upd_ne hb, upd_ne hb]; exact e
/-- a new picture at o, its list at l -/
structure NewPic (C : Addr) (H H' : Hp) (o l : Addr) (P : Pic) : Prop where
  at_ : PicAt C H' o l P
  same : Same H H'
  no : H o = none
  nl : H l = none
/-! ### a rule: == of two tuples whose items are equal (flat, the same object, or lists and dicts of such) -/
section
open PySem.SeqAt PySem.MeetsSeq PySem.MeetsSeq2 PySem.MeetsSeq3 PySem.SeqRoads2
theorem tupEq_meets {pr : Program} {wd : World} (l b : Addr) (us ws : Array Value) (n m : Nat) (du dw : Option Addr) (su sw : Array (Option Value)) (hsz : us.size = ws.size) :
    MeetsIn pr wd (Builtin.«tuple.__eq__» ⟨[.ref l, .ref b], []⟩) (fun Ar R st => st.heap.get? l = some { cls := .type "tuple", dict := du, data := .seq us n, slots := su } ∧
      st.heap.get? b = some { cls := .type "tuple", dict := dw, data := .seq ws m, slots := sw } ∧ (∀ j (q1 : j < us.size) (q2 : j < ws.size), EqP pr wd Ar.in1 st us[j] ws[j] true) ∧ R (.ok (.ret (.bool true))) st) :=
  .of_wp fun Ar R st hyp => by
    obtain ⟨hp, gs, dr, tks, ost⟩ := st
    obtain ⟨at1, at2, same, res⟩ := hyp
    have fsub := AutoSeq1.sub_tuple_tuple
    have zl : (us.toList.zip ws.toList).length = us.size := by simp [hsz]
    wp_walk using AutoSeq1.wpAny_loadPart' at1, AutoSeq1.wpAny_loadPart' at2, wpAny_forIn_list _ (fun more acc st' => acc.1 = none ∧ st' = ⟨hp, gs, dr, tks, ost⟩ ∧ ∃ i, more = (us.toList.zip ws.toList).drop i) _
    case turn =>
      rintro ⟨y, x⟩ more acc st' ⟨ha, rfl, i, hz⟩
      have lt0 : i < (us.toList.zip ws.toList).length := by
        by_cases c : i < (us.toList.zip ws.toList).length
        · exact c
        · rw [List.drop_of_length_le (by omega)] at hz; cases hz
      have lt1 : i < us.size := by omega
      have lt2 : i < ws.size := by omega
      rw [List.drop_eq_getElem_cons lt0] at hz
      injection hz with hyx hmore
      obtain rfl : y = us[i] := by have := congrArg Prod.fst hyx; simpa using this
      obtain rfl : x = ws[i] := by have := congrArg Prod.snd hyx; simpa using this
      refine wpAny_bind (same i lt1 lt2 _ _ ?_)
      wp_walk
      exact ⟨rfl, rfl, i + 1, hmore⟩
    case fin =>
      rintro ⟨c1, c2⟩ st' ⟨ha, rfl, _⟩
      simp only at ha
      subst ha
      wp_walk
      exact ⟨_, rfl, by simpa [hsz, Builtin.Tuple.tupleCompareSizes] using res⟩
    case h => exact ⟨rfl, rfl, 0, rfl⟩
theorem rcP_tup {pr : Program} {wd : World} {Ar : Around} {st : Shared} {l b : Addr} {us ws : Array Value} (tl : st.heap.IsTuple l us) (tb : st.heap.IsTuple b ws) (hsz : us.size = ws.size) (hu : Ar.units < cLine)
    (same : ∀ j (q1 : j < us.size) (q2 : j < ws.size), EqP pr wd Ar.in1 st us[j] ws[j] true) (E Q : Value → Shared → Prop) (q : Q (.bool true) st) : wpAny (model pr wd) Ar (richCompare .Eq (.ref l) (.ref b)) Q E st := by
  obtain ⟨⟨k1, du, w1, su⟩, g1, h1, n, r1⟩ := id tl
  obtain ⟨⟨k2, dw, w2, sw⟩, g2, h2, m, r2⟩ := id tb
  simp only at h1 r1 h2 r2
  subst h1 r1 h2 r2
  have ta : st.TypeIs (.ref l) "tuple" := ⟨_, g1, rfl⟩
  have tb' : st.TypeIs (.ref b) "tuple" := ⟨_, g2, rfl⟩
  refine wpAny_richCompare_same_room (op := .Eq) ta tb' F.slot_tuple_eq (call_meetsIn F.slot_tuple_eq ta F.entry_tuple_eq (F.args_tuple_eq_2 _ _) (tupEq_meets l b us ws n m du dw su sw hsz) ⟨g1, g2, same, ?_⟩) hu
  exact (show Value.bool true ≠ Value.notImplemented ∧ Q (.bool true) st from ⟨(fun z => nomatch z), q⟩)
end
/-- a == b, two tuples that are equal -/
def rEqTup (K : PySem.W.Frag) : R2 := fun x y H Q => ∃ n, n ≤ 60 ∧ ∃ a b xs ys, x = .ref a ∧ y = .ref b ∧ SqT K H a xs ∧ SqT K H b ys ∧ Paired (EqV K H n) xs ys ∧ Q (.bl true) H
theorem op_eqTup {X : Cx} (hu : X.A.units + 64 < cLine) : OpR X (compareOp .Eq) (rEqTup X.K) := by
  intro pins s σ H x y v u Q I rx ry h
  obtain ⟨n, hn, a, b, xs, ys, rfl, rfl, ha, hb, hp, q⟩ := h
  cases (show v = Value.ref a from rx)
  cases (show u = Value.ref b from ry)
  obtain ⟨us, r1, p1, _⟩ := I.tuple ha
  obtain ⟨ws, r2, p2, _⟩ := I.tuple hb
  have hsz : us.toArray.size = ws.toArray.size := by
    rw [List.size_toArray, List.size_toArray, ← r1.length, ← r2.length]
    exact Paired.length hp
  refine rcP_tup p1 p2 hsz (by omega) (fun j h1 h2 => ?_) _ _ ⟨.bl true, H, I, rfl, q⟩
  have k := items_run (eqV_run I n X.A.in1 (by show X.A.units + 1 + n < cLine; omega)) hp r1 r2 j (by simpa using h1) (by simpa using h2)
  simpa using k
/-! ### contents and changes -/
theorem fk_ne {k k' : Str} {v : V} {r : List (Str × V)} (h : (k == k') = false) : List.lookup k ((k', v) :: r) = List.lookup k r := by rw [List.lookup_cons, h]
theorem fp_ne {f g : Str} {v x : V} {r : List (Str × V)} (h : g ≠ f) : putF f v ((g, x) :: r) = (g, x) :: putF f v r := by
  show (if g = f then _ else _) = _
  rw [if_neg h]
def cF (p : V) (t : Int) (s : Int) (h : V) (o : V) (d : V) : List (Str × V) := [("picture", p), ("turn", .int t), ("scale", .int s), ("hears", h), ("order", o), ("places", d)]
theorem cF_p (p : V) (t : Int) (s : Int) (h : V) (o : V) (d : V) : (cF p t s h o d).lookup ("picture" : Str) = some (p) := by
  unfold cF
  rw [List.lookup_cons_self]
theorem cF_t (p : V) (t : Int) (s : Int) (h : V) (o : V) (d : V) : (cF p t s h o d).lookup ("turn" : Str) = some (.int t) := by
  unfold cF
  rw [fk_ne (by decide +kernel), List.lookup_cons_self]
theorem cF_s (p : V) (t : Int) (s : Int) (h : V) (o : V) (d : V) : (cF p t s h o d).lookup ("scale" : Str) = some (.int s) := by
  unfold cF
  rw [fk_ne (by decide +kernel), fk_ne (by decide +kernel), List.lookup_cons_self]
theorem cF_h (p : V) (t : Int) (s : Int) (h : V) (o : V) (d : V) : (cF p t s h o d).lookup ("hears" : Str) = some (h) := by
  unfold cF
  rw [fk_ne (by decide +kernel), fk_ne (by decide +kernel), fk_ne (by decide +kernel), List.lookup_cons_self]
theorem cF_o (p : V) (t : Int) (s : Int) (h : V) (o : V) (d : V) : (cF p t s h o d).lookup ("order" : Str) = some (o) := by
  unfold cF
  rw [fk_ne (by decide +kernel), fk_ne (by decide +kernel), fk_ne (by decide +kernel), fk_ne (by decide +kernel), List.lookup_cons_self]
theorem cF_d (p : V) (t : Int) (s : Int) (h : V) (o : V) (d : V) : (cF p t s h o d).lookup ("places" : Str) = some (d) := by
  unfold cF
  rw [fk_ne (by decide +kernel), fk_ne (by decide +kernel), fk_ne (by decide +kernel), fk_ne (by decide +kernel), fk_ne (by decide +kernel), List.lookup_cons_self]
def cF1 (p : V) (t : Int) (s : Int) (h : V) (o : V) (d : V) : List (Str × V) := [("picture", p)]
def cF2 (p : V) (t : Int) (s : Int) (h : V) (o : V) (d : V) : List (Str × V) := [("picture", p), ("turn", .int t)]
def cF3 (p : V) (t : Int) (s : Int) (h : V) (o : V) (d : V) : List (Str × V) := [("picture", p), ("turn", .int t), ("scale", .int s)]
def cF4 (p : V) (t : Int) (s : Int) (h : V) (o : V) (d : V) : List (Str × V) := [("picture", p), ("turn", .int t), ("scale", .int s), ("hears", h)]
def cF5 (p : V) (t : Int) (s : Int) (h : V) (o : V) (d : V) : List (Str × V) := [("picture", p), ("turn", .int t), ("scale", .int s), ("hears", h), ("order", o)]
theorem cF_0' (p : V) (t : Int) (s : Int) (h : V) (o : V) (d : V) : putF "picture" (p) [] = cF1 p t s h o d := rfl
theorem cF_1' (p : V) (t : Int) (s : Int) (h : V) (o : V) (d : V) : putF "turn" (.int t) (cF1 p t s h o d) = cF2 p t s h o d := by
  unfold cF1
  rw [fp_ne (by decide +kernel)]; rfl
theorem cF_2' (p : V) (t : Int) (s : Int) (h : V) (o : V) (d : V) : putF "scale" (.int s) (cF2 p t s h o d) = cF3 p t s h o d := by
  unfold cF2
  rw [fp_ne (by decide +kernel), fp_ne (by decide +kernel)]; rfl
theorem cF_3' (p : V) (t : Int) (s : Int) (h : V) (o : V) (d : V) : putF "hears" (h) (cF3 p t s h o d) = cF4 p t s h o d := by
  unfold cF3
  rw [fp_ne (by decide +kernel), fp_ne (by decide +kernel), fp_ne (by decide +kernel)]; rfl
theorem cF_4' (p : V) (t : Int) (s : Int) (h : V) (o : V) (d : V) : putF "order" (o) (cF4 p t s h o d) = cF5 p t s h o d := by
  unfold cF4
  rw [fp_ne (by decide +kernel), fp_ne (by decide +kernel), fp_ne (by decide +kernel), fp_ne (by decide +kernel)]; rfl
theorem cF_5' (p : V) (t : Int) (s : Int) (h : V) (o : V) (d : V) : putF "places" (d) (cF5 p t s h o d) = cF p t s h o d := by
  unfold cF5
  rw [fp_ne (by decide +kernel), fp_ne (by decide +kernel), fp_ne (by decide +kernel), fp_ne (by decide +kernel), fp_ne (by decide +kernel)]; rfl
def gF (a : V) (h : V) (t : V) (s : V) (o : V) (d : V) (b : V) : List (Str × V) := [("attached", a), ("hearing", h), ("turn", t), ("scale", s), ("order", o), ("places", d), ("callbacks", b)]
theorem gF_a (a : V) (h : V) (t : V) (s : V) (o : V) (d : V) (b : V) : (gF a h t s o d b).lookup ("attached" : Str) = some (a) := by
  unfold gF
  rw [List.lookup_cons_self]
theorem gF_h (a : V) (h : V) (t : V) (s : V) (o : V) (d : V) (b : V) : (gF a h t s o d b).lookup ("hearing" : Str) = some (h) := by
  unfold gF
  rw [fk_ne (by decide +kernel), List.lookup_cons_self]
theorem gF_t (a : V) (h : V) (t : V) (s : V) (o : V) (d : V) (b : V) : (gF a h t s o d b).lookup ("turn" : Str) = some (t) := by
  unfold gF
  rw [fk_ne (by decide +kernel), fk_ne (by decide +kernel), List.lookup_cons_self]
theorem gF_s (a : V) (h : V) (t : V) (s : V) (o : V) (d : V) (b : V) : (gF a h t s o d b).lookup ("scale" : Str) = some (s) := by
  unfold gF
  rw [fk_ne (by decide +kernel), fk_ne (by decide +kernel), fk_ne (by decide +kernel), List.lookup_cons_self]
theorem gF_o (a : V) (h : V) (t : V) (s : V) (o : V) (d : V) (b : V) : (gF a h t s o d b).lookup ("order" : Str) = some (o) := by
  unfold gF
  rw [fk_ne (by decide +kernel), fk_ne (by decide +kernel), fk_ne (by decide +kernel), fk_ne (by decide +kernel), List.lookup_cons_self]
theorem gF_d (a : V) (h : V) (t : V) (s : V) (o : V) (d : V) (b : V) : (gF a h t s o d b).lookup ("places" : Str) = some (d) := by
  unfold gF
  rw [fk_ne (by decide +kernel), fk_ne (by decide +kernel), fk_ne (by decide +kernel), fk_ne (by decide +kernel), fk_ne (by decide +kernel), List.lookup_cons_self]
theorem gF_b (a : V) (h : V) (t : V) (s : V) (o : V) (d : V) (b : V) : (gF a h t s o d b).lookup ("callbacks" : Str) = some (b) := by
  unfold gF
  rw [fk_ne (by decide +kernel), fk_ne (by decide +kernel), fk_ne (by decide +kernel), fk_ne (by decide +kernel), fk_ne (by decide +kernel), fk_ne (by decide +kernel), List.lookup_cons_self]
def gF1 (a : V) (h : V) (t : V) (s : V) (o : V) (d : V) (b : V) : List (Str × V) := [("attached", a)]
def gF2 (a : V) (h : V) (t : V) (s : V) (o : V) (d : V) (b : V) : List (Str × V) := [("attached", a), ("hearing", h)]
def gF3 (a : V) (h : V) (t : V) (s : V) (o : V) (d : V) (b : V) : List (Str × V) := [("attached", a), ("hearing", h), ("turn", t)]
def gF4 (a : V) (h : V) (t : V) (s : V) (o : V) (d : V) (b : V) : List (Str × V) := [("attached", a), ("hearing", h), ("turn", t), ("scale", s)]
def gF5 (a : V) (h : V) (t : V) (s : V) (o : V) (d : V) (b : V) : List (Str × V) := [("attached", a), ("hearing", h), ("turn", t), ("scale", s), ("order", o)]
def gF6 (a : V) (h : V) (t : V) (s : V) (o : V) (d : V) (b : V) : List (Str × V) := [("attached", a), ("hearing", h), ("turn", t), ("scale", s), ("order", o), ("places", d)]
theorem gF_0' (a : V) (h : V) (t : V) (s : V) (o : V) (d : V) (b : V) : putF "attached" (a) [] = gF1 a h t s o d b := rfl
theorem gF_1' (a : V) (h : V) (t : V) (s : V) (o : V) (d : V) (b : V) : putF "hearing" (h) (gF1 a h t s o d b) = gF2 a h t s o d b := by
  unfold gF1
  rw [fp_ne (by decide +kernel)]; rfl
theorem gF_2' (a : V) (h : V) (t : V) (s : V) (o : V) (d : V) (b : V) : putF "turn" (t) (gF2 a h t s o d b) = gF3 a h t s o d b := by
  unfold gF2
  rw [fp_ne (by decide +kernel), fp_ne (by decide +kernel)]; rfl
theorem gF_3' (a : V) (h : V) (t : V) (s : V) (o : V) (d : V) (b : V) : putF "scale" (s) (gF3 a h t s o d b) = gF4 a h t s o d b := by
  unfold gF3
  rw [fp_ne (by decide +kernel), fp_ne (by decide +kernel), fp_ne (by decide +kernel)]; rfl
theorem gF_4' (a : V) (h : V) (t : V) (s : V) (o : V) (d : V) (b : V) : putF "order" (o) (gF4 a h t s o d b) = gF5 a h t s o d b := by
  unfold gF4
  rw [fp_ne (by decide +kernel), fp_ne (by decide +kernel), fp_ne (by decide +kernel), fp_ne (by decide +kernel)]; rfl
theorem gF_5' (a : V) (h : V) (t : V) (s : V) (o : V) (d : V) (b : V) : putF "places" (d) (gF5 a h t s o d b) = gF6 a h t s o d b := by
  unfold gF5
  rw [fp_ne (by decide +kernel), fp_ne (by decide +kernel), fp_ne (by decide +kernel), fp_ne (by decide +kernel), fp_ne (by decide +kernel)]; rfl
theorem gF_6' (a : V) (h : V) (t : V) (s : V) (o : V) (d : V) (b : V) : putF "callbacks" (b) (gF6 a h t s o d b) = gF a h t s o d b := by
  unfold gF6
  rw [fp_ne (by decide +kernel), fp_ne (by decide +kernel), fp_ne (by decide +kernel), fp_ne (by decide +kernel), fp_ne (by decide +kernel), fp_ne (by decide +kernel)]; rfl
def sp_Content___init__ (C : Addr) : Sp := fun vs H Q _ => ∃ (ob dx : Addr) (p : V) (t : Int) (s : Int) (h : V) (o : V) (d : V), vs = [.ref ob, p, .int t, .int s, h, o, d] ∧ H ob = some (.ins C dx []) ∧ ∀ H' : Hp, H' ob = some (.ins C dx (cF p t s h o d)) → ButOne H H' ob → Q .non H'
theorem sc_Content___init__ : FnScope ["self", "picture", "turn", "scale", "hears", "order", "places"] ["self", "picture", "turn", "scale", "hears", "order", "places"] (defScope s_Content___init__) := ⟨rfl, rfl, rfl, by decide +kernel, rfl, by decide +kernel, by decide +kernel⟩
theorem ok_Content___init__ (T : Txt K mg A) : FnOk P w K mg base CX0 1 A.fContent___init__ A.dContent___init__ ["self", "picture", "turn", "scale", "hears", "order", "places"] (sp_Content___init__ A.CContent) := by
  refine T.FContent___init__.ok sc_Content___init__ (fun vs H Q E h => ?_) (fun cdv Ar outer st H vs Q E hr h => ?_)
  · obtain ⟨_, _, _, _, _, _, _, _, rfl, _⟩ := h
    rfl
  · obtain ⟨ob, dx, p, t, s, h, o, d, rfl, ho, q⟩ := h
    refine ⟨_, (pss_cons (ps_fld (pv 0) (pv 1) rfl)
      (pss_cons (ps_fld (pv 0) (pv 2) rfl)
      (pss_cons (ps_fld (pv 0) (pv 3) rfl)
      (pss_cons (ps_fld (pv 0) (pv 4) rfl)
      (pss_cons (ps_fld (pv 0) (pv 5) rfl)
      (pss_one (ps_fld (pv 0) (pv 6) rfl))))))), ?_⟩
    refine ⟨_, rfl, _, rfl, ob, _, dx, _, rfl, ho, T.clContent, T.nContent_picture, (by show 0 < 1000; decide), ?_⟩
    rw [cF_0' p t s h o d]
    refine ⟨_, rfl, _, rfl, ob, _, dx, _, rfl, upd_same, T.clContent, T.nContent_turn, (by show 1 < 1000; decide), ?_⟩
    rw [cF_1']
    refine ⟨_, rfl, _, rfl, ob, _, dx, _, rfl, upd_same, T.clContent, T.nContent_scale, (by show 2 < 1000; decide), ?_⟩
    rw [cF_2']
    refine ⟨_, rfl, _, rfl, ob, _, dx, _, rfl, upd_same, T.clContent, T.nContent_hears, (by show 3 < 1000; decide), ?_⟩
    rw [cF_3']
    refine ⟨_, rfl, _, rfl, ob, _, dx, _, rfl, upd_same, T.clContent, T.nContent_order, (by show 4 < 1000; decide), ?_⟩
    rw [cF_4']
    refine ⟨_, rfl, _, rfl, ob, _, dx, _, rfl, upd_same, T.clContent, T.nContent_places, (by show 5 < 1000; decide), ?_⟩
    rw [cF_5']
    exact q _ upd_same fun b u e hb => by simp only [upd_ne hb]; exact e
def sp_Change___init__ (C : Addr) : Sp := fun vs H Q _ => ∃ (ob dx : Addr) (a : V) (h : V) (t : V) (s : V) (o : V) (d : V) (b : V), vs = [.ref ob, a, h, t, s, o, d, b] ∧ H ob = some (.ins C dx []) ∧ ∀ H' : Hp, H' ob = some (.ins C dx (gF a h t s o d b)) → ButOne H H' ob → Q .non H'
theorem sc_Change___init__ : FnScope ["self", "attached", "hearing", "turn", "scale", "order", "places", "callbacks"] ["self", "attached", "hearing", "turn", "scale", "order", "places", "callbacks"] (defScope s_Change___init__) := ⟨rfl, rfl, rfl, by decide +kernel, rfl, by decide +kernel, by decide +kernel⟩
theorem ok_Change___init__ (T : Txt K mg A) : FnOk P w K mg base CX0 1 A.fChange___init__ A.dChange___init__ ["self", "attached", "hearing", "turn", "scale", "order", "places", "callbacks"] (sp_Change___init__ A.CChange) := by
  refine T.FChange___init__.ok sc_Change___init__ (fun vs H Q E h => ?_) (fun cdv Ar outer st H vs Q E hr h => ?_)
  · obtain ⟨_, _, _, _, _, _, _, _, _, rfl, _⟩ := h
    rfl
  · obtain ⟨ob, dx, a, h, t, s, o, d, b, rfl, ho, q⟩ := h
    refine ⟨_, (pss_cons (ps_fld (pv 0) (pv 1) rfl)
      (pss_cons (ps_fld (pv 0) (pv 2) rfl)
      (pss_cons (ps_fld (pv 0) (pv 3) rfl)
      (pss_cons (ps_fld (pv 0) (pv 4) rfl)
      (pss_cons (ps_fld (pv 0) (pv 5) rfl)
      (pss_cons (ps_fld (pv 0) (pv 6) rfl)
      (pss_one (ps_fld (pv 0) (pv 7) rfl)))))))), ?_⟩
    refine ⟨_, rfl, _, rfl, ob, _, dx, _, rfl, ho, T.clChange, T.nChange_attached, (by show 0 < 1000; decide), ?_⟩
    rw [gF_0' a h t s o d b]
    refine ⟨_, rfl, _, rfl, ob, _, dx, _, rfl, upd_same, T.clChange, T.nChange_hearing, (by show 1 < 1000; decide), ?_⟩
    rw [gF_1']
    refine ⟨_, rfl, _, rfl, ob, _, dx, _, rfl, upd_same, T.clChange, T.nChange_turn, (by show 2 < 1000; decide), ?_⟩
    rw [gF_2']
    refine ⟨_, rfl, _, rfl, ob, _, dx, _, rfl, upd_same, T.clChange, T.nChange_scale, (by show 3 < 1000; decide), ?_⟩
    rw [gF_3']
    refine ⟨_, rfl, _, rfl, ob, _, dx, _, rfl, upd_same, T.clChange, T.nChange_order, (by show 4 < 1000; decide), ?_⟩
    rw [gF_4']
    refine ⟨_, rfl, _, rfl, ob, _, dx, _, rfl, upd_same, T.clChange, T.nChange_places, (by show 5 < 1000; decide), ?_⟩
    rw [gF_5']
    refine ⟨_, rfl, _, rfl, ob, _, dx, _, rfl, upd_same, T.clChange, T.nChange_callbacks, (by show 6 < 1000; decide), ?_⟩
    rw [gF_6']
    exact q _ upd_same fun b u e hb => by simp only [upd_ne hb]; exact e
/-- something new, written to, is taken into the view -/
theorem Ext.put {V H H' : Hp} {x : Addr} {o : HO} (s : Same V H) (hh : Same H H') (hx : H x = none) (e : H' x = some o) : Ext V H (upd V x o) H' :=
  ⟨same_upd (s.free hx), fun b u q => by
    by_cases hb : b = x
    · subst hb; rw [upd_same] at q; rw [e]; exact q
    · rw [upd_ne hb] at q; exact hh _ _ (s b u q), hh, fun a q => by
    by_cases ha : a = x
    · subst ha; exact Or.inr hx
    · rw [upd_ne ha] at q; exact Or.inl q⟩
/-! ### what stands in a heap: lists, dicts, contents and changes -/
def LAt (U : Hp) (v : V) (xs : List V) : Prop := ∃ a, v = .ref a ∧ U a = some (.lst xs)
def OAt (U : Hp) (v : V) : Option (List V) → Prop
  | none => v = .non
  | some xs => LAt U v xs
def DAt (U : Hp) (v : V) (kvs : List (Key × V)) : Prop := ∃ a, v = .ref a ∧ U a = some (.dK kvs)
def ODAt (U : Hp) (v : V) : Option (List (Key × V)) → Prop
  | none => v = .non
  | some kvs => DAt U v kvs
theorem LAt.to {U U' : Hp} {v : V} {xs : List V} (h : LAt U v xs) (s : Same U U') : LAt U' v xs := by
  obtain ⟨a, e, e1⟩ := h
  exact ⟨a, e, s _ _ e1⟩
theorem DAt.to {U U' : Hp} {v : V} {xs : List (Key × V)} (h : DAt U v xs) (s : Same U U') : DAt U' v xs := by
  obtain ⟨a, e, e1⟩ := h
  exact ⟨a, e, s _ _ e1⟩
theorem OAt.to {U U' : Hp} {v : V} : ∀ {o : Option (List V)}, OAt U v o → Same U U' → OAt U' v o
  | none, h, _ => h
  | some _, h, s => LAt.to h s
theorem ODAt.to {U U' : Hp} {v : V} : ∀ {o : Option (List (Key × V))}, ODAt U v o → Same U U' → ODAt U' v o
  | none, h, _ => h
  | some _, h, s => DAt.to h s
def oI : Option Int → V
  | none => .non
  | some i => .int i
structure Cn where
  pic : V
  turn : Int
  scale : Int
  hears : Option (List V)
  order : List V
  places : List (Key × V)
def CnAt (C : Addr) (U : Hp) (v : V) (c : Cn) : Prop := ∃ o dx vh vo vd, v = .ref o ∧ U o = some (.ins C dx (cF c.pic c.turn c.scale vh vo vd)) ∧ OAt U vh c.hears ∧ LAt U vo c.order ∧ DAt U vd c.places
theorem CnAt.to {C : Addr} {U U' : Hp} {v : V} {c : Cn} (h : CnAt C U v c) (s : Same U U') : CnAt C U' v c := by
  obtain ⟨o, dx, vh, vo, vd, e, e1, h1, h2, h3⟩ := h
  exact ⟨o, dx, vh, vo, vd, e, s _ _ e1, h1.to s, h2.to s, h3.to s⟩
structure Cg where
  att : Option V
  hear : Option (Option (List V))
  turn : Option Int
  scale : Option Int
  order : Option (List V)
  places : Option (List (Key × V))
  cbs : List V
def AttAt (K : PySem.W.Frag) (U : Hp) (v : V) (att : Option V) : Prop := ∃ p, v = .ref p ∧ SqT K U p [.bl att.isSome, att.getD .non]
def HerAt (K : PySem.W.Frag) (U : Hp) (v : V) (her : Option (Option (List V))) : Prop := ∃ p vh, v = .ref p ∧ SqT K U p [.bl her.isSome, vh] ∧ OAt U vh (her.getD none)
theorem AttAt.to {K : PySem.W.Frag} {U U' : Hp} {v : V} {a : Option V} (h : AttAt K U v a) (s : Same U U') : AttAt K U' v a := by
  obtain ⟨p, e, q⟩ := h
  exact ⟨p, e, s.sqt q⟩
theorem HerAt.to {K : PySem.W.Frag} {U U' : Hp} {v : V} {a : Option (Option (List V))} (h : HerAt K U v a) (s : Same U U') : HerAt K U' v a := by
  obtain ⟨p, vh, e, q, o⟩ := h
  exact ⟨p, vh, e, s.sqt q, o.to s⟩
structure CgX (C : Addr) (K : PySem.W.Frag) (U : Hp) (v : V) (g : Cg) (vo vb : V) : Prop where
  ex : ∃ o dx va vh vd, v = .ref o ∧ U o = some (.ins C dx (gF va vh (oI g.turn) (oI g.scale) vo vd vb)) ∧ AttAt K U va g.att ∧ HerAt K U vh g.hear ∧ ODAt U vd g.places
  o : OAt U vo g.order
  b : LAt U vb g.cbs
theorem CgX.to {C : Addr} {K : PySem.W.Frag} {U U' : Hp} {v : V} {g : Cg} {vo vb : V} (h : CgX C K U v g vo vb) (s : Same U U') : CgX C K U' v g vo vb := by
  obtain ⟨o, dx, va, vh, vd, e, e1, h1, h2, h3⟩ := h.ex
  exact ⟨⟨o, dx, va, vh, vd, e, s _ _ e1, h1.to s, h2.to s, h3.to s⟩, h.o.to s, h.b.to s⟩
def sp__latest : Sp := fun vs H Q _ => ∃ v w : V, vs = [v, w] ∧ Q (if w = .non then v else w) H
theorem sc__latest : FnScope ["before", "said"] ["before", "said"] (defScope s__latest) := ⟨rfl, rfl, rfl, by decide +kernel, rfl, by decide +kernel, by decide +kernel⟩
theorem ok__latest (T : Txt K mg A) : FnOk P w K mg base CX0 1 A.f_latest A.d_latest ["before", "said"] sp__latest := by
  refine T.F_latest.ok sc__latest (fun vs H Q E h => ?_) (fun cdv Ar outer st H vs Q E hr h => ?_)
  · obtain ⟨_, _, rfl, _⟩ := h
    rfl
  · obtain ⟨v, w', rfl, q⟩ := h
    refine ⟨_, (pss_one (ps_ret (pe_ifExp (pt_cmpR op_isN (pv 1) pe_non (nomark _)) (pv 0) (pv 1)))), ?_⟩
    by_cases c : w' = .non
    · rw [if_pos c] at q
      exact ⟨_, rfl, rfl, _, rfl, if_t (decide_eq_true c) ⟨_, rfl, q⟩⟩
    · rw [if_neg c] at q
      exact ⟨_, rfl, rfl, _, rfl, if_f (decide_eq_false c) ⟨_, rfl, q⟩⟩
def sp__copied_list : Sp := fun vs H Q _ => ∃ (v : V) (o : Option (List V)) (U : Hp), vs = [v] ∧ Same U H ∧ OAt U v o ∧ ∀ v' U' H', Ext U H U' H' → OAt U' v' o → (∀ a, v' = .ref a → H a = none) → Q v' H'
theorem sc__copied_list : FnScope ["values"] ["values"] (defScope s__copied_list) := ⟨rfl, rfl, rfl, by decide +kernel, rfl, by decide +kernel, by decide +kernel⟩
theorem ok__copied_list (T : Txt K mg A) : FnOk P w K mg base CX0 1 A.f_copied_list A.d_copied_list ["values"] sp__copied_list := by
  refine T.F_copied_list.ok sc__copied_list (fun vs H Q E h => ?_) (fun cdv Ar outer st H vs Q E hr h => ?_)
  · obtain ⟨_, _, _, rfl, _⟩ := h
    rfl
  · obtain ⟨v, o, U, rfl, sU, hv, q⟩ := h
    refine ⟨_, (pss_one (ps_ret (pe_ifExp (pt_cmpR op_isN (pv 0) pe_non (nomark _)) pe_non (pe_callTy call_list_of (by rfl) T.list (by decide +kernel) (pa_cons (pv 0) pa_nil))))), ?_⟩
    cases o with
    | none =>
      obtain rfl : v = .non := hv
      exact ⟨_, rfl, rfl, _, rfl, if_t (decide_eq_true rfl) (q _ U H (Ext.refl sU) rfl fun a z => by cases z)⟩
    | some xs =>
      obtain ⟨a, rfl, e⟩ := hv
      refine ⟨_, rfl, rfl, _, rfl, if_f (decide_eq_false fun z => by cases z) ?_⟩
      refine ⟨_, rfl, a, xs, rfl, .inl (SqL.of (sU _ _ e)), fun l hl => ?_⟩
      exact q _ _ _ (Ext.new sU hl) ⟨l, rfl, upd_same⟩ fun b z => by cases z; exact hl
def sp__copied_dict : Sp := fun vs H Q _ => ∃ (v : V) (o : Option (List (Key × V))) (U : Hp), vs = [v] ∧ Same U H ∧ ODAt U v o ∧ ∀ v' U' H', Ext U H U' H' → ODAt U' v' o → Q v' H'
theorem sc__copied_dict : FnScope ["values"] ["values"] (defScope s__copied_dict) := ⟨rfl, rfl, rfl, by decide +kernel, rfl, by decide +kernel, by decide +kernel⟩
theorem ok__copied_dict (T : Txt K mg A) : FnOk P w K mg base CX0 1 A.f_copied_dict A.d_copied_dict ["values"] sp__copied_dict := by
  refine T.F_copied_dict.ok sc__copied_dict (fun vs H Q E h => ?_) (fun cdv Ar outer st H vs Q E hr h => ?_)
  · obtain ⟨_, _, _, rfl, _⟩ := h
    rfl
  · obtain ⟨v, o, U, rfl, sU, hv, q⟩ := h
    refine ⟨_, (pss_one (ps_ret (pe_ifExp (pt_cmpR op_isN (pv 0) pe_non (nomark _)) pe_non (pe_callTy call_dictD (by rfl) T.dict (by decide +kernel) (pa_cons (pv 0) pa_nil))))), ?_⟩
    cases o with
    | none =>
      obtain rfl : v = .non := hv
      exact ⟨_, rfl, rfl, _, rfl, if_t (decide_eq_true rfl) (q _ U H (Ext.refl sU) rfl)⟩
    | some xs =>
      obtain ⟨a, rfl, e⟩ := hv
      refine ⟨_, rfl, rfl, _, rfl, if_f (decide_eq_false fun z => by cases z) ?_⟩
      refine ⟨_, rfl, a, xs, rfl, .inl (sU _ _ e), fun l hl => ?_⟩
      exact q _ _ _ (Ext.new sU hl) ⟨l, rfl, upd_same⟩
def sp_empty_content (C : Addr) : Sp := fun vs H Q _ => ∃ (i : Int) (U : Hp), vs = [.int i] ∧ Same U H ∧ ∀ v U' H', Ext U H U' H' → CnAt C U' v ⟨.non, 0, 1, none, [.int i], []⟩ → Q v H'
theorem sc_empty_content : FnScope ["number"] ["number"] (defScope s_empty_content) := ⟨rfl, rfl, rfl, by decide +kernel, rfl, by decide +kernel, by decide +kernel⟩
theorem ok_empty_content (T : Txt K mg A) : FnOk P w K mg base CX0 3 A.fempty_content A.dempty_content ["number"] (sp_empty_content A.CContent) := by
  refine T.Fempty_content.ok sc_empty_content (fun vs H Q E h => ?_) (fun cdv Ar outer st H vs Q E hr h => ?_)
  · obtain ⟨_, _, rfl, _⟩ := h
    rfl
  · obtain ⟨i, U, rfl, sU, q⟩ := h
    refine ⟨_, (pss_one (ps_ret (pe_make T.MContent (ok_Content___init__ T) (hr.mono (by decide)) rfl T.gContent T.bContent___init__ .nil pass0 (pa_cons pe_non (pa_cons pe_int (pa_cons pe_int (pa_cons pe_non (pa_cons (pe_lst (pa_cons (pv 0) pa_nil)) (pa_cons pe_dnewK pa_nil))))))))), ?_⟩
    refine ⟨_, rfl, len_line (by show 1 ≤ 100000; decide), fun p1 n1 => ?_⟩
    have x1 := Ext.new (o := .lst [.int i]) sU n1
    intro d hd
    have x2 := x1.trans (Ext.new (o := .dK []) x1.vh hd)
    have s2 := same_upd (o := .dK []) (none_of_same x1.vh hd)
    intro x dx nx ndx nex
    refine ⟨x, dx, _, _, _, _, _, _, rfl, upd_same, fun H3 h3 b3 => ⟨rfl, ?_⟩⟩
    have s3 := made_same nx ndx b3
    have x3 := x2.trans (Ext.put x2.vh s3 nx h3)
    have t3 := same_upd (o := .ins A.CContent dx (cF .non 0 1 .non (.ref p1) (.ref d))) (none_of_same x2.vh nx)
    exact q _ _ _ x3 ⟨x, dx, _, _, _, rfl, upd_same, rfl, ⟨p1, rfl, t3 _ _ (s2 _ _ upd_same)⟩, ⟨d, rfl, t3 _ _ upd_same⟩⟩
/-! ### one change laid over another; a content behind a change -/
def cg0 : Cg := ⟨none, none, none, none, none, none, []⟩
def over (f s : Cg) : Cg := ⟨s.att.or f.att, s.hear.or f.hear, s.turn.or f.turn, s.scale.or f.scale, s.order.or f.order, s.places.or f.places, f.cbs ++ s.cbs⟩
def changed (c : Cn) (g : Cg) : Cn := ⟨g.att.getD c.pic, g.turn.getD c.turn, g.scale.getD c.scale, g.hear.getD c.hears, g.order.getD c.order, g.places.getD c.places⟩
theorem oI_or (f s : Option Int) : (if oI s = .non then oI f else oI s) = oI (s.or f) := by
  cases s with
  | none => exact if_pos rfl
  | some i => exact if_neg fun z => by cases z
theorem oI_get (i : Int) (s : Option Int) : (if oI s = .non then .int i else oI s) = .int (s.getD i) := by
  cases s with
  | none => exact if_pos rfl
  | some i => exact if_neg fun z => by cases z
theorem oat_or {U : Hp} {v w : V} {f s : Option (List V)} (h1 : OAt U v f) (h2 : OAt U w s) : OAt U (if w = .non then v else w) (s.or f) := by
  cases s with
  | none => rw [if_pos (show w = V.non from h2)]; exact h1
  | some xs =>
    obtain ⟨a, rfl, e⟩ := h2
    rw [if_neg fun z => by cases z]; exact ⟨a, rfl, e⟩
theorem odat_or {U : Hp} {v w : V} {f s : Option (List (Key × V))} (h1 : ODAt U v f) (h2 : ODAt U w s) : ODAt U (if w = .non then v else w) (s.or f) := by
  cases s with
  | none => rw [if_pos (show w = V.non from h2)]; exact h1
  | some xs =>
    obtain ⟨a, rfl, e⟩ := h2
    rw [if_neg fun z => by cases z]; exact ⟨a, rfl, e⟩
theorem or_some {α : Type} (s : Option α) (x : α) : s.or (some x) = some (s.getD x) := by cases s <;> rfl
theorem ite_fld {K : PySem.W.Frag} {b : Bool} {ta tb : TE} {f : Str} {σ : St} {H : Hp} {Q : VK} {v1 v2 : V} (h1 : ∀ Q : VK, Q v1 H → tFld K ta f σ H Q) (h2 : ∀ Q : VK, Q v2 H → tFld K tb f σ H Q) (h : Q (if b = true then v1 else v2) H) : if b = true then tFld K ta f σ H Q else tFld K tb f σ H Q := by
  cases b with
  | true => exact h1 Q h
  | false => exact h2 Q h
theorem att_or {K : PySem.W.Frag} {U : Hp} {v w : V} {f s : Option V} (h1 : AttAt K U v f) (h2 : AttAt K U w s) : AttAt K U (if s.isSome = true then w else v) (s.or f) := by
  cases s with
  | none => exact h1
  | some x => exact h2
theorem her_or {K : PySem.W.Frag} {U : Hp} {v w : V} {f s : Option (Option (List V))} (h1 : HerAt K U v f) (h2 : HerAt K U w s) : HerAt K U (if s.isSome = true then w else v) (s.or f) := by
  cases s with
  | none => exact h1
  | some x => exact h2
def sp_laid_over (C : Addr) (K : PySem.W.Frag) : Sp := fun vs H Q _ => ∃ (vf vs' : V) (f s : Cg) (vo vb wo wb : V) (U : Hp), vs = [vf, vs'] ∧ Same U H ∧ ((vf = .non ∧ f = cg0) ∨ CgX C K U vf f vo vb) ∧ CgX C K U vs' s wo wb ∧ f.cbs.length < 1000 ∧ s.cbs.length < 1000 ∧
  ∀ v' ro rb U' H', Ext U H U' H' → CgX C K U' v' (over f s) ro rb → (∀ a, ro = .ref a → H a = none) → (∀ a, rb = .ref a → H a = none) → (∀ a, ro = .ref a → rb ≠ .ref a) → Q v' H'
theorem sc_laid_over : FnScope ["first", "second"] ["first", "second"] (defScope s_laid_over) := ⟨rfl, rfl, rfl, by decide +kernel, rfl, by decide +kernel, by decide +kernel⟩
theorem ok_laid_over (T : Txt K mg A) : FnOk P w K mg base CX0 3 A.flaid_over A.dlaid_over ["first", "second"] (sp_laid_over A.CChange K) := by
  refine T.Flaid_over.ok sc_laid_over (fun vs H Q E h => ?_) (fun cdv Ar outer st H vs Q E hr h => ?_)
  · obtain ⟨_, _, _, _, _, _, _, _, _, rfl, _⟩ := h
    rfl
  · obtain ⟨vf, vs', f, s, vo, vb, wo, wb, U, rfl, sU, hf, hs, lf, ls, q⟩ := h
    refine ⟨_, (C8.pss_cut (ps_if (pt_cmpR op_isN (pv 0) pe_non (nomark _))
      (pss_one (ps_set (i := 0) sc_laid_over.nd rfl (Or.inl rfl) (pe_make T.MChange (ok_Change___init__ T) (hr.mono (by decide)) rfl T.gChange T.bChange___init__ .nil pass0 (pa_cons (pe_tup (pa_cons pe_bl (pa_cons pe_non pa_nil))) (pa_cons (pe_tup (pa_cons pe_bl (pa_cons pe_non pa_nil))) (pa_cons pe_non (pa_cons pe_non (pa_cons pe_non (pa_cons pe_non (pa_cons (pe_lst pa_nil) pa_nil))))))))))
      pss_nil)
      (pss_one (ps_ret (pe_make T.MChange (ok_Change___init__ T) (hr.mono (by decide)) rfl T.gChange T.bChange___init__ .nil pass0 (pa_cons (pe_ifExp (pt_truth (pe_ix (r := rIxT K) ix_tup (pe_fld (pv 1) rfl) pe_int (fun _ _ => rfl)) (by intro _; rfl)) (pe_fld (pv 1) rfl) (pe_fld (pv 0) rfl)) (pa_cons (pe_ifExp (pt_truth (pe_ix (r := rIxT K) ix_tup (pe_fld (pv 1) rfl) pe_int (fun _ _ => rfl)) (by intro _; rfl)) (pe_fld (pv 1) rfl) (pe_fld (pv 0) rfl)) (pa_cons (pe_call (ok__latest T) (hr.mono (by decide)) rfl T.g_latest T.k_latest T.b_latest .nil pass0 (pa_cons (pe_fld (pv 0) rfl) (pa_cons (pe_fld (pv 1) rfl) pa_nil))) (pa_cons (pe_call (ok__latest T) (hr.mono (by decide)) rfl T.g_latest T.k_latest T.b_latest .nil pass0 (pa_cons (pe_fld (pv 0) rfl) (pa_cons (pe_fld (pv 1) rfl) pa_nil))) (pa_cons (pe_call (ok__copied_list T) (hr.mono (by decide)) rfl T.g_copied_list T.k_copied_list T.b_copied_list .nil pass0 (pa_cons (pe_call (ok__latest T) (hr.mono (by decide)) rfl T.g_latest T.k_latest T.b_latest .nil pass0 (pa_cons (pe_fld (pv 0) rfl) (pa_cons (pe_fld (pv 1) rfl) pa_nil))) pa_nil)) (pa_cons (pe_call (ok__copied_dict T) (hr.mono (by decide)) rfl T.g_copied_dict T.k_copied_dict T.b_copied_dict .nil pass0 (pa_cons (pe_call (ok__latest T) (hr.mono (by decide)) rfl T.g_latest T.k_latest T.b_latest .nil pass0 (pa_cons (pe_fld (pv 0) rfl) (pa_cons (pe_fld (pv 1) rfl) pa_nil))) pa_nil)) (pa_cons (pe_op op_cat (pe_fld (pv 0) rfl) (pe_fld (pv 1) rfl)) pa_nil))))))))))), ?_⟩
    refine ⟨fun σ' H' => ∃ (vf' vo vb : V) (U' : Hp), σ' = [some vf', some vs'] ∧ Ext U H U' H' ∧ CgX A.CChange K U' vf' f vo vb, ?_, ?_⟩
    · rcases hf with ⟨rfl, rfl⟩ | hf
      · refine ⟨_, rfl, rfl, _, rfl, if_t (decide_eq_true rfl) ?_⟩
        refine ⟨len_line (by show 2 ≤ 100000; decide), fun p1 n1 => ⟨len_line (by show 2 ≤ 100000; decide), fun p2 n2 => ⟨len_line (by show 0 ≤ 100000; decide), fun p3 n3 => ?_⟩⟩⟩
        have x1 := Ext.new (o := .tup [.bl false, .non]) sU n1
        have x2 := x1.trans (Ext.new (o := .tup [.bl false, .non]) x1.vh n2)
        have t2 := same_upd (o := .tup [.bl false, .non]) (none_of_same x1.vh n2)
        have x3 := x2.trans (Ext.new (o := .lst []) x2.vh n3)
        have t3 := same_upd (o := .lst []) (none_of_same x2.vh n3)
        intro x dx nx ndx nex
        refine ⟨x, dx, _, _, _, _, _, _, _, rfl, upd_same, fun H4 h4 b4 => ⟨rfl, ?_⟩⟩
        have s4 := made_same nx ndx b4
        have x4 := x3.trans (Ext.put x3.vh s4 nx h4)
        have t4 := same_upd (o := .ins A.CChange dx (gF (.ref p1) (.ref p2) .non .non .non .non (.ref p3))) (none_of_same x3.vh nx)
        exact ⟨.ref x, .non, .ref p3, _, rfl, x4, ⟨⟨x, dx, .ref p1, .ref p2, .non, rfl, upd_same, ⟨p1, rfl, t4.sqt (t3.sqt (t2.sqt (SqT.of upd_same)))⟩, ⟨p2, .non, rfl, t4.sqt (t3.sqt (SqT.of upd_same)), rfl⟩, rfl⟩, rfl, ⟨p3, rfl, t4 _ _ upd_same⟩⟩⟩
      · obtain ⟨o, dx, va, vh, vd, e, e1, h1, h2, h3⟩ := hf.ex
        refine ⟨_, rfl, rfl, _, rfl, if_f (decide_eq_false fun z => by rw [e] at z; cases z) ?_⟩
        exact ⟨vf, vo, vb, U, rfl, Ext.refl sU, hf⟩
    rintro σ' H1 ⟨vf1, vo1, vb1, U1, rfl, x1, X1⟩
    have Y1 := hs.to x1.vv
    obtain ⟨of, df, fa, fh, fd, rfl, e1, a1, b1, c1⟩ := X1.ex
    obtain ⟨os, ds, sa, sh, sd, rfl, e2, a2, b2, c2⟩ := Y1.ex
    have e1' := x1.vh _ _ e1
    have e2' := x1.vh _ _ e2
    obtain ⟨pa, ra, qa⟩ := a2
    obtain ⟨ph, hh, rh, qh, oh⟩ := b2
    have qa' := x1.vh.sqt qa
    have qh' := x1.vh.sqt qh
    have a2' : AttAt K U1 sa s.att := ⟨pa, ra, qa⟩
    have b2' : HerAt K U1 sh s.hear := ⟨ph, hh, rh, qh, oh⟩
    refine ⟨_, rfl, os, _, ds, _, _, rfl, e2', T.clChange, T.nChange_attached, gF_a _ _ _ _ _ _ _, pa, _, _, _, ra, rfl, qa', atI_nat (j := 0) rfl, _, rfl, ?_⟩
    refine ite_fld (v1 := sa) (v2 := fa) (fun Q q => ⟨_, rfl, os, _, ds, _, _, rfl, e2', T.clChange, T.nChange_attached, gF_a _ _ _ _ _ _ _, q⟩) (fun Q q => ⟨_, rfl, of, _, df, _, _, rfl, e1', T.clChange, T.nChange_attached, gF_a _ _ _ _ _ _ _, q⟩) ?_
    have aa := att_or a1 a2'
    generalize (if s.att.isSome = true then sa else fa) = va at aa ⊢
    refine ⟨_, rfl, os, _, ds, _, _, rfl, e2', T.clChange, T.nChange_hearing, gF_h _ _ _ _ _ _ _, ph, _, _, _, rh, rfl, qh', atI_nat (j := 0) rfl, _, rfl, ?_⟩
    refine ite_fld (v1 := sh) (v2 := fh) (fun Q q => ⟨_, rfl, os, _, ds, _, _, rfl, e2', T.clChange, T.nChange_hearing, gF_h _ _ _ _ _ _ _, q⟩) (fun Q q => ⟨_, rfl, of, _, df, _, _, rfl, e1', T.clChange, T.nChange_hearing, gF_h _ _ _ _ _ _ _, q⟩) ?_
    have bb := her_or b1 b2'
    generalize (if s.hear.isSome = true then sh else fh) = vh at bb ⊢
    refine ⟨_, rfl, of, _, df, _, _, rfl, e1', T.clChange, T.nChange_turn, gF_t _ _ _ _ _ _ _, _, rfl, os, _, ds, _, _, rfl, e2', T.clChange, T.nChange_turn, gF_t _ _ _ _ _ _ _, _, _, rfl, ?_⟩
    rw [oI_or]
    refine ⟨_, rfl, of, _, df, _, _, rfl, e1', T.clChange, T.nChange_scale, gF_s _ _ _ _ _ _ _, _, rfl, os, _, ds, _, _, rfl, e2', T.clChange, T.nChange_scale, gF_s _ _ _ _ _ _ _, _, _, rfl, ?_⟩
    rw [oI_or]
    refine ⟨_, rfl, of, _, df, _, _, rfl, e1', T.clChange, T.nChange_order, gF_o _ _ _ _ _ _ _, _, rfl, os, _, ds, _, _, rfl, e2', T.clChange, T.nChange_order, gF_o _ _ _ _ _ _ _, _, _, rfl, ?_⟩
    refine ⟨_, s.order.or f.order, U1, rfl, x1.vh, oat_or X1.o Y1.o, fun ro U2 H2 x2 or2 fr2 => ?_⟩
    have e1'' := x2.hh _ _ e1'
    have e2'' := x2.hh _ _ e2'
    refine ⟨_, rfl, of, _, df, _, _, rfl, e1'', T.clChange, T.nChange_places, gF_d _ _ _ _ _ _ _, _, rfl, os, _, ds, _, _, rfl, e2'', T.clChange, T.nChange_places, gF_d _ _ _ _ _ _ _, _, _, rfl, ?_⟩
    refine ⟨_, s.places.or f.places, U2, rfl, x2.vh, odat_or (c1.to x2.vv) (c2.to x2.vv), fun rd U3 H3 x3 od3 => ?_⟩
    have x23 := x2.trans x3
    have f1 := x23.hh _ _ e1'
    have f2 := x23.hh _ _ e2'
    obtain ⟨ab, rfl, eb1⟩ := X1.b
    obtain ⟨ac, rfl, eb2⟩ := Y1.b
    refine ⟨_, rfl, of, _, df, _, _, rfl, f1, T.clChange, T.nChange_callbacks, gF_b _ _ _ _ _ _ _, _, rfl, os, _, ds, _, _, rfl, f2, T.clChange, T.nChange_callbacks, gF_b _ _ _ _ _ _ _, ?_⟩
    refine ⟨ab, ac, _, _, rfl, rfl, x23.hh _ _ (x1.vh _ _ eb1), x23.hh _ _ (x1.vh _ _ eb2), ?_, fun r hr => ?_⟩
    · rw [sizeLine_eq]; omega
    have x4 := x23.trans (Ext.new (o := .lst (f.cbs ++ s.cbs)) x23.vh hr)
    have t4 := same_upd (o := .lst (f.cbs ++ s.cbs)) (none_of_same x23.vh hr)
    intro x dx nx ndx nex
    refine ⟨x, dx, _, _, _, _, _, _, _, rfl, upd_same, fun H5 h5 b5 => ⟨rfl, ?_⟩⟩
    have s5 := made_same nx ndx b5
    have x5 := x4.trans (Ext.put x4.vh s5 nx h5)
    have t5 := same_upd (o := .ins A.CChange dx (gF va vh (oI (s.turn.or f.turn)) (oI (s.scale.or f.scale)) ro rd (.ref r))) (none_of_same x4.vh nx)
    have v25 := x3.vv.trans (t4.trans t5)
    have v15 := x2.vv.trans v25
    refine q (.ref x) ro (.ref r) _ H5 (x1.trans x5) ⟨⟨x, dx, va, vh, rd, rfl, upd_same, aa.to v15, bb.to v15, od3.to (t4.trans t5)⟩, or2.to v25, ⟨r, rfl, t5 _ _ upd_same⟩⟩ (fun a e => x1.hh.free (fr2 a e)) (fun a e => ?_) (fun a e z => ?_)
    · cases e; exact x1.hh.free (x23.hh.free hr)
    · cases z
      rw [e] at or2
      cases ho : s.order.or f.order with
      | none => rw [ho] at or2; cases or2
      | some xs =>
        rw [ho] at or2
        obtain ⟨a', e', e''⟩ := or2
        cases e'
        have := x3.hh _ _ (x2.vh _ _ e'')
        rw [hr] at this; cases this
/-! ### a content behind a change; its size -/
theorem ite_te {b : Bool} {F1 F2 : TE} {σ : St} {H : Hp} {Q : VK} {v1 v2 : V} (h1 : ∀ Q : VK, Q v1 H → F1 σ H Q) (h2 : ∀ Q : VK, Q v2 H → F2 σ H Q) (h : Q (if b = true then v1 else v2) H) : if b = true then F1 σ H Q else F2 σ H Q := by
  cases b with
  | true => exact h1 Q h
  | false => exact h2 Q h
theorem if_getD (o : Option V) (x : V) : (if o.isSome = true then o.getD .non else x) = o.getD x := by cases o <;> rfl
theorem oat_get {U : Hp} {v w : V} {c : Option (List V)} {o : Option (Option (List V))} (h1 : OAt U w (o.getD none)) (h2 : OAt U v c) : OAt U (if o.isSome = true then w else v) (o.getD c) := by
  cases o with
  | none => exact h2
  | some x => exact h1
def sp_changed_content (CC CG : Addr) (K : PySem.W.Frag) : Sp := fun vs H Q _ => ∃ (vc vg : V) (c : Cn) (g : Cg) (wo wb : V) (U : Hp), vs = [vc, vg] ∧ Same U H ∧ CnAt CC U vc c ∧ CgX CG K U vg g wo wb ∧ ∀ v' U' H', Ext U H U' H' → CnAt CC U' v' (changed c g) → Q v' H'
theorem sc_changed_content : FnScope ["content", "change"] ["content", "change"] (defScope s_changed_content) := ⟨rfl, rfl, rfl, by decide +kernel, rfl, by decide +kernel, by decide +kernel⟩
theorem ok_changed_content (T : Txt K mg A) : FnOk P w K mg base CX0 3 A.fchanged_content A.dchanged_content ["content", "change"] (sp_changed_content A.CContent A.CChange K) := by
  refine T.Fchanged_content.ok sc_changed_content (fun vs H Q E h => ?_) (fun cdv Ar outer st H vs Q E hr h => ?_)
  · obtain ⟨_, _, _, _, _, _, _, rfl, _⟩ := h
    rfl
  · obtain ⟨vc, vg, c, g, wo, wb, U, rfl, sU, hc, hg, q⟩ := h
    refine ⟨_, (pss_one (ps_ret (pe_make T.MContent (ok_Content___init__ T) (hr.mono (by decide)) rfl T.gContent T.bContent___init__ .nil pass0 (pa_cons (pe_ifExp (pt_truth (pe_ix (r := rIxT K) ix_tup (pe_fld (pv 1) rfl) pe_int (fun _ _ => rfl)) (by intro _; rfl)) (pe_ix (r := rIxT K) ix_tup (pe_fld (pv 1) rfl) pe_int (fun _ _ => rfl)) (pe_fld (pv 0) rfl)) (pa_cons (pe_call (ok__latest T) (hr.mono (by decide)) rfl T.g_latest T.k_latest T.b_latest .nil pass0 (pa_cons (pe_fld (pv 0) rfl) (pa_cons (pe_fld (pv 1) rfl) pa_nil))) (pa_cons (pe_call (ok__latest T) (hr.mono (by decide)) rfl T.g_latest T.k_latest T.b_latest .nil pass0 (pa_cons (pe_fld (pv 0) rfl) (pa_cons (pe_fld (pv 1) rfl) pa_nil))) (pa_cons (pe_call (ok__copied_list T) (hr.mono (by decide)) rfl T.g_copied_list T.k_copied_list T.b_copied_list .nil pass0 (pa_cons (pe_ifExp (pt_truth (pe_ix (r := rIxT K) ix_tup (pe_fld (pv 1) rfl) pe_int (fun _ _ => rfl)) (by intro _; rfl)) (pe_ix (r := rIxT K) ix_tup (pe_fld (pv 1) rfl) pe_int (fun _ _ => rfl)) (pe_fld (pv 0) rfl)) pa_nil)) (pa_cons (pe_call (ok__copied_list T) (hr.mono (by decide)) rfl T.g_copied_list T.k_copied_list T.b_copied_list .nil pass0 (pa_cons (pe_call (ok__latest T) (hr.mono (by decide)) rfl T.g_latest T.k_latest T.b_latest .nil pass0 (pa_cons (pe_fld (pv 0) rfl) (pa_cons (pe_fld (pv 1) rfl) pa_nil))) pa_nil)) (pa_cons (pe_call (ok__copied_dict T) (hr.mono (by decide)) rfl T.g_copied_dict T.k_copied_dict T.b_copied_dict .nil pass0 (pa_cons (pe_call (ok__latest T) (hr.mono (by decide)) rfl T.g_latest T.k_latest T.b_latest .nil pass0 (pa_cons (pe_fld (pv 0) rfl) (pa_cons (pe_fld (pv 1) rfl) pa_nil))) pa_nil)) pa_nil))))))))), ?_⟩
    obtain ⟨oc, dc, ch, co, cd, rfl, e1, c1, ⟨ao, rfl, eo⟩, ⟨ad, rfl, ed⟩⟩ := hc
    obtain ⟨og, dgx, ga, gh, gd, rfl, e2, a2, b2, c2⟩ := hg.ex
    obtain ⟨pa, ra, qa⟩ := a2
    obtain ⟨ph, hh, rh, qh, oh⟩ := b2
    have e1' := sU _ _ e1
    have e2' := sU _ _ e2
    have qa' := sU.sqt qa
    have qh' := sU.sqt qh
    refine ⟨_, rfl, og, _, dgx, _, _, rfl, e2', T.clChange, T.nChange_attached, gF_a _ _ _ _ _ _ _, pa, _, _, _, ra, rfl, qa', atI_nat (j := 0) rfl, _, rfl, ?_⟩
    refine ite_te (v1 := g.att.getD .non) (v2 := c.pic) (fun Q q => ⟨_, rfl, og, _, dgx, _, _, rfl, e2', T.clChange, T.nChange_attached, gF_a _ _ _ _ _ _ _, pa, _, _, _, ra, rfl, qa', atI_nat (j := 1) rfl, q⟩) (fun Q q => ⟨_, rfl, oc, _, dc, _, _, rfl, e1', T.clContent, T.nContent_picture, cF_p _ _ _ _ _ _, q⟩) ?_
    rw [if_getD]
    refine ⟨_, rfl, oc, _, dc, _, _, rfl, e1', T.clContent, T.nContent_turn, cF_t _ _ _ _ _ _, _, rfl, og, _, dgx, _, _, rfl, e2', T.clChange, T.nChange_turn, gF_t _ _ _ _ _ _ _, _, _, rfl, ?_⟩
    rw [oI_get]
    refine ⟨_, rfl, oc, _, dc, _, _, rfl, e1', T.clContent, T.nContent_scale, cF_s _ _ _ _ _ _, _, rfl, og, _, dgx, _, _, rfl, e2', T.clChange, T.nChange_scale, gF_s _ _ _ _ _ _ _, _, _, rfl, ?_⟩
    rw [oI_get]
    refine ⟨_, rfl, og, _, dgx, _, _, rfl, e2', T.clChange, T.nChange_hearing, gF_h _ _ _ _ _ _ _, ph, _, _, _, rh, rfl, qh', atI_nat (j := 0) rfl, _, rfl, ?_⟩
    refine ite_te (v1 := hh) (v2 := ch) (fun Q q => ⟨_, rfl, og, _, dgx, _, _, rfl, e2', T.clChange, T.nChange_hearing, gF_h _ _ _ _ _ _ _, ph, _, _, _, rh, rfl, qh', atI_nat (j := 1) rfl, q⟩) (fun Q q => ⟨_, rfl, oc, _, dc, _, _, rfl, e1', T.clContent, T.nContent_hears, cF_h _ _ _ _ _ _, q⟩) ?_
    refine ⟨_, g.hear.getD c.hears, U, rfl, sU, oat_get oh c1, fun rh' U2 H2 x2 oh2 _ => ?_⟩
    have f1 := x2.hh _ _ e1'
    have f2 := x2.hh _ _ e2'
    refine ⟨_, rfl, oc, _, dc, _, _, rfl, f1, T.clContent, T.nContent_order, cF_o _ _ _ _ _ _, _, rfl, og, _, dgx, _, _, rfl, f2, T.clChange, T.nChange_order, gF_o _ _ _ _ _ _ _, _, _, rfl, ?_⟩
    refine ⟨_, some (g.order.getD c.order), U2, rfl, x2.vh, ?_, fun ro U3 H3 x3 oo3 _ => ?_⟩
    · rw [← or_some]
      exact (oat_or (f := some c.order) ⟨ao, rfl, eo⟩ hg.o).to x2.vv
    have x23 := x2.trans x3
    have h1 := x23.hh _ _ e1'
    have h2 := x23.hh _ _ e2'
    refine ⟨_, rfl, oc, _, dc, _, _, rfl, h1, T.clContent, T.nContent_places, cF_d _ _ _ _ _ _, _, rfl, og, _, dgx, _, _, rfl, h2, T.clChange, T.nChange_places, gF_d _ _ _ _ _ _ _, _, _, rfl, ?_⟩
    refine ⟨_, some (g.places.getD c.places), U3, rfl, x3.vh, ?_, fun rd U4 H4 x4 od4 => ?_⟩
    · rw [← or_some]
      exact (odat_or (f := some c.places) ⟨ad, rfl, ed⟩ c2).to x23.vv
    have x24 := x23.trans x4
    intro x dx nx ndx nex
    refine ⟨x, dx, _, _, _, _, _, _, rfl, upd_same, fun H5 h5 b5 => ⟨rfl, ?_⟩⟩
    have s5 := made_same nx ndx b5
    have x5 := x24.trans (Ext.put x24.vh s5 nx h5)
    have t5 := same_upd (o := .ins A.CContent dx (cF (g.att.getD c.pic) (g.turn.getD c.turn) (g.scale.getD c.scale) rh' ro rd)) (none_of_same x24.vh nx)
    exact q _ _ _ x5 ⟨x, dx, _, _, _, rfl, upd_same, oh2.to ((x3.vv.trans x4.vv).trans t5), LAt.to oo3 (x4.vv.trans t5), DAt.to od4 t5⟩
/-- a picture that stands in a heap, or none -/
def PcAt (C : Addr) (U : Hp) (v : V) : Option (Nat × Nat) → Prop
  | none => v = .non
  | some p => ∃ o dx l, v = .ref o ∧ U o = some (.ins C dx (pF p.1 p.2 l))
theorem PcAt.to {C : Addr} {U U' : Hp} {v : V} : ∀ {o : Option (Nat × Nat)}, PcAt C U v o → Same U U' → PcAt C U' v o
  | none, h, _ => h
  | some _, ⟨o, dx, l, e, e1⟩, s => ⟨o, dx, l, e, s _ _ e1⟩
def sizeV (p : Option (Nat × Nat)) (t sc : Int) : PyData := match p with
  | none => .none
  | some (w, h) => if t % 2 = 1 then .tuple [.int (h / sc), .int (w / sc)] else .tuple [.int (w / sc), .int (h / sc)]
def fitsB (p : Option (Nat × Nat)) (sc : Int) : Bool := match p with
  | none => true
  | some (w, h) => decide ((w : Int) % sc = 0) && decide ((h : Int) % sc = 0)
def sp_content_size (CC CP : Addr) (K : PySem.W.Frag) : Sp := fun vs H Q _ => ∃ (vc : V) (c : Cn) (p : Option (Nat × Nat)) (U : Hp), vs = [vc] ∧ Same U H ∧ CnAt CC U vc c ∧ PcAt CP U c.pic p ∧ 0 < c.scale ∧ c.scale < 1000 ∧
  ∀ v' U' H', Ext U H U' H' → Dp K U' v' (sizeV p c.turn c.scale) → Q v' H'
theorem sc_content_size : FnScope ["content", "width", "height"] ["content"] (defScope s_content_size) := ⟨rfl, rfl, rfl, by decide +kernel, rfl, by decide +kernel, by decide +kernel⟩
theorem ok_content_size (T : Txt K mg A) : FnOk P w K mg base CX0 1 A.fcontent_size A.dcontent_size ["content"] (sp_content_size A.CContent A.CPicture K) := by
  refine T.Fcontent_size.ok sc_content_size (fun vs H Q E h => ?_) (fun cdv Ar outer st H vs Q E hr h => ?_)
  · obtain ⟨_, _, _, _, rfl, _⟩ := h
    rfl
  · obtain ⟨vc, c, p, U, rfl, sU, hc, hp, s0, s1, q⟩ := h
    obtain ⟨oc, dc, ch, co, cd, rfl, e1, _⟩ := hc
    have e1' := sU _ _ e1
    refine ⟨_, (pss_cons (ps_if (pt_cmpR op_isN (pe_fld (pv 0) rfl) pe_non (nomark _))
      (pss_one (ps_ret pe_non))
      pss_nil)
      (pss_cons (ps_par (i := 1) (j := 2) (by rfl) sc_content_size.nd rfl rfl (by decide) rfl rfl (pa_cons (pe_fld (pe_fld (pv 0) rfl) rfl) (pa_cons (pe_fld (pe_fld (pv 0) rfl) rfl) pa_nil)) (by rfl))
      (C8.pss_cut (ps_if (pt_cmpR op_eq (pe_op op_mod (pe_fld (pv 0) rfl) pe_int) pe_int (nomark _))
      (pss_one (ps_par (i := 1) (j := 2) (by rfl) sc_content_size.nd rfl rfl (by decide) rfl rfl (pa_cons (pv 2) (pa_cons (pv 1) pa_nil)) (by rfl)))
      pss_nil)
      (pss_one (ps_ret (pe_tup (pa_cons (pe_op op_fdiv (pv 1) (pe_fld (pv 0) rfl)) (pa_cons (pe_op op_fdiv (pv 2) (pe_fld (pv 0) rfl)) pa_nil)))))))), ?_⟩
    refine ⟨_, rfl, oc, _, dc, _, _, rfl, e1', T.clContent, T.nContent_picture, cF_p _ _ _ _ _ _, rfl, _, rfl, ?_⟩
    cases p with
    | none =>
      have hn : c.pic = .non := hp
      exact if_t (decide_eq_true hn) (q _ U H (Ext.refl sU) .non)
    | some p =>
      obtain ⟨op, dp, l, ep, e2⟩ := hp
      have e2' := sU _ _ e2
      refine if_f (decide_eq_false fun z => by rw [ep] at z; cases z) ?_
      refine ⟨_, rfl, oc, _, dc, _, _, rfl, e1', T.clContent, T.nContent_picture, cF_p _ _ _ _ _ _, op, _, dp, _, _, ep, e2', T.clPicture, T.nPicture_width, pF_w _ _ _, _, rfl, oc, _, dc, _, _, rfl, e1', T.clContent, T.nContent_picture, cF_p _ _ _ _ _ _, op, _, dp, _, _, ep, e2', T.clPicture, T.nPicture_height, pF_h _ _ _, _, _, rfl, ?_⟩
      refine ⟨fun σ' H' => σ' = [some (.ref oc), some (.int (if c.turn % 2 = 1 then (p.2 : Int) else p.1)), some (.int (if c.turn % 2 = 1 then (p.1 : Int) else p.2))] ∧ H' = H, ?_, ?_⟩
      · refine ⟨_, rfl, oc, _, dc, _, _, rfl, e1', T.clContent, T.nContent_turn, cF_t _ _ _ _ _ _, _, _, rfl, rfl, (by show (0 : Int) < 2; decide), rfl, _, rfl, iteEq (fun h => ?_) (fun h => ?_)⟩
        · refine ⟨_, rfl, _, rfl, _, _, rfl, ?_, rfl⟩
          rw [if_pos h, if_pos h]; rfl
        · refine ⟨?_, rfl⟩
          rw [if_neg h, if_neg h]; rfl
      rintro σ' H' ⟨rfl, rfl⟩
      refine ⟨_, rfl, _, rfl, oc, _, dc, _, _, rfl, e1', T.clContent, T.nContent_scale, cF_s _ _ _ _ _ _, _, _, rfl, rfl, ⟨s0, by omega⟩, _, rfl, _, rfl, oc, _, dc, _, _, rfl, e1', T.clContent, T.nContent_scale, cF_s _ _ _ _ _ _, _, _, rfl, rfl, ⟨s0, by omega⟩, len_line (by show 2 ≤ 100000; decide), fun r hr => ?_⟩
      refine q _ _ _ (Ext.new sU hr) ?_
      have e : sizeV (some p) c.turn c.scale = .tuple [.int ((if c.turn % 2 = 1 then (p.2 : Int) else p.1) / c.scale), .int ((if c.turn % 2 = 1 then (p.1 : Int) else p.2) / c.scale)] := by
        show (if c.turn % 2 = 1 then _ else _) = _
        split <;> rfl
      rw [e]
      exact .tup (SqT.of upd_same) (.cons (.int _) (.cons (.int _) .nil))
def sp_scale_fits (CC CP : Addr) : Sp := fun vs H Q _ => ∃ (vc : V) (c : Cn) (p : Option (Nat × Nat)), vs = [vc] ∧ CnAt CC H vc c ∧ PcAt CP H c.pic p ∧ 0 < c.scale ∧ c.scale < 1000 ∧ Q (.bl (fitsB p c.scale)) H
theorem sc_scale_fits : FnScope ["content", "picture"] ["content"] (defScope s_scale_fits) := ⟨rfl, rfl, rfl, by decide +kernel, rfl, by decide +kernel, by decide +kernel⟩
theorem ok_scale_fits (T : Txt K mg A) : FnOk P w K mg base CX0 1 A.fscale_fits A.dscale_fits ["content"] (sp_scale_fits A.CContent A.CPicture) := by
  refine T.Fscale_fits.ok sc_scale_fits (fun vs H Q E h => ?_) (fun cdv Ar outer st H vs Q E hr h => ?_)
  · obtain ⟨_, _, _, rfl, _⟩ := h
    rfl
  · obtain ⟨vc, c, p, rfl, hc, hp, s0, s1, q⟩ := h
    obtain ⟨oc, dc, ch, co, cd, rfl, e1, _⟩ := hc
    refine ⟨_, (pss_cons (ps_set (i := 1) sc_scale_fits.nd rfl (Or.inl rfl) (pe_fld (pv 0) rfl))
      (pss_cons (ps_if (pt_cmpR op_isN (pv 1) pe_non (nomark _))
      (pss_one (ps_ret pe_bl))
      pss_nil)
      (pss_one (ps_ret (pe_and (pe_cmpR op_eq (pe_op op_mod (pe_fld (pv 1) rfl) (pe_fld (pv 0) rfl)) pe_int (nomark _)) (pe_one (pe_cmpR op_eq (pe_op op_mod (pe_fld (pv 1) rfl) (pe_fld (pv 0) rfl)) pe_int (nomark _)))))))), ?_⟩
    refine ⟨_, rfl, oc, _, dc, _, _, rfl, e1, T.clContent, T.nContent_picture, cF_p _ _ _ _ _ _, ?_⟩
    cases p with
    | none =>
      have hn : c.pic = .non := hp
      exact ⟨_, rfl, rfl, _, rfl, if_t (decide_eq_true hn) q⟩
    | some p =>
      obtain ⟨op, dp, l, ep, e2⟩ := hp
      refine ⟨_, rfl, rfl, _, rfl, if_f (decide_eq_false fun z => by rw [ep] at z; cases z) ?_⟩
      refine ⟨_, rfl, op, _, dp, _, _, ep, e2, T.clPicture, T.nPicture_width, pF_w _ _ _, _, rfl, oc, _, dc, _, _, rfl, e1, T.clContent, T.nContent_scale, cF_s _ _ _ _ _ _, _, _, rfl, rfl, s0, rfl, ?_⟩
      have dI : ∀ z : Int, decide (V.int z = V.int 0) = decide (z = 0) := fun z => decide_eq_decide.mpr ⟨fun e => by injection e, fun e => by rw [e]⟩
      refine ⟨_, rfl, ?_⟩
      show if decide (V.int ((p.1 : Int) % c.scale) = V.int 0) = true then _ else _
      rw [dI]
      have q' : Q (.bl (decide ((p.1 : Int) % c.scale = 0) && decide ((p.2 : Int) % c.scale = 0))) H := q
      by_cases c1 : (p.1 : Int) % c.scale = 0
      · rw [decide_eq_true c1] at q' ⊢
        refine if_t rfl ?_
        refine ⟨_, rfl, op, _, dp, _, _, ep, e2, T.clPicture, T.nPicture_height, pF_h _ _ _, _, rfl, oc, _, dc, _, _, rfl, e1, T.clContent, T.nContent_scale, cF_s _ _ _ _ _ _, _, _, rfl, rfl, s0, rfl, ?_⟩
        show Q (.bl (decide (V.int ((p.2 : Int) % c.scale) = V.int 0))) H
        rw [dI]
        exact q'
      · rw [decide_eq_false c1] at q' ⊢
        exact if_f rfl q'
def clearP (w h : Nat) : Pic := ⟨w, h, List.replicate (w * h) 0⟩
def sp_clear_picture (C : Addr) : Sp := fun vs H Q _ => ∃ (w h : Nat), vs = [.int (w : Int), .int (h : Int)] ∧ w ≤ 128 ∧ h ≤ 128 ∧ ∀ (o' l' : Addr) (H' : Hp), NewPic C H H' o' l' (clearP w h) → Q (.ref o') H'
theorem sc_clear_picture : FnScope ["width", "height"] ["width", "height"] (defScope s_clear_picture) := ⟨rfl, rfl, rfl, by decide +kernel, rfl, by decide +kernel, by decide +kernel⟩
theorem ok_clear_picture (T : Txt K mg A) : FnOk P w K mg base CX0 3 A.fclear_picture A.dclear_picture ["width", "height"] (sp_clear_picture A.CPicture) := by
  refine T.Fclear_picture.ok sc_clear_picture (fun vs H Q E h => ?_) (fun cdv Ar outer s H vs Q E hr h => ?_)
  · obtain ⟨wd, ht, rfl, _⟩ := h
    rfl
  · obtain ⟨wd, ht, rfl, hw, hh, q⟩ := h
    refine ⟨_, (pss_one (ps_ret (pe_make T.MPicture (ok_Picture___init__ T) (hr.mono (by decide)) rfl T.gPicture T.bPicture___init__ .nil pass0 (pa_cons (pv 0) (pa_cons (pv 1) (pa_cons (pe_op op_rep (pe_lst (pa_cons (pe_glob (v := .int (0)) rfl T.gCLEAR ⟨_, rfl⟩) pa_nil)) (pe_op op_mul (pv 0) (pv 1))) pa_nil)))))), ?_⟩
    have hm : wd * ht ≤ 128 * 128 := Nat.mul_le_mul hw hh
    have hmi : (wd : Int) * (ht : Int) = ((wd * ht : Nat) : Int) := (Int.natCast_mul _ _).symm
    refine ⟨_, rfl, _, rfl, by decide, fun p1 f1 => ?_⟩
    refine ⟨_, rfl, _, rfl, _, _, rfl, rfl, Or.inl ⟨by omega, by omega⟩, p1, _, _, rfl, rfl, upd_same, ?_, ?_, ?_, fun p2 f2 => ?_⟩
    · rw [hmi]; omega
    · rw [hmi]; omega
    · rw [hmi]; exact len_line (by show 1 * _ ≤ _; omega)
    dsimp only
    rw [rep_flat, hmi, show ((wd * ht : Nat) : Int).toNat = wd * ht by omega]
    intro x dx nx ndx nex
    refine ⟨x, dx, _, _, _, rfl, upd_same, fun H3 h3 b3 => ⟨rfl, ?_⟩⟩
    have s3 := made_same nx ndx b3
    have s2 : Same H (upd (upd H p1 (.lst [.int 0])) p2 (.lst (List.replicate (wd * ht) (.int 0)))) := (same_upd f1).trans (same_upd f2)
    refine q x p2 H3 ⟨⟨⟨dx, h3⟩, ?_⟩, s2.trans s3, s2.free nx, (same_upd f1).free f2⟩
    refine (s3 _ _ upd_same).trans ?_
    show _ = some (HO.lst ((List.replicate (wd * ht) 0).map V.int))
    rw [List.map_replicate]
/-! ### the law's changes -/
def Plain (x : V) : Prop := flatB x = true ∨ ∃ a, x = .ref a
theorem mem_put {kvs : List (Key × V)} {k : Key} {y : V} {p : Key × V} (h : p ∈ putK kvs k y) : p = (k, y) ∨ (p ∈ kvs ∧ p.1 ≠ k) := by
  unfold putK at h
  split at h
  · obtain ⟨q, hq, e⟩ := List.mem_map.mp h
    by_cases c : q.1 = k
    · rw [if_pos c] at e; exact .inl (by rw [← e, c])
    · rw [if_neg c] at e; exact .inr (e ▸ ⟨hq, c⟩)
  · rename_i c
    rcases List.mem_append.mp h with h | h
    · refine .inr ⟨h, fun z => c ?_⟩
      exact List.any_eq_true.mpr ⟨p, h, decide_eq_true z⟩
    · exact .inl (List.mem_singleton.mp h)
/-- a dict whose values are told by their keys, all plain -/
def DOk (kvs : List (Key × V)) : Prop := ∀ p ∈ kvs, valV kvs p.1 = some p.2 ∧ Plain p.2
theorem DOk.put {kvs : List (Key × V)} (h : DOk kvs) (k : Key) {y : V} (hy : Plain y) : DOk (putK kvs k y) := fun p hp => by
  rw [valV_put]
  rcases mem_put hp with rfl | ⟨h1, h2⟩
  · exact ⟨if_pos rfl, hy⟩
  · rw [if_neg h2]; exact h p h1
structure GOk (C : Addr) (U : Hp) (g : Cg) : Prop where
  att : ∀ v, g.att = some v → ∃ p, PcAt C U v p
  hear : ∀ xs, g.hear = some (some xs) → ∀ x ∈ xs, Plain x
  turn : ∀ t, g.turn = some t → 0 ≤ t
  scale : ∀ t, g.scale = some t → 0 < t ∧ t < 1000
  ord : ∃ xs : List Int, g.order = some (xs.map V.int) ∧ (1 : Int) ∉ xs ∧ xs.length ≤ 3
  pl : ∃ kvs : List (Key × V), g.places = some kvs ∧ DOk kvs
  cb : ∃ xs : List Int, g.cbs = xs.map V.int ∧ xs.length ≤ 2
theorem PcAt.mono {C : Addr} {U U' : Hp} {v : V} (h : ∃ p, PcAt C U v p) (s : Same U U') : ∃ p, PcAt C U' v p := by
  obtain ⟨p, h⟩ := h
  exact ⟨p, h.to s⟩
def sp__law_change (CG CP : Addr) (K : PySem.W.Frag) : Sp := fun vs H Q _ => ∃ (row k : Int) (U : Hp), vs = [.int row, .int k] ∧ Same U H ∧ ∀ v g vo vb U' H', Ext U H U' H' → CgX CG K U' v g vo vb → GOk CP U' g → Q v H'
theorem sc__law_change : FnScope ["row", "k", "order", "places", "number", "attached", "hearing", "turn", "scale", "callbacks", "j"] ["row", "k"] (defScope s__law_change) := ⟨rfl, rfl, rfl, by decide +kernel, rfl, by decide +kernel, by decide +kernel⟩
def ordOf (i : Nat) : List Int := match i with
  | 0 => [7]
  | 1 => [7, 8]
  | 2 => [8, 7]
  | _ => [9, 7, 8]
theorem ok__law_change (T : Txt K mg A) : FnOk P w K mg base CX0 4 A.f_law_change A.d_law_change ["row", "k"] (sp__law_change A.CChange A.CPicture K) := by
  refine T.F_law_change.ok sc__law_change (fun vs H Q E h => ?_) (fun cdv Ar outer st H vs Q E hr h => ?_)
  · obtain ⟨_, _, _, rfl, _⟩ := h
    rfl
  · obtain ⟨row, k, U, rfl, sU, q⟩ := h
    refine ⟨_, (C8.pss_cut (ps_set (i := 2) sc__law_change.nd rfl (Or.inl rfl) (pe_ix (r := rIxT K) ix_tup (pe_tup (pa_cons (pe_lst (pa_cons pe_int pa_nil)) (pa_cons (pe_lst (pa_cons pe_int (pa_cons pe_int pa_nil))) (pa_cons (pe_lst (pa_cons pe_int (pa_cons pe_int pa_nil))) (pa_cons (pe_lst (pa_cons pe_int (pa_cons pe_int (pa_cons pe_int pa_nil)))) pa_nil))))) (pe_op op_mod (pe_callTy call_int1 (by rfl) T.int (by decide +kernel) (pa_cons (pv 0) pa_nil)) pe_int) (fun _ _ => rfl)))
      (pss_cons (ps_set (i := 3) sc__law_change.nd rfl (Or.inl rfl) pe_dnewK)
      (C8.pss_cut (ps_for PassesOwn.never rfl (pi_list (pv 2)) (pg_name (i := 4) sc__law_change.nd rfl (Or.inl rfl))
      (pss_one (ps_if (pt_cmpR op_ne (pv 4) pe_int (nomark _))
      (pss_one (ps_dput (hu_of hr) (pv 3) (pv 4) (pe_tup (pa_cons (pe_op op_sub (pe_op op_mod (pe_callTy call_int1 (by rfl) T.int (by decide +kernel) (pa_cons (pe_op op_fdiv (pv 0) pe_int) pa_nil)) pe_int) pe_int) (pa_cons (pe_op op_sub (pe_op op_mod (pe_callTy call_int1 (by rfl) T.int (by decide +kernel) (pa_cons (pe_op op_fdiv (pv 0) pe_int) pa_nil)) pe_int) pe_int) pa_nil))) rfl))
      pss_nil)))
      (pss_cons (ps_set (i := 5) sc__law_change.nd rfl (Or.inl rfl) (pe_tup (pa_cons pe_bl (pa_cons pe_non pa_nil))))
      (C8.pss_cut (ps_if (pt_cmpR op_eq (pe_op op_mod (pe_callTy call_int1 (by rfl) T.int (by decide +kernel) (pa_cons (pe_op op_fdiv (pv 0) pe_int) pa_nil)) pe_int) pe_int (nomark _))
      (pss_cons (ps_set (i := 5) sc__law_change.nd rfl (Or.inl rfl) (pe_tup (pa_cons pe_bl (pa_cons pe_non pa_nil))))
      (pss_one (ps_if (pt_cmpR op_gt (pe_op op_mod (pe_callTy call_int1 (by rfl) T.int (by decide +kernel) (pa_cons (pe_op op_fdiv (pv 0) pe_int) pa_nil)) pe_int) pe_int (nomark _))
      (pss_one (ps_set (i := 5) sc__law_change.nd rfl (Or.inl rfl) (pe_tup (pa_cons pe_bl (pa_cons (pe_call (ok_clear_picture T) (hr.mono (by decide)) rfl T.gclear_picture T.kclear_picture T.bclear_picture .nil pass0 (pa_cons (pe_op op_add pe_int (pe_op op_mod (pe_callTy call_int1 (by rfl) T.int (by decide +kernel) (pa_cons (pe_op op_fdiv (pv 0) pe_int) pa_nil)) pe_int)) (pa_cons (pe_op op_add pe_int (pe_op op_mod (pe_callTy call_int1 (by rfl) T.int (by decide +kernel) (pa_cons (pe_op op_fdiv (pv 0) pe_int) pa_nil)) pe_int)) pa_nil))) pa_nil)))))
      pss_nil)))
      pss_nil)
      (pss_cons (ps_set (i := 6) sc__law_change.nd rfl (Or.inl rfl) (pe_tup (pa_cons pe_bl (pa_cons pe_non pa_nil))))
      (C8.pss_cut (ps_if (pt_cmpR op_eq (pe_op op_mod (pe_callTy call_int1 (by rfl) T.int (by decide +kernel) (pa_cons (pe_op op_fdiv (pv 0) pe_int) pa_nil)) pe_int) pe_int (nomark _))
      (pss_cons (ps_set (i := 6) sc__law_change.nd rfl (Or.inl rfl) (pe_tup (pa_cons pe_bl (pa_cons pe_non pa_nil))))
      (pss_one (ps_if (pt_cmpR op_eq (pe_op op_mod (pe_callTy call_int1 (by rfl) T.int (by decide +kernel) (pa_cons (pe_op op_fdiv (pv 0) pe_int) pa_nil)) pe_int) pe_int (nomark _))
      (pss_one (ps_set (i := 6) sc__law_change.nd rfl (Or.inl rfl) (pe_tup (pa_cons pe_bl (pa_cons (pe_lst (pa_cons (pe_tup (pa_cons (pv 1) (pa_cons (pe_op op_add (pv 1) pe_int) (pa_cons (pe_tup (pa_cons (pe_tup (pa_cons pe_int (pa_cons (pe_op op_add pe_int (pe_op op_mod (pe_callTy call_int1 (by rfl) T.int (by decide +kernel) (pa_cons (pe_op op_fdiv (pv 0) pe_int) pa_nil)) pe_int)) pa_nil))) pa_nil)) pa_nil)))) pa_nil)) pa_nil)))))
      pss_nil)))
      pss_nil)
      (pss_cons (ps_set (i := 7) sc__law_change.nd rfl (Or.inl rfl) pe_non)
      (C8.pss_cut (ps_if (pt_cmpR op_eq (pe_op op_mod (pe_callTy call_int1 (by rfl) T.int (by decide +kernel) (pa_cons (pe_op op_fdiv (pv 0) pe_int) pa_nil)) pe_int) pe_int (nomark _))
      (pss_one (ps_set (i := 7) sc__law_change.nd rfl (Or.inl rfl) (pe_op op_mod (pe_callTy call_int1 (by rfl) T.int (by decide +kernel) (pa_cons (pe_op op_fdiv (pv 0) pe_int) pa_nil)) pe_int)))
      pss_nil)
      (pss_cons (ps_set (i := 8) sc__law_change.nd rfl (Or.inl rfl) pe_non)
      (C8.pss_cut (ps_if (pt_cmpR op_eq (pe_op op_mod (pe_callTy call_int1 (by rfl) T.int (by decide +kernel) (pa_cons (pe_op op_fdiv (pv 0) pe_int) pa_nil)) pe_int) pe_int (nomark _))
      (pss_one (ps_set (i := 8) sc__law_change.nd rfl (Or.inl rfl) (pe_op op_add pe_int (pe_op op_mod (pe_callTy call_int1 (by rfl) T.int (by decide +kernel) (pa_cons (pe_op op_fdiv (pv 0) pe_int) pa_nil)) pe_int))))
      pss_nil)
      (pss_cons (ps_setLc (i := 9) (own := [("j", 10)]) (g := (gName 10)) (tt := tYes) rfl sc__law_change.nd rfl rfl (sw_true rfl rfl rfl (by decide +kernel)) (pi_range1 (by rfl) T.range (pa_cons (pe_op op_mod (pe_callTy call_int1 (by rfl) T.int (by decide +kernel) (pa_cons (pe_op op_fdiv (pv 0) pe_int) pa_nil)) pe_int) pa_nil)) (blkOk_by (own := [("j", 10)]) (N := ["row", "k", "order", "places", "number", "attached", "hearing", "turn", "scale", "callbacks", "j"]) (sc := defScope s__law_change) (by decide +kernel)) (fun _ _ _ _ _ => (pg_name (i := 10) sc__law_change.nd rfl (Or.inl rfl))) (fun _ _ _ _ _ => pts_nil) (fun _ _ _ _ _ => by exact (pe_op op_add (pe_op op_mul pe_int (pv 1)) (pv 10))))
      (pss_one (ps_ret (pe_make T.MChange (ok_Change___init__ T) (hr.mono (by decide)) rfl T.gChange T.bChange___init__ .nil pass0 (pa_cons (pv 5) (pa_cons (pv 6) (pa_cons (pv 7) (pa_cons (pv 8) (pa_cons (pv 2) (pa_cons (pv 3) (pa_cons (pv 9) pa_nil)))))))))))))))))))))), ?_⟩
    -- the order
    refine ⟨fun σ' H' => ∃ (l : Addr) (xs : List Int) (U' : Hp), σ' = [some (.int row), some (.int k), some (.ref l), none, none, none, none, none, none, none, none] ∧ Ext U H U' H' ∧ U' l = some (.lst (xs.map V.int)) ∧ (1 : Int) ∉ xs ∧ xs.length ≤ 3, ?_, ?_⟩
    · walk_at "go"
      rename_i p1 h1 p2 h2 p3 h3 p4 h4 p5 h5
      have x1 := Ext.new (o := .lst [.int 7]) sU h1
      have x2 := x1.trans (Ext.new (o := .lst [.int 7, .int 8]) x1.vh h2)
      have x3 := x2.trans (Ext.new (o := .lst [.int 8, .int 7]) x2.vh h3)
      have x4 := x3.trans (Ext.new (o := .lst [.int 9, .int 7, .int 8]) x3.vh h4)
      have x5 := x4.trans (Ext.new (o := .tup [.ref p1, .ref p2, .ref p3, .ref p4]) x4.vh h5)
      have t2 := same_upd (o := .lst [.int 7, .int 8]) (none_of_same x1.vh h2)
      have t3 := same_upd (o := .lst [.int 8, .int 7]) (none_of_same x2.vh h3)
      have t4 := same_upd (o := .lst [.int 9, .int 7, .int 8]) (none_of_same x3.vh h4)
      have t5 := same_upd (o := .tup [.ref p1, .ref p2, .ref p3, .ref p4]) (none_of_same x4.vh h5)
      obtain ⟨i, ei, hi⟩ : ∃ i : Nat, row % 4 = i ∧ i < 4 := ⟨(row % 4).toNat, by omega, by omega⟩
      rcases (by omega : i = 0 ∨ i = 1 ∨ i = 2 ∨ i = 3) with rfl | rfl | rfl | rfl
      · exact ⟨p5, _, _, .ref p1, rfl, rfl, SqT.of upd_same, at_of (j := 0) ei rfl, p1, [7], _, rfl, x5, t5 _ _ (t4 _ _ (t3 _ _ (t2 _ _ upd_same))), by decide, by decide⟩
      · exact ⟨p5, _, _, .ref p2, rfl, rfl, SqT.of upd_same, at_of (j := 1) ei rfl, p2, [7, 8], _, rfl, x5, t5 _ _ (t4 _ _ (t3 _ _ upd_same)), by decide, by decide⟩
      · exact ⟨p5, _, _, .ref p3, rfl, rfl, SqT.of upd_same, at_of (j := 2) ei rfl, p3, [8, 7], _, rfl, x5, t5 _ _ (t4 _ _ upd_same), by decide, by decide⟩
      · exact ⟨p5, _, _, .ref p4, rfl, rfl, SqT.of upd_same, at_of (j := 3) ei rfl, p4, [9, 7, 8], _, rfl, x5, t5 _ _ upd_same, by decide, by decide⟩
    rintro σ' H1 ⟨l, xs, U1, rfl, x1, el, hno, hxl⟩
    -- the places
    intro d hd
    have s1 := same_upd (o := .dK []) hd
    have hUd : U1 d = none := none_of_same x1.vh hd
    refine ⟨fun σ' H' => ∃ (v4 : Option V) (U' : Hp) (kvs : List (Key × V)), σ' = [some (.int row), some (.int k), some (.ref l), some (.ref d), v4, none, none, none, none, none, none] ∧ Ext U1 H1 U' H' ∧ U' d = some (.dK kvs) ∧ DOk kvs, ?_, ?_⟩
    · refine ⟨_, rfl, l, rfl, ⟨_, SqL.of (s1 _ _ (x1.vh _ _ el))⟩, for_list (K := K) (a := l) (xs := xs.map V.int) (fun i σ H' => ∃ (v4 : Option V) (V' : Hp) (kvs : List (Key × V)), σ = [some (.int row), some (.int k), some (.ref l), some (.ref d), v4, none, none, none, none, none, none] ∧ Ext U1 H1 V' H' ∧ V' d = none ∧ H' d = some (.dK kvs) ∧ DOk kvs ∧ kvs.length ≤ i) ?_ ?_ ?_ ?_⟩
      · exact ⟨none, U1, [], rfl, Ext.skip x1.vh hd, hUd, upd_same, fun p hp => (by cases hp), Nat.zero_le _⟩
      · rintro i σ H' _ ⟨_, V', kvs, _, x, _⟩
        exact SqL.of (x.vh _ _ (x.vv _ _ el))
      · rintro i x σ H3 hx ⟨v4, V3, kvs, rfl, x3, hV3, e3, dk, hl⟩
        obtain ⟨n, hn, rfl⟩ := Option.map_eq_some_iff.mp (by rw [← List.getElem?_map]; exact hx)
        have hi : i < xs.length := (List.getElem?_eq_some_iff.mp hn).1
        walk_at "go"
        refine iteNe (fun c => ?_) (fun c => ?_)
        · walk_at "go"
          rename_i p hp
          have xn := Ext.new (o := .tup [.int (row / 4 % 9 - 4), .int (row / 36 % 9 - 4)]) x3.vh hp
          have hV4 := xn.keepOut hV3 (by rw [e3]; exact fun z => by cases z)
          have e4 := xn.hh _ _ e3
          refine ⟨d, _, rfl, DPut.k (k := Sum.inl n) e4 (lt_line (by omega)), ?_⟩
          exact ⟨_, _, _, rfl, (x3.trans xn).poke hd hV4, hV4, upd_same, dk.put _ (.inr ⟨p, rfl⟩), by have := length_putK kvs (Sum.inl n) (.ref p); omega⟩
        · exact ⟨_, V3, kvs, rfl, x3, hV3, e3, dk, by omega⟩
      · rintro σ H3 ⟨v4, V3, kvs, rfl, x3, hV3, e3, dk, hl⟩
        exact ⟨v4, _, kvs, rfl, x3.take hd hV3 e3, upd_same, dk⟩
    rintro σ' H2 ⟨v4, U2, kvs, rfl, x2, ed, dk⟩
    -- what is attached
    refine ⟨len_line (by show 2 ≤ 100000; decide), fun p6 h6 => ?_⟩
    have x6 := Ext.new (o := .tup [.bl false, .non]) x2.vh h6
    refine ⟨fun σ' H' => ∃ (pa : Addr) (at_ : Option V) (U' : Hp), σ' = [some (.int row), some (.int k), some (.ref l), some (.ref d), v4, some (.ref pa), none, none, none, none, none] ∧ Ext U2 H2 U' H' ∧ AttAt K U' (.ref pa) at_ ∧ (∀ v, at_ = some v → ∃ p, PcAt A.CPicture U' v p), ?_, ?_⟩
    · walk_at "go"
      refine iteEq (fun c => ?_) (fun c => ?_)
      · refine ⟨len_line (by show 2 ≤ 100000; decide), fun p7 h7 => ?_⟩
        have x7 := x6.trans (Ext.new (o := .tup [.bl true, .non]) x6.vh h7)
        walk_at "go"
        refine iteP (fun c2 => ?_) (fun c2 => ?_)
        · walk_at "go"
          obtain ⟨wd, hwd, hw8⟩ : ∃ n : Nat, 1 + row / 30 % 8 = n ∧ n ≤ 128 := ⟨(1 + row / 30 % 8).toNat, by omega, by omega⟩
          obtain ⟨ht, hht, hh8⟩ : ∃ n : Nat, 1 + row / 240 % 8 = n ∧ n ≤ 128 := ⟨(1 + row / 240 % 8).toNat, by omega, by omega⟩
          refine ⟨wd, ht, ?_, hw8, hh8, fun op lp Hp' N => ?_⟩
          · show [V.int (1 + row / 30 % 8), V.int (1 + row / 240 % 8)] = [V.int (wd : Int), V.int (ht : Int)]
            rw [hwd, hht]
          obtain ⟨dxp, eop⟩ := N.at_.ob
          have x8 := x7.trans (Ext.put x7.vh N.same N.no eop)
          refine ⟨len_line (by show 2 ≤ 100000; decide), fun p9 h9 => ?_⟩
          have x9 := x8.trans (Ext.new (o := .tup [.bl true, .ref op]) x8.vh h9)
          have t9 := same_upd (o := .tup [.bl true, .ref op]) (none_of_same x8.vh h9)
          exact ⟨p9, some (.ref op), _, rfl, x9, ⟨p9, rfl, SqT.of upd_same⟩, fun v e => by cases e; exact ⟨some (wd, ht), op, dxp, lp, rfl, t9 _ _ upd_same⟩⟩
        · exact ⟨p7, some .non, _, rfl, x7, ⟨p7, rfl, SqT.of upd_same⟩, fun v e => by cases e; exact ⟨none, rfl⟩⟩
      · exact ⟨p6, none, _, rfl, x6, ⟨p6, rfl, SqT.of upd_same⟩, fun v e => by cases e⟩
    rintro σ' H3 ⟨pa, at_, U3, rfl, x3, ata, atp⟩
    -- where it hears
    refine ⟨len_line (by show 2 ≤ 100000; decide), fun q6 g6 => ?_⟩
    have y6 := Ext.new (o := .tup [.bl false, .non]) x3.vh g6
    refine ⟨fun σ' H' => ∃ (ph : Addr) (he : Option (Option (List V))) (U' : Hp), σ' = [some (.int row), some (.int k), some (.ref l), some (.ref d), v4, some (.ref pa), some (.ref ph), none, none, none, none] ∧ Ext U3 H3 U' H' ∧ HerAt K U' (.ref ph) he ∧ (∀ xs, he = some (some xs) → ∀ x ∈ xs, Plain x), ?_, ?_⟩
    · walk_at "go"
      refine iteEq (fun c => ?_) (fun c => ?_)
      · refine ⟨len_line (by show 2 ≤ 100000; decide), fun q7 g7 => ?_⟩
        have y7 := y6.trans (Ext.new (o := .tup [.bl true, .non]) y6.vh g7)
        walk_at "go"
        refine iteEq (fun c2 => ?_) (fun c2 => ?_)
        · walk_at "go"
          rename_i r1 m1 r2 m2 r3 m3 r4 m4 r5 m5
          have z1 := y7.trans (Ext.new (o := .tup [.int 0, .int (1 + row / 28 % 5)]) y7.vh m1)
          have z2 := z1.trans (Ext.new (o := .tup [.ref r1]) z1.vh m2)
          have z3 := z2.trans (Ext.new (o := .tup [.int k, .int (k + 1), .ref r2]) z2.vh m3)
          have z4 := z3.trans (Ext.new (o := .lst [.ref r3]) z3.vh m4)
          have z5 := z4.trans (Ext.new (o := .tup [.bl true, .ref r4]) z4.vh m5)
          have w5 := same_upd (o := .tup [.bl true, .ref r4]) (none_of_same z4.vh m5)
          exact ⟨r5, some (some [.ref r3]), _, rfl, z5, ⟨r5, .ref r4, rfl, SqT.of upd_same, ⟨r4, rfl, w5 _ _ upd_same⟩⟩, fun xs e x hx => by
            cases e
            rw [List.mem_singleton.mp hx]
            exact .inr ⟨r3, rfl⟩⟩
        · exact ⟨q7, some none, _, rfl, y7, ⟨q7, .non, rfl, SqT.of upd_same, rfl⟩, fun xs e => by cases e⟩
      · exact ⟨q6, none, _, rfl, y6, ⟨q6, .non, rfl, SqT.of upd_same, rfl⟩, fun xs e => by cases e⟩
    rintro σ' H4 ⟨ph, he, U4, rfl, x4, hea, hep⟩
    refine ⟨fun σ' H' => ∃ (tn : Option Int), σ' = [some (.int row), some (.int k), some (.ref l), some (.ref d), v4, some (.ref pa), some (.ref ph), some (oI tn), none, none, none] ∧ H' = H4 ∧ (∀ t, tn = some t → 0 ≤ t), ?_, ?_⟩
    · walk_at "go"
      refine iteEq (fun c => ?_) (fun c => ?_)
      · walk_at "go"
        exact ⟨some (row / 22 % 8), rfl, rfl, fun t e => by cases e; omega⟩
      · exact ⟨none, rfl, rfl, fun t e => by cases e⟩
    rintro σ' H' ⟨tn, rfl, rfl, htn⟩
    refine ⟨fun σ' H'' => ∃ (sc : Option Int), σ' = [some (.int row), some (.int k), some (.ref l), some (.ref d), v4, some (.ref pa), some (.ref ph), some (oI tn), some (oI sc), none, none] ∧ H'' = H' ∧ (∀ t, sc = some t → 0 < t ∧ t < 1000), ?_, ?_⟩
    · walk_at "go"
      refine iteEq (fun c => ?_) (fun c => ?_)
      · walk_at "go"
        exact ⟨some (1 + row / 26 % 4), rfl, rfl, fun t e => by cases e; omega⟩
      · exact ⟨none, rfl, rfl, fun t e => by cases e⟩
    rintro σ' H'' ⟨sc, rfl, rfl, hsc⟩
    walk_at "go"
    have hm : 0 ≤ row / 17 % 3 ∧ row / 17 % 3 < 3 := by omega
    refine ⟨by omega, by omega, fun D hD => ?_⟩
    refine lc_dp (walk_range (lo := 0) (n := (row / 17 % 3).toNat)) (K := K) (V0 := U4) (H0 := H'') (fun j => some (PyData.int (100 * k + (0 + (j : Int))))) [some (.int row), some (.int k), some (.ref l), some (.ref d), v4, some (.ref pa), some (.ref ph), some (oI tn), some (oI sc), none, none] rfl x4.vh hD (by omega) (fun _ _ => trivial) (fun i x H H' y => y.1) ?_ ?_
    · rintro j x U5 H5 hj xx ⟨_, rfl⟩ Qy Qn hy _
      exact ⟨rfl, _, rfl, _, _, rfl, rfl, (Or.inl ⟨by decide, by decide⟩ : CMul _ _), _, rfl, _, _, rfl, rfl, hy _ _ _ _ rfl (Ext.refl xx.vh) (.int _)⟩
    · rintro U5 H5 zs x5 hDU dl _
      rw [fm_some, show ((List.range (row / 17 % 3).toNat).map fun j : Nat => PyData.int (100 * k + (0 + (j : Int)))) = ((List.range (row / 17 % 3).toNat).map fun j : Nat => 100 * k + (0 + (j : Int))).map PyData.int from by rw [List.map_map]; rfl] at dl
      have e := dp_intsV dl
      subst e
      have hcl : ((List.range (row / 17 % 3).toNat).map fun j : Nat => 100 * k + (0 + (j : Int))).length ≤ 2 := by rw [List.length_map, List.length_range]; omega
      generalize ((List.range (row / 17 % 3).toNat).map fun j : Nat => 100 * k + (0 + (j : Int))) = cbs at hDU hcl
      have v45 := x5.vv
      have v35 := x4.vv.trans v45
      have v25 := x3.vv.trans v35
      have v15 := x2.vv.trans v25
      have xa := (((x1.trans x2).trans x3).trans x4).trans x5
      refine ⟨_, rfl, _, rfl, _, rfl, _, rfl, _, rfl, _, rfl, _, rfl, ?_⟩
      intro x dx nx ndx nex
      refine ⟨x, dx, _, _, _, _, _, _, _, rfl, upd_same, fun H6 h6 b6 => ⟨rfl, ?_⟩⟩
      have s6 := made_same nx ndx b6
      have x6 := xa.trans (Ext.put xa.vh s6 nx h6)
      have t6 := same_upd (o := .ins A.CChange dx (gF (.ref pa) (.ref ph) (oI tn) (oI sc) (.ref l) (.ref d) (.ref D))) (none_of_same xa.vh nx)
      refine q (.ref x) ⟨at_, he, tn, sc, some (xs.map V.int), some kvs, cbs.map V.int⟩ (.ref l) (.ref D) _ H6 x6 ⟨⟨x, dx, _, _, _, rfl, upd_same, ata.to (v35.trans t6), hea.to (v45.trans t6), ⟨d, rfl, t6 _ _ (v25 _ _ ed)⟩⟩, ⟨l, rfl, t6 _ _ (v15 _ _ el)⟩, ⟨D, rfl, t6 _ _ hDU⟩⟩ ⟨fun v e => PcAt.mono (atp v e) (v35.trans t6), hep, htn, hsc, ⟨xs, rfl, hno, hxl⟩, ⟨kvs, rfl, dk⟩, ⟨cbs, rfl, hcl⟩⟩
/-! ### what the law holds alike -/
structure COk (C : Addr) (U : Hp) (c : Cn) : Prop where
  pic : ∃ p, PcAt C U c.pic p
  sc : 0 < c.scale ∧ c.scale < 1000
  hr : ∀ xs, c.hears = some xs → ∀ x ∈ xs, Plain x
  ord : ∃ xs : List Int, c.order = xs.map V.int
  pl : DOk c.places
theorem COk.to {C : Addr} {U U' : Hp} {c : Cn} (h : COk C U c) (s : Same U U') : COk C U' c := ⟨PcAt.mono h.pic s, h.sc, h.hr, h.ord, h.pl⟩
theorem GOk.to {C : Addr} {U U' : Hp} {g : Cg} (h : GOk C U g) (s : Same U U') : GOk C U' g := ⟨fun v e => PcAt.mono (h.att v e) s, h.hear, h.turn, h.scale, h.ord, h.pl, h.cb⟩
theorem COk.changed {C : Addr} {U : Hp} {c : Cn} {g : Cg} (h : COk C U c) (k : GOk C U g) : COk C U (changed c g) := by
  obtain ⟨xs, eo, _⟩ := k.ord
  obtain ⟨kvs, ep, dk⟩ := k.pl
  refine ⟨?_, ?_, fun xs e => ?_, ⟨xs, ?_⟩, ?_⟩
  · show ∃ p, PcAt C U (g.att.getD c.pic) p
    cases e : g.att with
    | none => exact h.pic
    | some v => exact k.att v e
  · show 0 < g.scale.getD c.scale ∧ g.scale.getD c.scale < 1000
    cases e : g.scale with
    | none => exact h.sc
    | some v => exact k.scale v e
  · have e' : g.hear.getD c.hears = some xs := e
    cases eh : g.hear with
    | none => rw [eh] at e'; exact h.hr xs e'
    | some v => rw [eh] at e'; exact k.hear xs (by rw [eh]; exact congrArg some e')
  · show g.order.getD c.order = _
    rw [eo]; rfl
  · show DOk (g.places.getD c.places)
    rw [ep]; exact dk
theorem GOk.over {C : Addr} {U : Hp} {f s : Cg} (h : GOk C U f) (k : GOk C U s) : (∀ v, (over f s).att = some v → ∃ p, PcAt C U v p) ∧ (∀ xs, (over f s).hear = some (some xs) → ∀ x ∈ xs, Plain x) := by
  refine ⟨fun v e => ?_, fun xs e => ?_⟩
  · have e' : s.att.or f.att = some v := e
    cases es : s.att with
    | none => rw [es] at e'; exact h.att v e'
    | some w => rw [es] at e'; exact k.att v (by rw [es]; exact e')
  · have e' : s.hear.or f.hear = some (some xs) := e
    cases es : s.hear with
    | none => rw [es] at e'; exact h.hear xs e'
    | some w => rw [es] at e'; exact k.hear xs (by rw [es]; exact e')
theorem changed_over {C : Addr} {U : Hp} (c : Cn) {f s : Cg} : changed c (over f s) = changed (changed c f) s := by
  obtain ⟨pic, turn, scale, hears, order, places⟩ := c
  obtain ⟨a1, h1, t1, s1, o1, p1, b1⟩ := f
  obtain ⟨a2, h2, t2, s2, o2, p2, b2⟩ := s
  show (⟨_, _, _, _, _, _⟩ : Cn) = ⟨_, _, _, _, _, _⟩
  congr 1
  · cases a2 <;> rfl
  · cases t2 <;> rfl
  · cases s2 <;> rfl
  · cases h2 <;> rfl
  · cases o2 <;> rfl
  · cases p2 <;> rfl
theorem changed_alone (c : Cn) (s : Cg) : changed c (over cg0 s) = changed c s := by
  obtain ⟨a2, h2, t2, s2, o2, p2, b2⟩ := s
  show (⟨_, _, _, _, _, _⟩ : Cn) = ⟨_, _, _, _, _, _⟩
  congr 1
  · cases a2 <;> rfl
  · cases t2 <;> rfl
  · cases s2 <;> rfl
  · cases h2 <;> rfl
  · cases o2 <;> rfl
  · cases p2 <;> rfl
theorem Plain.eqv {K : PySem.W.Frag} {H : Hp} {x : V} (h : Plain x) (n : Nat) : EqV K H (n + 1) x x := by
  rcases h with h | ⟨a, rfl⟩
  · exact .inl ⟨rfl, h⟩
  · exact .inr (.inl ⟨a, rfl, rfl⟩)
theorem paired_self {E : V → V → Prop} : ∀ {xs : List V}, (∀ x ∈ xs, E x x) → Paired E xs xs
  | [], _ => .nil
  | x :: xs, h => .cons (h x List.mem_cons_self) (paired_self fun y hy => h y (List.mem_cons_of_mem _ hy))
theorem eqv_o {K : PySem.W.Frag} {H : Hp} {v w : V} : ∀ {o : Option (List V)}, OAt H v o → OAt H w o → (∀ xs, o = some xs → ∀ x ∈ xs, Plain x) → EqV K H 2 v w
  | none, h1, h2, _ => by
    obtain rfl : v = .non := h1
    obtain rfl : w = .non := h2
    exact .inl ⟨rfl, rfl⟩
  | some xs, ⟨a, e1, h1⟩, ⟨b, e2, h2⟩, hp => by
    subst e1; subst e2
    exact .inr (.inr (.inl ⟨a, b, xs, xs, rfl, rfl, SqL.of h1, SqL.of h2, paired_self fun x hx => (hp xs rfl x hx).eqv 0⟩))
def sp__law_state (CC : Addr) (K : PySem.W.Frag) : Sp := fun vs H Q _ => ∃ (o dx : Addr) (a : V) (t s : Int) (h od pl : V), vs = [.ref o] ∧ H o = some (.ins CC dx (cF a t s h od pl)) ∧ ∀ p H', Same H H' → SqT K H' p [a, .int t, .int s, h, od, pl] → Q (.ref p) H'
theorem sc__law_state : FnScope ["content"] ["content"] (defScope s__law_state) := ⟨rfl, rfl, rfl, by decide +kernel, rfl, by decide +kernel, by decide +kernel⟩
theorem ok__law_state (T : Txt K mg A) : FnOk P w K mg base CX0 1 A.f_law_state A.d_law_state ["content"] (sp__law_state A.CContent K) := by
  refine T.F_law_state.ok sc__law_state (fun vs H Q E h => ?_) (fun cdv Ar outer st H vs Q E hr h => ?_)
  · obtain ⟨_, _, _, _, _, _, _, _, rfl, _⟩ := h
    rfl
  · obtain ⟨o, dx, a, t, s, h, od, pl, rfl, e, q⟩ := h
    refine ⟨_, (pss_one (ps_ret (pe_tup (pa_cons (pe_fld (pv 0) rfl) (pa_cons (pe_fld (pv 0) rfl) (pa_cons (pe_fld (pv 0) rfl) (pa_cons (pe_fld (pv 0) rfl) (pa_cons (pe_fld (pv 0) rfl) (pa_cons (pe_fld (pv 0) rfl) pa_nil))))))))), ?_⟩
    refine ⟨_, rfl, o, _, dx, _, _, rfl, e, T.clContent, T.nContent_picture, cF_p _ _ _ _ _ _, _, rfl, o, _, dx, _, _, rfl, e, T.clContent, T.nContent_turn, cF_t _ _ _ _ _ _, _, rfl, o, _, dx, _, _, rfl, e, T.clContent, T.nContent_scale, cF_s _ _ _ _ _ _, ?_⟩
    refine ⟨_, rfl, o, _, dx, _, _, rfl, e, T.clContent, T.nContent_hears, cF_h _ _ _ _ _ _, _, rfl, o, _, dx, _, _, rfl, e, T.clContent, T.nContent_order, cF_o _ _ _ _ _ _, _, rfl, o, _, dx, _, _, rfl, e, T.clContent, T.nContent_places, cF_d _ _ _ _ _ _, len_line (by show 6 ≤ 100000; decide), fun p hp => ?_⟩
    exact q p _ (same_upd hp) (SqT.of upd_same)
def sp__law_alike (CC CP : Addr) (K : PySem.W.Frag) : Sp := fun vs H Q _ => ∃ (v1 v2 : V) (c : Cn), vs = [v1, v2] ∧ CnAt CC H v1 c ∧ CnAt CC H v2 c ∧ COk CP H c ∧ ∀ H', Same H H' → Q (.bl true) H'
theorem sc__law_alike : FnScope ["one", "two"] ["one", "two"] (defScope s__law_alike) := ⟨rfl, rfl, rfl, by decide +kernel, rfl, by decide +kernel, by decide +kernel⟩
theorem ok__law_alike (T : Txt K mg A) : FnOk P w K mg base CX0 2 A.f_law_alike A.d_law_alike ["one", "two"] (sp__law_alike A.CContent A.CPicture K) := by
  refine T.F_law_alike.ok sc__law_alike (fun vs H Q E h => ?_) (fun cdv Ar outer st H vs Q E hr h => ?_)
  · obtain ⟨_, _, _, rfl, _⟩ := h
    rfl
  · obtain ⟨v1, v2, c, rfl, h1, h2, hk, q⟩ := h
    obtain ⟨o1, x1, a1, b1, d1, rfl, e1, ha1, hb1, hd1⟩ := h1
    obtain ⟨o2, x2, a2, b2, d2, rfl, e2, ha2, hb2, hd2⟩ := h2
    refine ⟨_, (pss_cons (ps_if (pt_cmpR op_ne (pe_cmpR op_isN (pe_fld (pv 0) rfl) pe_non (nomark _)) (pe_cmpR op_isN (pe_fld (pv 1) rfl) pe_non (nomark _)) (nomark _))
      (pss_one (ps_ret pe_bl))
      pss_nil)
      (C8.pss_cut (ps_if (pt_cmpR op_notN (pe_fld (pv 0) rfl) pe_non (nomark _))
      (pss_one (ps_if (pt_cmpR (op_neD hr.units) (pe_tup (pa_cons (pe_fld (pe_fld (pv 0) rfl) rfl) (pa_cons (pe_fld (pe_fld (pv 0) rfl) rfl) pa_nil))) (pe_tup (pa_cons (pe_fld (pe_fld (pv 1) rfl) rfl) (pa_cons (pe_fld (pe_fld (pv 1) rfl) rfl) pa_nil))) (nomark _))
      (pss_one (ps_ret pe_bl))
      pss_nil))
      pss_nil)
      (pss_one (ps_ret (pe_cmpR (op_eqTup hr.units) (pe_slice (r := rSlT K) sl_tup (pe_call (ok__law_state T) (hr.mono (by decide)) rfl T.g_law_state T.k_law_state T.b_law_state .nil pass0 (pa_cons (pv 0) pa_nil)) (po_some pe_int) po_none) (pe_slice (r := rSlT K) sl_tup (pe_call (ok__law_state T) (hr.mono (by decide)) rfl T.g_law_state T.k_law_state T.b_law_state .nil pass0 (pa_cons (pv 1) pa_nil)) (po_some pe_int) po_none) (nomark _)))))), ?_⟩
    refine ⟨_, rfl, o1, _, x1, _, _, rfl, e1, T.clContent, T.nContent_picture, cF_p _ _ _ _ _ _, rfl, _, rfl, o2, _, x2, _, _, rfl, e2, T.clContent, T.nContent_picture, cF_p _ _ _ _ _ _, rfl, rfl, _, rfl, if_f (by rw [decide_eq_true rfl]; rfl) ?_⟩
    refine ⟨fun σ' H' => σ' = [some (.ref o1), some (.ref o2)] ∧ Same H H', ?_, ?_⟩
    · refine ⟨_, rfl, o1, _, x1, _, _, rfl, e1, T.clContent, T.nContent_picture, cF_p _ _ _ _ _ _, rfl, _, rfl, ?_⟩
      obtain ⟨p, hp⟩ := hk.pic
      cases p with
      | none =>
        have hn : c.pic = .non := hp
        exact if_f (by rw [decide_eq_true hn]; rfl) ⟨rfl, Same.refl H⟩
      | some p =>
        obtain ⟨op, dp, l, ep, ee⟩ := hp
        refine if_t (by rw [decide_eq_false (fun z => by rw [ep] at z; cases z)]; rfl) ?_
        refine ⟨_, rfl, o1, _, x1, _, _, rfl, e1, T.clContent, T.nContent_picture, cF_p _ _ _ _ _ _, op, _, dp, _, _, ep, ee, T.clPicture, T.nPicture_width, pF_w _ _ _, _, rfl, o1, _, x1, _, _, rfl, e1, T.clContent, T.nContent_picture, cF_p _ _ _ _ _ _, op, _, dp, _, _, ep, ee, T.clPicture, T.nPicture_height, pF_h _ _ _, len_line (by show 2 ≤ 100000; decide), fun p1 n1 => ?_⟩
        have t1 := same_upd (o := .tup [.int (p.1 : Int), .int (p.2 : Int)]) n1
        refine ⟨_, rfl, o2, _, x2, _, _, rfl, t1 _ _ e2, T.clContent, T.nContent_picture, cF_p _ _ _ _ _ _, op, _, dp, _, _, ep, t1 _ _ ee, T.clPicture, T.nPicture_width, pF_w _ _ _, _, rfl, o2, _, x2, _, _, rfl, t1 _ _ e2, T.clContent, T.nContent_picture, cF_p _ _ _ _ _ _, op, _, dp, _, _, ep, t1 _ _ ee, T.clPicture, T.nPicture_height, pF_h _ _ _, len_line (by show 2 ≤ 100000; decide), fun p2 n2 => ?_⟩
        have t2 := same_upd (o := .tup [.int (p.1 : Int), .int (p.2 : Int)]) n2
        have shp : Sh 1 (.tuple [.int (p.1 : Int), .int (p.2 : Int)]) := sh_tuple fun d hd => by
          simp only [List.mem_cons, List.not_mem_nil, or_false] at hd
          rcases hd with rfl | rfl <;> exact sh_int _
        refine ⟨_, _, .tup (t2.sqt (SqT.of upd_same)) (.cons (.int _) (.cons (.int _) .nil)), .tup (SqT.of upd_same) (.cons (.int _) (.cons (.int _) .nil)), shp.shaped, shp.shaped, _, rfl, if_f (by rw [shp.self]; rfl) ⟨rfl, t1.trans t2⟩⟩
    rintro σ' H1 ⟨rfl, s1⟩
    refine ⟨_, rfl, o1, x1, _, _, _, _, _, _, rfl, s1 _ _ e1, fun p3 H3 s3 q3 => ?_⟩
    refine ⟨_, rfl, p3, _, rfl, q3, (by have h3 : ¬ (HT.sIx 6 0 (some 1) = 0 ∧ HT.sIx 6 6 none = 6) := (by decide); exact h3), fun p4 n4 => ?_⟩
    have t4 := same_upd (o := .tup (cutV [c.pic, .int c.turn, .int c.scale, a1, b1, d1] (some 1) none)) n4
    have q4 : SqT K (upd H3 p4 (.tup (cutV [c.pic, .int c.turn, .int c.scale, a1, b1, d1] (some 1) none))) p4 [.int c.turn, .int c.scale, a1, b1, d1] := SqT.of upd_same
    have s4 := (s1.trans s3).trans t4
    generalize upd H3 p4 (.tup (cutV [c.pic, .int c.turn, .int c.scale, a1, b1, d1] (some 1) none)) = H4 at t4 q4 s4 ⊢
    refine ⟨_, rfl, o2, x2, _, _, _, _, _, _, rfl, s4 _ _ e2, fun p5 H5 s5 q5 => ?_⟩
    refine ⟨_, rfl, p5, _, rfl, q5, (by have h3 : ¬ (HT.sIx 6 0 (some 1) = 0 ∧ HT.sIx 6 6 none = 6) := (by decide); exact h3), fun p6 n6 => ?_⟩
    have t6 := same_upd (o := .tup (cutV [c.pic, .int c.turn, .int c.scale, a2, b2, d2] (some 1) none)) n6
    have q6 : SqT K (upd H5 p6 (.tup (cutV [c.pic, .int c.turn, .int c.scale, a2, b2, d2] (some 1) none))) p6 [.int c.turn, .int c.scale, a2, b2, d2] := SqT.of upd_same
    have s6 := (s4.trans s5).trans t6
    have q4' := t6.sqt (s5.sqt q4)
    generalize upd H5 p6 (.tup (cutV [c.pic, .int c.turn, .int c.scale, a2, b2, d2] (some 1) none)) = H6 at t6 q6 s6 q4' ⊢
    obtain ⟨ao1, rfl, eo1⟩ := hb1
    obtain ⟨ao2, rfl, eo2⟩ := hb2
    obtain ⟨ad1, rfl, ed1⟩ := hd1
    obtain ⟨ad2, rfl, ed2⟩ := hd2
    obtain ⟨xs, exs⟩ := hk.ord
    have eqo : EqV K H6 2 (.ref ao1) (.ref ao2) := .inr (.inr (.inl ⟨ao1, ao2, _, _, rfl, rfl, SqL.of (s6 _ _ eo1), SqL.of (s6 _ _ eo2), paired_self fun x hx => by
      rw [exs] at hx
      obtain ⟨z, _, rfl⟩ := List.mem_map.mp hx
      exact .inl ⟨rfl, rfl⟩⟩))
    have eqd : EqV K H6 2 (.ref ad1) (.ref ad2) := .inr (.inr (.inr ⟨ad1, ad2, _, _, rfl, rfl, s6 _ _ ed1, s6 _ _ ed2, rfl, fun p hp => ⟨p.2, (hk.pl p hp).1, (hk.pl p hp).2.eqv 0⟩⟩))
    exact ⟨2, by decide, p4, p6, _, _, rfl, rfl, q4', q6, .cons (.inl ⟨rfl, rfl⟩) (.cons (.inl ⟨rfl, rfl⟩) (.cons (eqv_o (ha1.to s6) (ha2.to s6) hk.hr) (.cons eqo (.cons eqd .nil)))), q H6 s6⟩
def sp__law_said (CC CG : Addr) (K : PySem.W.Frag) : Sp := fun vs H Q _ => ∃ (vc vg : V) (c : Cn) (g : Cg) (wo wb : V) (xs : List V) (kvs : List (Key × V)) (U : Hp), vs = [vc, vg] ∧ Same U H ∧ CnAt CC U vc c ∧ CgX CG K U vg g wo wb ∧ g.order = some xs ∧ g.places = some kvs ∧ ∀ v' U' H', Ext U H U' H' → CnAt CC U' v' (changed c g) → Q v' H'
theorem sc__law_said : FnScope ["content", "change", "picture", "hears", "turn", "scale"] ["content", "change"] (defScope s__law_said) := ⟨rfl, rfl, rfl, by decide +kernel, rfl, by decide +kernel, by decide +kernel⟩
theorem ok__law_said (T : Txt K mg A) : FnOk P w K mg base CX0 3 A.f_law_said A.d_law_said ["content", "change"] (sp__law_said A.CContent A.CChange K) := by
  refine T.F_law_said.ok sc__law_said (fun vs H Q E h => ?_) (fun cdv Ar outer st H vs Q E hr h => ?_)
  · obtain ⟨_, _, _, _, _, _, _, _, _, rfl, _⟩ := h
    rfl
  · obtain ⟨vc, vg, c, g, wo, wb, xs, kvs, U, rfl, sU, hc, hg, ho, hp, q⟩ := h
    obtain ⟨oc, dc, ch, co, cd, rfl, e1, c1, c2, c3⟩ := hc
    obtain ⟨og, dgx, ga, gh, gd, rfl, e2, a2, b2, d2⟩ := hg.ex
    obtain ⟨pa, ra, qa⟩ := a2
    obtain ⟨ph, hh, rh, qh, oh⟩ := b2
    have e1' := sU _ _ e1
    have e2' := sU _ _ e2
    have qa' := sU.sqt qa
    have qh' := sU.sqt qh
    refine ⟨_, (pss_cons (ps_set (i := 2) sc__law_said.nd rfl (Or.inl rfl) (pe_fld (pv 0) rfl))
      (C8.pss_cut (ps_if (pt_truth (pe_ix (r := rIxT K) ix_tup (pe_fld (pv 1) rfl) pe_int (fun _ _ => rfl)) (by intro _; rfl))
      (pss_one (ps_set (i := 2) sc__law_said.nd rfl (Or.inl rfl) (pe_ix (r := rIxT K) ix_tup (pe_fld (pv 1) rfl) pe_int (fun _ _ => rfl))))
      pss_nil)
      (pss_cons (ps_set (i := 3) sc__law_said.nd rfl (Or.inl rfl) (pe_fld (pv 0) rfl))
      (C8.pss_cut (ps_if (pt_truth (pe_ix (r := rIxT K) ix_tup (pe_fld (pv 1) rfl) pe_int (fun _ _ => rfl)) (by intro _; rfl))
      (pss_one (ps_set (i := 3) sc__law_said.nd rfl (Or.inl rfl) (pe_ix (r := rIxT K) ix_tup (pe_fld (pv 1) rfl) pe_int (fun _ _ => rfl))))
      pss_nil)
      (pss_cons (ps_set (i := 4) sc__law_said.nd rfl (Or.inl rfl) (pe_fld (pv 0) rfl))
      (C8.pss_cut (ps_if (pt_cmpR op_notN (pe_fld (pv 1) rfl) pe_non (nomark _))
      (pss_one (ps_set (i := 4) sc__law_said.nd rfl (Or.inl rfl) (pe_fld (pv 1) rfl)))
      pss_nil)
      (pss_cons (ps_set (i := 5) sc__law_said.nd rfl (Or.inl rfl) (pe_fld (pv 0) rfl))
      (C8.pss_cut (ps_if (pt_cmpR op_notN (pe_fld (pv 1) rfl) pe_non (nomark _))
      (pss_one (ps_set (i := 5) sc__law_said.nd rfl (Or.inl rfl) (pe_fld (pv 1) rfl)))
      pss_nil)
      (pss_one (ps_ret (pe_make T.MContent (ok_Content___init__ T) (hr.mono (by decide)) rfl T.gContent T.bContent___init__ .nil pass0 (pa_cons (pv 2) (pa_cons (pv 4) (pa_cons (pv 5) (pa_cons (pv 3) (pa_cons (pe_fld (pv 1) rfl) (pa_cons (pe_fld (pv 1) rfl) pa_nil))))))))))))))))), ?_⟩
    refine ⟨_, rfl, oc, _, dc, _, _, rfl, e1', T.clContent, T.nContent_picture, cF_p _ _ _ _ _ _, ?_⟩
    refine ⟨fun σ' H' => σ' = [some (.ref oc), some (.ref og), some (g.att.getD c.pic), none, none, none] ∧ H' = H, ?_, ?_⟩
    · refine ⟨_, rfl, og, _, dgx, _, _, rfl, e2', T.clChange, T.nChange_attached, gF_a _ _ _ _ _ _ _, pa, _, _, _, ra, rfl, qa', atI_nat (j := 0) rfl, _, rfl, ?_⟩
      cases ea : g.att with
      | none => exact if_f rfl ⟨rfl, rfl⟩
      | some v =>
        rw [ea] at qa'
        exact if_t rfl ⟨_, rfl, og, _, dgx, _, _, rfl, e2', T.clChange, T.nChange_attached, gF_a _ _ _ _ _ _ _, pa, _, _, _, ra, rfl, qa', atI_nat (j := 1) rfl, rfl, rfl⟩
    rintro σ' H1 ⟨rfl, rfl⟩
    refine ⟨_, rfl, oc, _, dc, _, _, rfl, e1', T.clContent, T.nContent_hears, cF_h _ _ _ _ _ _, ?_⟩
    have oh2 := oat_get oh c1
    refine ⟨fun σ' H' => σ' = [some (.ref oc), some (.ref og), some (g.att.getD c.pic), some (if g.hear.isSome = true then hh else ch), none, none] ∧ H' = H1, ?_, ?_⟩
    · refine ⟨_, rfl, og, _, dgx, _, _, rfl, e2', T.clChange, T.nChange_hearing, gF_h _ _ _ _ _ _ _, ph, _, _, _, rh, rfl, qh', atI_nat (j := 0) rfl, _, rfl, ?_⟩
      cases ea : g.hear.isSome with
      | false => exact if_f rfl ⟨rfl, rfl⟩
      | true =>
        exact if_t rfl ⟨_, rfl, og, _, dgx, _, _, rfl, e2', T.clChange, T.nChange_hearing, gF_h _ _ _ _ _ _ _, ph, _, _, _, rh, rfl, qh', atI_nat (j := 1) rfl, rfl, rfl⟩
    rintro σ' H1' ⟨rfl, rfl⟩
    generalize (if g.hear.isSome = true then hh else ch) = vh at oh2 ⊢
    refine ⟨_, rfl, oc, _, dc, _, _, rfl, e1', T.clContent, T.nContent_turn, cF_t _ _ _ _ _ _, ?_⟩
    refine ⟨fun σ' H' => σ' = [some (.ref oc), some (.ref og), some (g.att.getD c.pic), some vh, some (.int (g.turn.getD c.turn)), none] ∧ H' = H1', ?_, ?_⟩
    · refine ⟨_, rfl, og, _, dgx, _, _, rfl, e2', T.clChange, T.nChange_turn, gF_t _ _ _ _ _ _ _, rfl, _, rfl, ?_⟩
      cases ea : g.turn with
      | none => exact if_f rfl ⟨rfl, rfl⟩
      | some t =>
        refine if_t rfl ⟨_, rfl, og, _, dgx, _, _, rfl, e2', T.clChange, T.nChange_turn, gF_t _ _ _ _ _ _ _, ?_, rfl⟩
        rw [ea]; rfl
    rintro σ' H2 ⟨rfl, rfl⟩
    refine ⟨_, rfl, oc, _, dc, _, _, rfl, e1', T.clContent, T.nContent_scale, cF_s _ _ _ _ _ _, ?_⟩
    refine ⟨fun σ' H' => σ' = [some (.ref oc), some (.ref og), some (g.att.getD c.pic), some vh, some (.int (g.turn.getD c.turn)), some (.int (g.scale.getD c.scale))] ∧ H' = H2, ?_, ?_⟩
    · refine ⟨_, rfl, og, _, dgx, _, _, rfl, e2', T.clChange, T.nChange_scale, gF_s _ _ _ _ _ _ _, rfl, _, rfl, ?_⟩
      cases ea : g.scale with
      | none => exact if_f rfl ⟨rfl, rfl⟩
      | some t =>
        refine if_t rfl ⟨_, rfl, og, _, dgx, _, _, rfl, e2', T.clChange, T.nChange_scale, gF_s _ _ _ _ _ _ _, ?_, rfl⟩
        rw [ea]; rfl
    rintro σ' H3 ⟨rfl, rfl⟩
    have hgo := hg.o
    rw [ho] at hgo
    rw [hp] at d2
    refine ⟨_, rfl, _, rfl, _, rfl, _, rfl, _, rfl, og, _, dgx, _, _, rfl, e2', T.clChange, T.nChange_order, gF_o _ _ _ _ _ _ _, _, rfl, og, _, dgx, _, _, rfl, e2', T.clChange, T.nChange_places, gF_d _ _ _ _ _ _ _, ?_⟩
    intro x dx nx ndx nex
    refine ⟨x, dx, _, _, _, _, _, _, rfl, upd_same, fun H5 h5 b5 => ⟨rfl, ?_⟩⟩
    have s5 := made_same nx ndx b5
    have x5 := Ext.put sU s5 nx h5
    have t5 := same_upd (o := .ins A.CContent dx (cF (g.att.getD c.pic) (g.turn.getD c.turn) (g.scale.getD c.scale) vh wo gd)) (none_of_same sU nx)
    have e : changed c g = ⟨g.att.getD c.pic, g.turn.getD c.turn, g.scale.getD c.scale, g.hear.getD c.hears, xs, kvs⟩ := by
      unfold changed; rw [ho, hp]; rfl
    rw [e] at q
    exact q _ _ _ x5 ⟨x, dx, _, _, _, rfl, upd_same, oh2.to t5, LAt.to hgo t5, DAt.to d2 t5⟩
theorem ite_and {b : Bool} {F2 : TE} {σ : St} {H : Hp} {Q : VK} {v2 : V} (h1 : ∀ Q : VK, Q v2 H → F2 σ H Q) (h : Q (if b = true then v2 else .bl false) H) : if b = true then F2 σ H Q else Q (.bl false) H := by
  cases b with
  | true => exact h1 Q h
  | false => exact h
def sp__law_size_good (CC CP : Addr) (K : PySem.W.Frag) : Sp := fun vs H Q _ => ∃ (vc : V) (c : Cn) (U : Hp), vs = [vc] ∧ Same U H ∧ CnAt CC U vc c ∧ COk CP U c ∧ ∀ U' H', Ext U H U' H' → Q (.bl true) H'
theorem sc__law_size_good : FnScope ["content", "size", "wide", "high"] ["content"] (defScope s__law_size_good) := ⟨rfl, rfl, rfl, by decide +kernel, rfl, by decide +kernel, by decide +kernel⟩
theorem ok__law_size_good (T : Txt K mg A) : FnOk P w K mg base CX0 2 A.f_law_size_good A.d_law_size_good ["content"] (sp__law_size_good A.CContent A.CPicture K) := by
  refine T.F_law_size_good.ok sc__law_size_good (fun vs H Q E h => ?_) (fun cdv Ar outer st H vs Q E hr h => ?_)
  · obtain ⟨_, _, _, rfl, _⟩ := h
    rfl
  · obtain ⟨vc, c, U, rfl, sU, hc, hk, q⟩ := h
    obtain ⟨p, hp⟩ := hk.pic
    refine ⟨_, (pss_cons (ps_set (i := 1) sc__law_size_good.nd rfl (Or.inl rfl) (pe_call (ok_content_size T) (hr.mono (by decide)) rfl T.gcontent_size T.kcontent_size T.bcontent_size .nil pass0 (pa_cons (pv 0) pa_nil)))
      (pss_cons (ps_if (pt_cmpR op_isN (pe_fld (pv 0) rfl) pe_non (nomark _))
      (pss_one (ps_ret (pe_and (pe_cmpR op_isN (pv 1) pe_non (nomark _)) (pe_one (pe_call (ok_scale_fits T) (hr.mono (by decide)) rfl T.gscale_fits T.kscale_fits T.bscale_fits .nil pass0 (pa_cons (pv 0) pa_nil))))))
      pss_nil)
      (pss_cons (ps_set (i := 2) sc__law_size_good.nd rfl (Or.inl rfl) (pe_fld (pe_fld (pv 0) rfl) rfl))
      (pss_cons (ps_set (i := 3) sc__law_size_good.nd rfl (Or.inl rfl) (pe_fld (pe_fld (pv 0) rfl) rfl))
      (pss_cons (ps_if (pt_cmpR op_ne (pe_call (ok_scale_fits T) (hr.mono (by decide)) rfl T.gscale_fits T.kscale_fits T.bscale_fits .nil pass0 (pa_cons (pv 0) pa_nil)) (pe_and (pe_cmpR op_eq (pe_op op_mod (pe_callTy call_int1 (by rfl) T.int (by decide +kernel) (pa_cons (pv 2) pa_nil)) (pe_fld (pv 0) rfl)) pe_int (nomark _)) (pe_one (pe_cmpR op_eq (pe_op op_mod (pe_callTy call_int1 (by rfl) T.int (by decide +kernel) (pa_cons (pv 3) pa_nil)) (pe_fld (pv 0) rfl)) pe_int (nomark _)))) (nomark _))
      (pss_one (ps_ret pe_bl))
      pss_nil)
      (pss_cons (ps_if (pt_cmpR op_eq (pe_op op_mod (pe_callTy call_int1 (by rfl) T.int (by decide +kernel) (pa_cons (pe_fld (pv 0) rfl) pa_nil)) pe_int) pe_int (nomark _))
      (pss_one (ps_ret (pe_cmpR (op_eqD hr.units) (pv 1) (pe_tup (pa_cons (pe_op op_fdiv (pv 3) (pe_fld (pv 0) rfl)) (pa_cons (pe_op op_fdiv (pv 2) (pe_fld (pv 0) rfl)) pa_nil))) (nomark _))))
      pss_nil)
      (pss_one (ps_ret (pe_cmpR (op_eqD hr.units) (pv 1) (pe_tup (pa_cons (pe_op op_fdiv (pv 2) (pe_fld (pv 0) rfl)) (pa_cons (pe_op op_fdiv (pv 3) (pe_fld (pv 0) rfl)) pa_nil))) (nomark _)))))))))), ?_⟩
    refine ⟨_, rfl, vc, c, p, U, rfl, sU, hc, hp, hk.sc.1, hk.sc.2, fun v1 U1 H1 x1 dv => ?_⟩
    obtain ⟨oc, dc, ch, co, cd, rfl, e1, c1, c2, c3⟩ := hc
    have e1' := x1.hh _ _ (sU _ _ e1)
    have hc1 : CnAt A.CContent H1 (.ref oc) c := ⟨oc, dc, ch, co, cd, rfl, e1', c1.to (sU.trans x1.hh), c2.to (sU.trans x1.hh), c3.to (sU.trans x1.hh)⟩
    have hp1 : PcAt A.CPicture H1 c.pic p := hp.to (sU.trans x1.hh)
    refine ⟨_, rfl, oc, _, dc, _, _, rfl, e1', T.clContent, T.nContent_picture, cF_p _ _ _ _ _ _, rfl, _, rfl, ?_⟩
    cases p with
    | none =>
      have hn : c.pic = .non := hp
      cases dv
      refine if_t (decide_eq_true hn) ?_
      refine ⟨_, rfl, rfl, _, rfl, if_t rfl ?_⟩
      exact ⟨_, rfl, .ref oc, c, none, rfl, hc1, hp1, hk.sc.1, hk.sc.2, q _ _ x1⟩
    | some p =>
      obtain ⟨op, dp, l, ep, e2⟩ := hp1
      refine if_f (decide_eq_false fun z => by rw [ep] at z; cases z) ?_
      refine ⟨_, rfl, oc, _, dc, _, _, rfl, e1', T.clContent, T.nContent_picture, cF_p _ _ _ _ _ _, op, _, dp, _, _, ep, e2, T.clPicture, T.nPicture_width, pF_w _ _ _, ?_⟩
      refine ⟨_, rfl, oc, _, dc, _, _, rfl, e1', T.clContent, T.nContent_picture, cF_p _ _ _ _ _ _, op, _, dp, _, _, ep, e2, T.clPicture, T.nPicture_height, pF_h _ _ _, ?_⟩
      refine ⟨_, rfl, .ref oc, c, some p, rfl, hc1, ⟨op, dp, l, ep, e2⟩, hk.sc.1, hk.sc.2, ?_⟩
      have dI : ∀ z : Int, decide (V.int z = V.int 0) = decide (z = 0) := fun z => decide_eq_decide.mpr ⟨fun e => by injection e, fun e => by rw [e]⟩
      have dv1 := dv.to x1.vh
      refine ⟨_, rfl, .inl ⟨_, rfl, _, rfl, oc, _, dc, _, _, rfl, e1', T.clContent, T.nContent_scale, cF_s _ _ _ _ _ _, _, _, rfl, rfl, hk.sc.1, rfl, ?_⟩⟩
      refine ⟨_, rfl, ?_⟩
      show if decide (V.int ((p.1 : Int) % c.scale) = V.int 0) = true then _ else _
      refine ite_and (v2 := .bl (decide (V.int ((p.2 : Int) % c.scale) = V.int 0))) (fun Q q => ⟨_, rfl, .inl ⟨_, rfl, _, rfl, oc, _, dc, _, _, rfl, e1', T.clContent, T.nContent_scale, cF_s _ _ _ _ _ _, _, _, rfl, rfl, hk.sc.1, rfl, q⟩⟩) ?_
      have eb : (if decide (V.int ((p.1 : Int) % c.scale) = V.int 0) = true then V.bl (decide (V.int ((p.2 : Int) % c.scale) = V.int 0)) else .bl false) = .bl (fitsB (some p) c.scale) := by
        rw [dI, dI]
        show _ = V.bl (decide ((p.1 : Int) % c.scale = 0) && decide ((p.2 : Int) % c.scale = 0))
        cases decide ((p.1 : Int) % c.scale = 0) <;> rfl
      rw [eb]
      refine ⟨rfl, _, rfl, if_f (by rw [decide_eq_true rfl]; rfl) ?_⟩
      have sht : ∀ x y : Int, Sh 1 (.tuple [.int x, .int y]) := fun x y => sh_tuple fun d hd => by
        simp only [List.mem_cons, List.not_mem_nil, or_false] at hd
        rcases hd with rfl | rfl <;> exact sh_int _
      have dsz : sizeV (some p) c.turn c.scale = if c.turn % 2 = 1 then .tuple [.int (p.2 / c.scale), .int (p.1 / c.scale)] else .tuple [.int (p.1 / c.scale), .int (p.2 / c.scale)] := rfl
      rw [dsz] at dv1
      refine ⟨_, rfl, oc, _, dc, _, _, rfl, e1', T.clContent, T.nContent_turn, cF_t _ _ _ _ _ _, .inl ⟨_, rfl, _, _, rfl, rfl, (by show (0 : Int) < 2; decide), rfl, _, rfl, iteEq (fun h => ?_) (fun h => ?_)⟩⟩
      · rw [if_pos h] at dv1
        refine ⟨_, rfl, _, rfl, _, rfl, oc, _, dc, _, _, rfl, e1', T.clContent, T.nContent_scale, cF_s _ _ _ _ _ _, _, _, rfl, rfl, ⟨hk.sc.1, by have := hk.sc.2; omega⟩, _, rfl, _, rfl, oc, _, dc, _, _, rfl, e1', T.clContent, T.nContent_scale, cF_s _ _ _ _ _ _, _, _, rfl, rfl, ⟨hk.sc.1, by have := hk.sc.2; omega⟩, len_line (by show 2 ≤ 100000; decide), fun r hr => ?_⟩
        refine ⟨_, _, dv1.to (same_upd hr), .tup (SqT.of upd_same) (.cons (.int _) (.cons (.int _) .nil)), (sht _ _).shaped, (sht _ _).shaped, ?_⟩
        rw [(sht _ _).self]
        exact q _ _ (x1.trans (Ext.skip x1.vh hr))
      · rw [if_neg h] at dv1
        refine ⟨_, rfl, _, rfl, _, rfl, oc, _, dc, _, _, rfl, e1', T.clContent, T.nContent_scale, cF_s _ _ _ _ _ _, _, _, rfl, rfl, ⟨hk.sc.1, by have := hk.sc.2; omega⟩, _, rfl, _, rfl, oc, _, dc, _, _, rfl, e1', T.clContent, T.nContent_scale, cF_s _ _ _ _ _ _, _, _, rfl, rfl, ⟨hk.sc.1, by have := hk.sc.2; omega⟩, len_line (by show 2 ≤ 100000; decide), fun r hr => ?_⟩
        refine ⟨_, _, dv1.to (same_upd hr), .tup (SqT.of upd_same) (.cons (.int _) (.cons (.int _) .nil)), (sht _ _).shaped, (sht _ _).shaped, ?_⟩
        rw [(sht _ _).self]
        exact q _ _ (x1.trans (Ext.skip x1.vh hr))
theorem poke_same {U H : Hp} (s : Same U H) {D : Addr} {o : HO} (h : U D = none) : Same U (upd H D o) := fun b u e => by
  have hb : b ≠ D := fun z => by rw [z, h] at e; cases e
  rw [upd_ne hb]; exact s b u e
theorem sc_law : FnScope ["script", "content", "k", "row", "first", "second", "both", "alone", "step", "last"] ["script"] (defScope s_law) := ⟨rfl, rfl, rfl, by decide +kernel, rfl, by decide +kernel, by decide +kernel⟩
theorem ok_law (T : Txt K mg A) : FnOk P w K mg base CX0 5 A.flaw A.dlaw ["script"] (sp_law K) := by
  refine T.Flaw.ok sc_law (fun vs H Q E h => ?_) (fun cdv Ar outer st H vs Q E hr h => ?_)
  · obtain ⟨a, ns, rfl, _⟩ := h
    rfl
  · obtain ⟨a, ns, rfl, hS, hlen, q⟩ := h
    refine ⟨_, (pss_cons (ps_set (i := 1) sc_law.nd rfl (Or.inl rfl) (pe_call (ok_empty_content T) (hr.mono (by decide)) rfl T.gempty_content T.kempty_content T.bempty_content .nil pass0 (pa_cons pe_int pa_nil)))
      (pss_cons (ps_if (pt_cmpR (op_neD hr.units) (pe_tup (pa_cons (pe_fld (pv 1) rfl) (pa_cons (pe_fld (pv 1) rfl) (pa_cons (pe_fld (pv 1) rfl) (pa_cons (pe_fld (pv 1) rfl) pa_nil))))) (pe_tup (pa_cons pe_non (pa_cons pe_int (pa_cons pe_int (pa_cons pe_non pa_nil))))) (nomark _))
      (pss_one (ps_ret pe_bl))
      pss_nil)
      (pss_cons (ps_for PassesOwn.never rfl (pi_range1 (by rfl) T.range (pa_cons (pe_op op_add (pe_callB (call_min2 rfl) (by rfl) T.min (by decide +kernel) (pa_cons (pe_callB call_len_seq (by rfl) T.len PySem.boot_len (pa_cons (pv 0) pa_nil)) (pa_cons pe_int pa_nil))) pe_int) pa_nil)) (pg_name (i := 2) sc_law.nd rfl (Or.inl rfl))
      (pss_cons (ps_set (i := 3) sc_law.nd rfl (Or.inl rfl) (pe_call (ok__law_row T) (hr.mono (by decide)) rfl T.g_law_row T.k_law_row T.b_law_row .nil pass0 (pa_cons (pv 0) (pa_cons (pv 2) pa_nil))))
      (pss_cons (ps_set (i := 4) sc_law.nd rfl (Or.inl rfl) (pe_call (ok__law_change T) (hr.mono (by decide)) rfl T.g_law_change T.k_law_change T.b_law_change .nil pass0 (pa_cons (pv 3) (pa_cons (pe_op op_add (pe_op op_mul pe_int (pv 2)) pe_int) pa_nil))))
      (pss_cons (ps_set (i := 5) sc_law.nd rfl (Or.inl rfl) (pe_call (ok__law_change T) (hr.mono (by decide)) rfl T.g_law_change T.k_law_change T.b_law_change .nil pass0 (pa_cons (pe_op op_add (pe_op op_fdiv (pv 3) pe_int) (pe_op op_mul pe_int (pv 2))) (pa_cons (pe_op op_add (pe_op op_mul pe_int (pv 2)) pe_int) pa_nil))))
      (pss_cons (ps_set (i := 6) sc_law.nd rfl (Or.inl rfl) (pe_call (ok_laid_over T) (hr.mono (by decide)) rfl T.glaid_over T.klaid_over T.blaid_over .nil pass0 (pa_cons (pv 4) (pa_cons (pv 5) pa_nil))))
      (pss_cons (ps_set (i := 7) sc_law.nd rfl (Or.inl rfl) (pe_call (ok_laid_over T) (hr.mono (by decide)) rfl T.glaid_over T.klaid_over T.blaid_over .nil pass0 (pa_cons pe_non (pa_cons (pv 5) pa_nil))))
      (pss_cons (ps_set (i := 8) sc_law.nd rfl (Or.inl rfl) (pe_call (ok_changed_content T) (hr.mono (by decide)) rfl T.gchanged_content T.kchanged_content T.bchanged_content .nil pass0 (pa_cons (pv 1) (pa_cons (pv 4) pa_nil))))
      (pss_cons (ps_if (PW.pt (pw_or (pt_not (pt_val (pe_call (ok__law_alike T) (hr.mono (by decide)) rfl T.g_law_alike T.k_law_alike T.b_law_alike .nil pass0 (pa_cons (pv 8) (pa_cons (pe_call (ok__law_said T) (hr.mono (by decide)) rfl T.g_law_said T.k_law_said T.b_law_said .nil pass0 (pa_cons (pv 1) (pa_cons (pv 4) pa_nil))) pa_nil))))) (pw_or1 (pt_not (pt_val (pe_call (ok__law_size_good T) (hr.mono (by decide)) rfl T.g_law_size_good T.k_law_size_good T.b_law_size_good .nil pass0 (pa_cons (pv 8) pa_nil)))))))
      (pss_one (ps_ret pe_bl))
      pss_nil)
      (pss_cons (ps_set (i := 9) sc_law.nd rfl (Or.inl rfl) (pe_call (ok_changed_content T) (hr.mono (by decide)) rfl T.gchanged_content T.kchanged_content T.bchanged_content .nil pass0 (pa_cons (pv 8) (pa_cons (pv 5) pa_nil))))
      (pss_cons (ps_if (PW.pt (pw_or (pt_not (pt_val (pe_call (ok__law_alike T) (hr.mono (by decide)) rfl T.g_law_alike T.k_law_alike T.b_law_alike .nil pass0 (pa_cons (pv 9) (pa_cons (pe_call (ok__law_said T) (hr.mono (by decide)) rfl T.g_law_said T.k_law_said T.b_law_said .nil pass0 (pa_cons (pv 8) (pa_cons (pv 5) pa_nil))) pa_nil))))) (pw_or1 (pt_not (pt_val (pe_call (ok__law_alike T) (hr.mono (by decide)) rfl T.g_law_alike T.k_law_alike T.b_law_alike .nil pass0 (pa_cons (pe_call (ok_changed_content T) (hr.mono (by decide)) rfl T.gchanged_content T.kchanged_content T.bchanged_content .nil pass0 (pa_cons (pv 1) (pa_cons (pv 6) pa_nil))) (pa_cons (pv 9) pa_nil))))))))
      (pss_one (ps_ret pe_bl))
      pss_nil)
      (pss_cons (ps_if (pt_not (pt_val (pe_call (ok__law_alike T) (hr.mono (by decide)) rfl T.g_law_alike T.k_law_alike T.b_law_alike .nil pass0 (pa_cons (pe_call (ok_changed_content T) (hr.mono (by decide)) rfl T.gchanged_content T.kchanged_content T.bchanged_content .nil pass0 (pa_cons (pv 1) (pa_cons (pv 7) pa_nil))) (pa_cons (pe_call (ok__law_said T) (hr.mono (by decide)) rfl T.g_law_said T.k_law_said T.b_law_said .nil pass0 (pa_cons (pv 1) (pa_cons (pv 5) pa_nil))) pa_nil)))))
      (pss_one (ps_ret pe_bl))
      pss_nil)
      (pss_cons (ps_if (PW.pt (pw_or (pt_cmpR (op_neD hr.units) (pe_fld (pv 6) rfl) (pe_op op_cat (pe_fld (pv 4) rfl) (pe_fld (pv 5) rfl)) (nomark _)) (pw_or1 (pt_cmpR (op_neD hr.units) (pe_fld (pv 7) rfl) (pe_fld (pv 5) rfl) (nomark _)))))
      (pss_one (ps_ret pe_bl))
      pss_nil)
      (pss_cons (ps_expr (pe_bm PySem.F.plainAttrs_list PySem.F.slot_list_append PySem.F.type_list_append mt_append (pe_fld (pv 7) rfl) (pa_cons pe_int pa_nil)))
      (pss_cons (ps_expr (pe_bm PySem.F.plainAttrs_list PySem.F.slot_list_append PySem.F.type_list_append mt_append (pe_fld (pv 7) rfl) (pa_cons pe_int pa_nil)))
      (pss_cons (ps_if (PW.pt (pw_or (pt_cmpR op_ge (pe_callB call_len_seq (by rfl) T.len PySem.boot_len (pa_cons (pe_fld (pv 5) rfl) pa_nil)) (pe_callB call_len_seq (by rfl) T.len PySem.boot_len (pa_cons (pe_fld (pv 7) rfl) pa_nil)) (nomark _)) (pw_or1 (pt_cmpR op_in_seq pe_int (pe_fld (pv 5) rfl) (by rfl)))))
      (pss_one (ps_ret pe_bl))
      pss_nil)
      (pss_one (ps_set (i := 1) sc_law.nd rfl (Or.inl rfl) (pv 9))))))))))))))))))
      (pss_one (ps_ret pe_bl))))), ?_⟩
    refine ⟨7, H, rfl, Same.refl H, fun vc U0 H0 x0 hc0 => ?_⟩
    have ok0 : COk A.CPicture U0 ⟨.non, 0, 1, none, [.int 7], []⟩ := ⟨⟨none, rfl⟩, ⟨by decide, by decide⟩, fun xs e => (by cases e), ⟨[7], rfl⟩, fun p hp => (by cases hp)⟩
    have hS0 := x0.vv.seq hS
    have hc0' := hc0
    obtain ⟨oc, dc, vh, vo, vd, rfl, e0, rfl, h2, h3⟩ := hc0'
    have e0' := x0.vh _ _ e0
    have shq : Sh 1 (.tuple [.none, .int 0, .int 1, .none]) := sh_tuple fun d hd => by
      simp only [List.mem_cons, List.not_mem_nil, or_false] at hd
      rcases hd with rfl | rfl | rfl | rfl
      · exact sh_none
      · exact sh_int _
      · exact sh_int _
      · exact sh_none
    refine ⟨_, rfl, oc, _, dc, _, _, rfl, e0', T.clContent, T.nContent_picture, cF_p _ _ _ _ _ _, _, rfl, oc, _, dc, _, _, rfl, e0', T.clContent, T.nContent_turn, cF_t _ _ _ _ _ _, _, rfl, oc, _, dc, _, _, rfl, e0', T.clContent, T.nContent_scale, cF_s _ _ _ _ _ _, _, rfl, oc, _, dc, _, _, rfl, e0', T.clContent, T.nContent_hears, cF_h _ _ _ _ _ _, len_line (by show 4 ≤ 100000; decide), fun p1 n1 => ?_⟩
    have x1 := x0.trans (Ext.skip (o := .tup [.non, .int 0, .int 1, .non]) x0.vh n1)
    refine ⟨len_line (by show 4 ≤ 100000; decide), fun p2 n2 => ?_⟩
    have t2 := same_upd (o := .tup [.non, .int 0, .int 1, .non]) n2
    have x2 := x1.trans (Ext.skip (o := .tup [.non, .int 0, .int 1, .non]) x1.vh n2)
    refine ⟨_, _, .tup (t2.sqt (SqT.of upd_same)) (.cons .non (.cons (.int _) (.cons (.int _) (.cons .non .nil)))), .tup (SqT.of upd_same) (.cons .non (.cons (.int _) (.cons (.int _) (.cons .non .nil)))), shq.shaped, shq.shaped, _, rfl, if_f (by rw [shq.self]; rfl) ?_⟩
    generalize upd (upd H0 p1 (.tup [.non, .int 0, .int 1, .non])) p2 (.tup [.non, .int 0, .int 1, .non]) = H2 at x2 ⊢
    have hS2 := x2.vh.seq hS0
    refine ⟨_, rfl, a, _, rfl, .inl hS2, _, _, rfl, _, _, rfl, rfl, _, rfl, ?_, ?_, ?_⟩
    · split <;> omega
    · rw [List.length_map]; split <;> omega
    refine for_range (lo := 0) (fun i σ H' => ∃ (vc : V) (v2 v3 v4 v5 v6 v7 v8 v9 : Option V) (U : Hp) (c : Cn), σ = [some (.ref a), some vc, v2, v3, v4, v5, v6, v7, v8, v9] ∧ Same U H' ∧ SqL K U a (ns.map V.int) ∧ CnAt A.CContent U vc c ∧ COk A.CPicture U c) ?_ ?_ ?_
    · exact ⟨_, _, _, _, _, _, _, _, _, U0, _, rfl, x2.vh, hS0, hc0, ok0⟩
    · rintro i σ H3 hi ⟨vc, v2, v3, v4, v5, v6, v7, v8, v9, U3, c, rfl, s3, sS3, hc, hk⟩
      refine ⟨_, rfl, _, rfl, a, ns, i, ?_, s3.seq sS3, ?_⟩
      · show [V.ref a, V.int (0 + (i : Int))] = [V.ref a, V.int (i : Int)]
        rw [Int.zero_add]
      generalize lawRow ns i = row
      refine ⟨_, rfl, _, rfl, _, _, rfl, rfl, (Or.inl ⟨by decide, by decide⟩ : CMul _ _), _, _, rfl, rfl, row, _, U3, rfl, s3, fun w1 g1 o1 b1 U4 H4 x4 X1 G1 => ?_⟩
      refine ⟨_, rfl, _, _, rfl, rfl, ⟨by decide, by decide⟩, _, rfl, _, _, rfl, rfl, (Or.inl ⟨by decide, by decide⟩ : CMul _ _), _, _, rfl, rfl, _, rfl, _, _, rfl, rfl, (Or.inl ⟨by decide, by decide⟩ : CMul _ _), _, _, rfl, rfl, _, _, U4, rfl, x4.vh, fun w2 g2 o2 b2 U5 H5 x5 X2 G2 => ?_⟩
      have X1' := X1.to x5.vv
      have G1' := G1.to x5.vv
      have hl1 : g1.cbs.length < 1000 := by
        obtain ⟨ys, ey, hy⟩ := G1.cb
        rw [ey, List.length_map]; omega
      have hl2 : g2.cbs.length < 1000 := by
        obtain ⟨ys, ey, hy⟩ := G2.cb
        rw [ey, List.length_map]; omega
      refine ⟨_, rfl, _, rfl, w1, w2, g1, g2, o1, b1, o2, b2, U5, rfl, x5.vh, .inr X1', X2, hl1, hl2, fun w3 ro3 rb3 U6 H6 x6 X3 _ _ _ => ?_⟩
      have X2' := X2.to x6.vv
      have G2' := G2.to x6.vv
      have X1'' := X1'.to x6.vv
      have G1'' := G1'.to x6.vv
      refine ⟨_, rfl, .non, w2, cg0, g2, .non, .non, o2, b2, U6, rfl, x6.vh, .inl ⟨rfl, rfl⟩, X2', by decide, hl2, fun w4 ro rb U7 H7 x7 X4 fo fb fob => ?_⟩
      -- the lists of alone
      obtain ⟨xs1, eo1, hno1, hx1⟩ := G1''.ord
      obtain ⟨kv1, ep1, dk1⟩ := G1''.pl
      obtain ⟨xs2, eo2, hno2, hx2⟩ := G2'.ord
      obtain ⟨kv2, ep2, dk2⟩ := G2'.pl
      obtain ⟨cs1, ec1, hc1⟩ := G1''.cb
      obtain ⟨cs2, ec2, hc2⟩ := G2'.cb
      have X4o : OAt U7 ro (some (xs2.map V.int)) := by
        have := X4.o
        rwa [show (over cg0 g2).order = g2.order.or none from rfl, eo2] at this
      obtain ⟨lo, rfl, elo⟩ := X4o
      have X4b : LAt U7 rb (cs2.map V.int) := by
        have := X4.b
        rwa [show (over cg0 g2).cbs = [] ++ g2.cbs from rfl, ec2] at this
      obtain ⟨lb, rfl, elb⟩ := X4b
      have nlo : U6 lo = none := none_of_same x6.vh (fo lo rfl)
      have nlb : U6 lb = none := none_of_same x6.vh (fb lb rfl)
      have s67 : Same U6 H7 := x6.vh.trans x7.hh
      have elo7 := x7.vh _ _ elo
      have elb7 := x7.vh _ _ elb
      have hc6 := hc.to ((x4.vv.trans x5.vv).trans x6.vv)
      have hk6 := hk.to ((x4.vv.trans x5.vv).trans x6.vv)
      have sS6 := ((x4.vv.trans x5.vv).trans x6.vv).seq sS3
      -- step
      refine ⟨_, rfl, _, rfl, vc, w1, c, g1, o1, b1, U6, rfl, s67, hc6, X1'', fun w5 U8 H8 x8 C5 => ?_⟩
      have nlo8 := x8.keepOut nlo (by rw [elo7]; exact fun z => by cases z)
      have nlb8 := x8.keepOut nlb (by rw [elb7]; exact fun z => by cases z)
      have k8 : COk A.CPicture U8 (changed c g1) := (hk6.changed G1'').to x8.vv
      refine ⟨_, rfl, _, rfl, _, rfl, vc, w1, c, g1, o1, b1, _, _, U8, rfl, x8.vh, hc6.to x8.vv, X1''.to x8.vv, eo1, ep1, fun w6 U9 H9 x9 C6 => ?_⟩
      refine ⟨w5, w6, changed c g1, rfl, (C5.to x9.vv).to x9.vh, C6.to x9.vh, (k8.to x9.vv).to x9.vh, fun H10 s10 => ?_⟩
      refine ⟨_, rfl, if_f rfl ?_⟩
      have nlo9 := x9.keepOut nlo8 (by rw [x8.hh _ _ elo7]; exact fun z => by cases z)
      have nlb9 := x9.keepOut nlb8 (by rw [x8.hh _ _ elb7]; exact fun z => by cases z)
      have sH10 : Same H7 H10 := (x8.hh.trans x9.hh).trans s10
      have v69 := x8.vv.trans x9.vv
      refine ⟨_, rfl, w5, changed c g1, U9, rfl, x9.vh.trans s10, C5.to x9.vv, k8.to x9.vv, fun U11 H11 x11 => ⟨_, rfl, if_f rfl ?_⟩⟩
      have nlo11 := x11.keepOut nlo9 (by rw [sH10 _ _ elo7]; exact fun z => by cases z)
      have nlb11 := x11.keepOut nlb9 (by rw [sH10 _ _ elb7]; exact fun z => by cases z)
      have v6b := v69.trans x11.vv
      have v8b := x9.vv.trans x11.vv
      have sH11 := sH10.trans x11.hh
      -- last
      refine ⟨_, rfl, _, rfl, w5, w2, changed c g1, g2, o2, b2, U11, rfl, x11.vh, C5.to v8b, X2'.to v6b, fun w7 U12 H12 x12 C7 => ?_⟩
      have nlo12 := x12.keepOut nlo11 (by rw [sH11 _ _ elo7]; exact fun z => by cases z)
      have nlb12 := x12.keepOut nlb11 (by rw [sH11 _ _ elb7]; exact fun z => by cases z)
      have v6c := v6b.trans x12.vv
      have v8c := v8b.trans x12.vv
      have sH12 := sH11.trans x12.hh
      have k12 : COk A.CPicture U12 (changed (changed c g1) g2) := (k8.to v8c).changed (G2'.to v6c)
      refine ⟨_, rfl, _, rfl, _, rfl, w5, w2, changed c g1, g2, o2, b2, _, _, U12, rfl, x12.vh, C5.to v8c, X2'.to v6c, eo2, ep2, fun w8 U13 H13 x13 C8 => ?_⟩
      refine ⟨w7, w8, changed (changed c g1) g2, rfl, (C7.to x13.vv).to x13.vh, C8.to x13.vh, (k12.to x13.vv).to x13.vh, fun H14 s14 => ⟨_, rfl, if_f rfl ?_⟩⟩
      have nlo13 := x13.keepOut nlo12 (by rw [sH12 _ _ elo7]; exact fun z => by cases z)
      have nlb13 := x13.keepOut nlb12 (by rw [sH12 _ _ elb7]; exact fun z => by cases z)
      have v6d := v6c.trans x13.vv
      have sU14 : Same U13 H14 := x13.vh.trans s14
      have sH14 := (sH12.trans x13.hh).trans s14
      refine ⟨_, rfl, _, rfl, vc, w3, c, over g1 g2, ro3, rb3, U13, rfl, sU14, hc6.to v6d, X3.to v6d, fun w9 U15 H15 x15 C9 => ?_⟩
      rw [changed_over (C := A.CPicture) (U := U15)] at C9
      have nlo15 := x15.keepOut nlo13 (by rw [sH14 _ _ elo7]; exact fun z => by cases z)
      have nlb15 := x15.keepOut nlb13 (by rw [sH14 _ _ elb7]; exact fun z => by cases z)
      have v6e := v6d.trans x15.vv
      have sH15 := sH14.trans x15.hh
      have C7e := C7.to (x13.vv.trans x15.vv)
      have k15 := k12.to (x13.vv.trans x15.vv)
      refine ⟨_, rfl, w9, w7, changed (changed c g1) g2, rfl, C9.to x15.vh, C7e.to x15.vh, k15.to x15.vh, fun H16 s16 => ⟨_, rfl, if_f rfl ?_⟩⟩
      have sU16 : Same U15 H16 := x15.vh.trans s16
      have sH16 := sH15.trans s16
      have s6H := v6e.trans sU16
      refine ⟨_, rfl, _, rfl, vc, w4, c, over cg0 g2, .ref lo, .ref lb, H16, rfl, Same.refl H16, hc6.to s6H, X4.to (x7.vh.trans sH16), fun w10 U17 H17 x17 C10 => ?_⟩
      rw [changed_alone] at C10
      refine ⟨_, rfl, _, rfl, vc, w2, c, g2, o2, b2, _, _, U17, rfl, x17.vh, hc6.to (s6H.trans x17.vv), X2'.to (s6H.trans x17.vv), eo2, ep2, fun w11 U18 H18 x18 C11 => ?_⟩
      have s16e := x17.hh.trans x18.hh
      refine ⟨w10, w11, changed c g2, rfl, (C10.to x18.vv).to x18.vh, C11.to x18.vh, (hk6.changed G2').to (s6H.trans s16e), fun H19 s19 => ⟨_, rfl, if_f rfl ?_⟩⟩
      have sU19 : Same U15 H19 := sU16.trans (s16e.trans s19)
      have sH19 : Same H7 H19 := sH16.trans (s16e.trans s19)
      have s6z := v6e.trans sU19
      obtain ⟨of, df, _, _, _, rfl, f1, _⟩ := (X1''.to s6z).ex
      obtain ⟨os, ds, _, _, _, rfl, f2, _⟩ := (X2'.to s6z).ex
      obtain ⟨ob, db, _, _, _, rfl, f3, _⟩ := (X3.to s6z).ex
      obtain ⟨oa, da, _, _, _, rfl, f4, _⟩ := (X4.to (x7.vh.trans sH19)).ex
      obtain ⟨lb1, rfl, eb1⟩ := (X1''.to s6z).b
      obtain ⟨lb2, rfl, eb2⟩ := (X2'.to s6z).b
      obtain ⟨lb3, rfl, eb3⟩ := (X3.to s6z).b
      have eb2U : U6 lb2 = some (.lst g2.cbs) := by
        obtain ⟨z, ez, ez'⟩ := X2'.b
        cases ez; exact ez'
      obtain ⟨lo2, rfl, el2⟩ : LAt U6 o2 (xs2.map V.int) := by
        have := X2'.o
        rwa [eo2] at this
      have el2' := s6z _ _ el2
      rw [ec1] at eb1
      rw [ec2] at eb2 eb2U
      have eb3' : H19 lb3 = some (.lst ((cs1 ++ cs2).map V.int)) := by
        rw [eb3]
        show some (HO.lst (g1.cbs ++ g2.cbs)) = _
        rw [ec1, ec2, List.map_append]
      have elo9 := sH19 _ _ elo7
      have elb9 := sH19 _ _ elb7
      refine ⟨_, rfl, ob, _, db, _, _, rfl, f3, T.clChange, T.nChange_callbacks, gF_b _ _ _ _ _ _ _, _, rfl, of, _, df, _, _, rfl, f1, T.clChange, T.nChange_callbacks, gF_b _ _ _ _ _ _ _, _, rfl, os, _, ds, _, _, rfl, f2, T.clChange, T.nChange_callbacks, gF_b _ _ _ _ _ _ _, ?_⟩
      refine ⟨lb1, lb2, _, _, rfl, rfl, eb1, eb2, ?_, fun r hr => ?_⟩
      · rw [sizeLine_eq, List.length_map, List.length_map]; omega
      have tr := same_upd (o := .lst (cs1.map V.int ++ cs2.map V.int)) hr
      refine ⟨_, _, dp_ints (xs := cs1 ++ cs2) (SqL.of (tr _ _ eb3')), dp_ints (xs := cs1 ++ cs2) (SqL.of (by rw [upd_same, List.map_append])), (sh_ints _).shaped, (sh_ints _).shaped, _, rfl, if_f (by rw [(sh_ints _).self]; rfl) ?_⟩
      generalize upd H19 r (.lst (cs1.map V.int ++ cs2.map V.int)) = H20 at tr ⊢
      refine ⟨_, rfl, oa, _, da, _, _, rfl, tr _ _ f4, T.clChange, T.nChange_callbacks, gF_b _ _ _ _ _ _ _, _, rfl, os, _, ds, _, _, rfl, tr _ _ f2, T.clChange, T.nChange_callbacks, gF_b _ _ _ _ _ _ _, ?_⟩
      refine ⟨_, _, dp_ints (xs := cs2) (SqL.of (tr _ _ elb9)), dp_ints (xs := cs2) (SqL.of (tr _ _ eb2)), (sh_ints _).shaped, (sh_ints _).shaped, _, rfl, ?_⟩
      refine if_f (by rw [(sh_ints _).self]; rfl) ?_
      -- the appends
      refine ⟨_, rfl, oa, _, da, _, _, rfl, tr _ _ f4, T.clChange, T.nChange_callbacks, gF_b _ _ _ _ _ _ _, .inl ⟨rfl, _, SqL.of (tr _ _ elb9)⟩, ?_⟩
      refine ⟨lb, _, _, rfl, rfl, tr _ _ elb9, lt_line (by rw [List.length_map]; omega), ?_⟩
      have nba : oa ≠ lb := ne_of f4 elb9 (by intro z; cases z)
      have nol : lo ≠ lb := fun z => fob lo rfl (by rw [z])
      have f4' : (upd H20 lb (.lst (cs2.map V.int ++ [.int 1]))) oa = _ := (upd_ne nba).trans (tr _ _ f4)
      have elo' : (upd H20 lb (.lst (cs2.map V.int ++ [.int 1]))) lo = _ := (upd_ne nol).trans (tr _ _ elo9)
      refine ⟨_, rfl, oa, _, da, _, _, rfl, f4', T.clChange, T.nChange_order, gF_o _ _ _ _ _ _ _, .inl ⟨rfl, _, SqL.of elo'⟩, ?_⟩
      refine ⟨lo, _, _, rfl, rfl, elo', lt_line (by rw [List.length_map]; omega), ?_⟩
      have sV : Same U15 (upd (upd H20 lb (.lst (cs2.map V.int ++ [.int 1]))) lo (.lst (xs2.map V.int ++ [.int 1]))) := poke_same (poke_same (sU19.trans tr) nlb15) nlo15
      have eb2V := sV _ _ (v6e _ _ eb2U)
      have el2V := sV _ _ (v6e _ _ el2)
      have nao : oa ≠ lo := ne_of f4 elo9 (by intro z; cases z)
      have elbV : (upd (upd H20 lb (.lst (cs2.map V.int ++ [.int 1]))) lo (.lst (xs2.map V.int ++ [.int 1]))) lb = some (.lst (cs2.map V.int ++ [.int 1])) := by rw [upd_ne nol.symm, upd_same]
      have f4V : (upd (upd H20 lb (.lst (cs2.map V.int ++ [.int 1]))) lo (.lst (xs2.map V.int ++ [.int 1]))) oa = _ := (upd_ne nao).trans f4'
      have nbs : os ≠ lb := ne_of f2 elb9 (by intro z; cases z)
      have nos : os ≠ lo := ne_of f2 elo9 (by intro z; cases z)
      have f2V : (upd (upd H20 lb (.lst (cs2.map V.int ++ [.int 1]))) lo (.lst (xs2.map V.int ++ [.int 1]))) os = _ := (upd_ne nos).trans ((upd_ne nbs).trans (tr _ _ f2))
      generalize upd (upd H20 lb (.lst (cs2.map V.int ++ [.int 1]))) lo (.lst (xs2.map V.int ++ [.int 1])) = H21 at sV eb2V el2V elbV f4V f2V ⊢
      refine ⟨_, rfl, os, _, ds, _, _, rfl, f2V, T.clChange, T.nChange_callbacks, gF_b _ _ _ _ _ _ _, lb2, _, rfl, .inl (SqL.of eb2V), _, rfl, oa, _, da, _, _, rfl, f4V, T.clChange, T.nChange_callbacks, gF_b _ _ _ _ _ _ _, lb, _, rfl, .inl (SqL.of elbV), ?_⟩
      refine ⟨_, _, rfl, rfl, _, rfl, iteP (fun h => absurd h (by rw [List.length_append, List.length_map]; show ¬ (((cs2.length + 1 : Nat) : Int) ≤ (cs2.length : Int)); omega)) (fun _ => ?_)⟩
      have fl : (xs2.map V.int).all flatV = true := List.all_eq_true.mpr fun z hz => by
        obtain ⟨y, _, rfl⟩ := List.mem_map.mp hz
        rfl
      have nin : inV (.int 1) (xs2.map V.int) = false := by
        unfold inV
        refine List.any_eq_false.mpr fun z hz => ?_
        obtain ⟨y, hy, rfl⟩ := List.mem_map.mp hz
        have hy1 : y ≠ 1 := fun e => hno2 (e ▸ hy)
        show ¬ (y == 1) = true
        simpa using hy1
      refine ⟨_, rfl, os, _, ds, _, _, rfl, f2V, T.clChange, T.nChange_order, gF_o _ _ _ _ _ _ _, lo2, _, rfl, .inl (SqL.of el2V), rfl, fl, _, rfl, ?_⟩
      rw [nin]
      refine if_f rfl ?_
      exact ⟨_, rfl, _, _, _, _, _, _, _, _, _, _, _, rfl, sV, v6e.seq sS6, C7e, k15⟩
    · rintro σ H3 ⟨vc, v2, v3, v4, v5, v6, v7, v8, v9, U3, c, rfl, _⟩
      exact q _
end
theorem all_mk {K : PySem.W.Frag} {h : Heap} {mg : Str → Option Value} {fa : Addr} (X : K.In h) (G : h.Ns mainGlobals mg) (hfa : mg "law" = some (.ref fa))
    {fempty_content : Addr} {od1 an1 : Option Addr} {sl1 : Array (Option Value)} {oc1 kV1 dc1 pm1 cd1 ct1 : Value}
    {flaid_over : Addr} {od2 an2 : Option Addr} {sl2 : Array (Option Value)} {oc2 kV2 dc2 pm2 cd2 ct2 : Value}
    {fchanged_content : Addr} {od3 an3 : Option Addr} {sl3 : Array (Option Value)} {oc3 kV3 dc3 pm3 cd3 ct3 : Value}
    {fcontent_size : Addr} {od4 an4 : Option Addr} {sl4 : Array (Option Value)} {oc4 kV4 dc4 pm4 cd4 ct4 : Value}
    {fscale_fits : Addr} {od5 an5 : Option Addr} {sl5 : Array (Option Value)} {oc5 kV5 dc5 pm5 cd5 ct5 : Value}
    {f_latest : Addr} {od6 an6 : Option Addr} {sl6 : Array (Option Value)} {oc6 kV6 dc6 pm6 cd6 ct6 : Value}
    {f_copied_list : Addr} {od7 an7 : Option Addr} {sl7 : Array (Option Value)} {oc7 kV7 dc7 pm7 cd7 ct7 : Value}
    {f_copied_dict : Addr} {od8 an8 : Option Addr} {sl8 : Array (Option Value)} {oc8 kV8 dc8 pm8 cd8 ct8 : Value}
    {fclear_picture : Addr} {od9 an9 : Option Addr} {sl9 : Array (Option Value)} {oc9 kV9 dc9 pm9 cd9 ct9 : Value}
    {f_law_cell : Addr} {od10 an10 : Option Addr} {sl10 : Array (Option Value)} {oc10 kV10 dc10 pm10 cd10 ct10 : Value}
    {f_law_row : Addr} {od11 an11 : Option Addr} {sl11 : Array (Option Value)} {oc11 kV11 dc11 pm11 cd11 ct11 : Value}
    {f_law_change : Addr} {od12 an12 : Option Addr} {sl12 : Array (Option Value)} {oc12 kV12 dc12 pm12 cd12 ct12 : Value}
    {f_law_state : Addr} {od13 an13 : Option Addr} {sl13 : Array (Option Value)} {oc13 kV13 dc13 pm13 cd13 ct13 : Value}
    {f_law_alike : Addr} {od14 an14 : Option Addr} {sl14 : Array (Option Value)} {oc14 kV14 dc14 pm14 cd14 ct14 : Value}
    {f_law_said : Addr} {od15 an15 : Option Addr} {sl15 : Array (Option Value)} {oc15 kV15 dc15 pm15 cd15 ct15 : Value}
    {f_law_size_good : Addr} {od16 an16 : Option Addr} {sl16 : Array (Option Value)} {oc16 kV16 dc16 pm16 cd16 ct16 : Value}
    {flaw : Addr} {od17 an17 : Option Addr} {sl17 : Array (Option Value)} {oc17 kV17 dc17 pm17 cd17 ct17 : Value}
    {fContent___init__ : Addr} {od18 an18 : Option Addr} {sl18 : Array (Option Value)} {oc18 kV18 dc18 pm18 cd18 ct18 : Value}
    {fChange___init__ : Addr} {od19 an19 : Option Addr} {sl19 : Array (Option Value)} {oc19 kV19 dc19 pm19 cd19 ct19 : Value}
    {fPicture___init__ : Addr} {od20 an20 : Option Addr} {sl20 : Array (Option Value)} {oc20 kV20 dc20 pm20 cd20 ct20 : Value}
    {tCLEAR : Tok}
    {CContent : Addr}
    {CChange : Addr}
    {CPicture : Addr}
    {CWalk : Addr}
    (a1 : PySem.W.nsIn K mainGlobals "empty_content" = some (some (.ref fempty_content)))
    (l1 : K.lookup fempty_content = some ⟨oc1, od1, .func (PySem.W.fnOf "empty_content" "empty_content" (defArgs s_empty_content) (defBody s_empty_content) (defScope s_empty_content) .none kV1 dc1 pm1 an1 cd1 ct1), sl1⟩) (c1 : PySem.W.codeIn K cd1 "empty_content" = true) (k1 : PySem.W.keepIn K (.ref fempty_content) = true)
    (a2 : PySem.W.nsIn K mainGlobals "laid_over" = some (some (.ref flaid_over)))
    (l2 : K.lookup flaid_over = some ⟨oc2, od2, .func (PySem.W.fnOf "laid_over" "laid_over" (defArgs s_laid_over) (defBody s_laid_over) (defScope s_laid_over) .none kV2 dc2 pm2 an2 cd2 ct2), sl2⟩) (c2 : PySem.W.codeIn K cd2 "laid_over" = true) (k2 : PySem.W.keepIn K (.ref flaid_over) = true)
    (a3 : PySem.W.nsIn K mainGlobals "changed_content" = some (some (.ref fchanged_content)))
    (l3 : K.lookup fchanged_content = some ⟨oc3, od3, .func (PySem.W.fnOf "changed_content" "changed_content" (defArgs s_changed_content) (defBody s_changed_content) (defScope s_changed_content) .none kV3 dc3 pm3 an3 cd3 ct3), sl3⟩) (c3 : PySem.W.codeIn K cd3 "changed_content" = true) (k3 : PySem.W.keepIn K (.ref fchanged_content) = true)
    (a4 : PySem.W.nsIn K mainGlobals "content_size" = some (some (.ref fcontent_size)))
    (l4 : K.lookup fcontent_size = some ⟨oc4, od4, .func (PySem.W.fnOf "content_size" "content_size" (defArgs s_content_size) (defBody s_content_size) (defScope s_content_size) .none kV4 dc4 pm4 an4 cd4 ct4), sl4⟩) (c4 : PySem.W.codeIn K cd4 "content_size" = true) (k4 : PySem.W.keepIn K (.ref fcontent_size) = true)
    (a5 : PySem.W.nsIn K mainGlobals "scale_fits" = some (some (.ref fscale_fits)))
    (l5 : K.lookup fscale_fits = some ⟨oc5, od5, .func (PySem.W.fnOf "scale_fits" "scale_fits" (defArgs s_scale_fits) (defBody s_scale_fits) (defScope s_scale_fits) .none kV5 dc5 pm5 an5 cd5 ct5), sl5⟩) (c5 : PySem.W.codeIn K cd5 "scale_fits" = true) (k5 : PySem.W.keepIn K (.ref fscale_fits) = true)
    (a6 : PySem.W.nsIn K mainGlobals "_latest" = some (some (.ref f_latest)))
    (l6 : K.lookup f_latest = some ⟨oc6, od6, .func (PySem.W.fnOf "_latest" "_latest" (defArgs s__latest) (defBody s__latest) (defScope s__latest) .none kV6 dc6 pm6 an6 cd6 ct6), sl6⟩) (c6 : PySem.W.codeIn K cd6 "_latest" = true) (k6 : PySem.W.keepIn K (.ref f_latest) = true)
    (a7 : PySem.W.nsIn K mainGlobals "_copied_list" = some (some (.ref f_copied_list)))
    (l7 : K.lookup f_copied_list = some ⟨oc7, od7, .func (PySem.W.fnOf "_copied_list" "_copied_list" (defArgs s__copied_list) (defBody s__copied_list) (defScope s__copied_list) .none kV7 dc7 pm7 an7 cd7 ct7), sl7⟩) (c7 : PySem.W.codeIn K cd7 "_copied_list" = true) (k7 : PySem.W.keepIn K (.ref f_copied_list) = true)
    (a8 : PySem.W.nsIn K mainGlobals "_copied_dict" = some (some (.ref f_copied_dict)))
    (l8 : K.lookup f_copied_dict = some ⟨oc8, od8, .func (PySem.W.fnOf "_copied_dict" "_copied_dict" (defArgs s__copied_dict) (defBody s__copied_dict) (defScope s__copied_dict) .none kV8 dc8 pm8 an8 cd8 ct8), sl8⟩) (c8 : PySem.W.codeIn K cd8 "_copied_dict" = true) (k8 : PySem.W.keepIn K (.ref f_copied_dict) = true)
    (a9 : PySem.W.nsIn K mainGlobals "clear_picture" = some (some (.ref fclear_picture)))
    (l9 : K.lookup fclear_picture = some ⟨oc9, od9, .func (PySem.W.fnOf "clear_picture" "clear_picture" (defArgs s_clear_picture) (defBody s_clear_picture) (defScope s_clear_picture) .none kV9 dc9 pm9 an9 cd9 ct9), sl9⟩) (c9 : PySem.W.codeIn K cd9 "clear_picture" = true) (k9 : PySem.W.keepIn K (.ref fclear_picture) = true)
    (a10 : PySem.W.nsIn K mainGlobals "_law_cell" = some (some (.ref f_law_cell)))
    (l10 : K.lookup f_law_cell = some ⟨oc10, od10, .func (PySem.W.fnOf "_law_cell" "_law_cell" (defArgs s__law_cell) (defBody s__law_cell) (defScope s__law_cell) .none kV10 dc10 pm10 an10 cd10 ct10), sl10⟩) (c10 : PySem.W.codeIn K cd10 "_law_cell" = true) (k10 : PySem.W.keepIn K (.ref f_law_cell) = true)
    (a11 : PySem.W.nsIn K mainGlobals "_law_row" = some (some (.ref f_law_row)))
    (l11 : K.lookup f_law_row = some ⟨oc11, od11, .func (PySem.W.fnOf "_law_row" "_law_row" (defArgs s__law_row) (defBody s__law_row) (defScope s__law_row) .none kV11 dc11 pm11 an11 cd11 ct11), sl11⟩) (c11 : PySem.W.codeIn K cd11 "_law_row" = true) (k11 : PySem.W.keepIn K (.ref f_law_row) = true)
    (a12 : PySem.W.nsIn K mainGlobals "_law_change" = some (some (.ref f_law_change)))
    (l12 : K.lookup f_law_change = some ⟨oc12, od12, .func (PySem.W.fnOf "_law_change" "_law_change" (defArgs s__law_change) (defBody s__law_change) (defScope s__law_change) .none kV12 dc12 pm12 an12 cd12 ct12), sl12⟩) (c12 : PySem.W.codeIn K cd12 "_law_change" = true) (k12 : PySem.W.keepIn K (.ref f_law_change) = true)
    (a13 : PySem.W.nsIn K mainGlobals "_law_state" = some (some (.ref f_law_state)))
    (l13 : K.lookup f_law_state = some ⟨oc13, od13, .func (PySem.W.fnOf "_law_state" "_law_state" (defArgs s__law_state) (defBody s__law_state) (defScope s__law_state) .none kV13 dc13 pm13 an13 cd13 ct13), sl13⟩) (c13 : PySem.W.codeIn K cd13 "_law_state" = true) (k13 : PySem.W.keepIn K (.ref f_law_state) = true)
    (a14 : PySem.W.nsIn K mainGlobals "_law_alike" = some (some (.ref f_law_alike)))
    (l14 : K.lookup f_law_alike = some ⟨oc14, od14, .func (PySem.W.fnOf "_law_alike" "_law_alike" (defArgs s__law_alike) (defBody s__law_alike) (defScope s__law_alike) .none kV14 dc14 pm14 an14 cd14 ct14), sl14⟩) (c14 : PySem.W.codeIn K cd14 "_law_alike" = true) (k14 : PySem.W.keepIn K (.ref f_law_alike) = true)
    (a15 : PySem.W.nsIn K mainGlobals "_law_said" = some (some (.ref f_law_said)))
    (l15 : K.lookup f_law_said = some ⟨oc15, od15, .func (PySem.W.fnOf "_law_said" "_law_said" (defArgs s__law_said) (defBody s__law_said) (defScope s__law_said) .none kV15 dc15 pm15 an15 cd15 ct15), sl15⟩) (c15 : PySem.W.codeIn K cd15 "_law_said" = true) (k15 : PySem.W.keepIn K (.ref f_law_said) = true)
    (a16 : PySem.W.nsIn K mainGlobals "_law_size_good" = some (some (.ref f_law_size_good)))
    (l16 : K.lookup f_law_size_good = some ⟨oc16, od16, .func (PySem.W.fnOf "_law_size_good" "_law_size_good" (defArgs s__law_size_good) (defBody s__law_size_good) (defScope s__law_size_good) .none kV16 dc16 pm16 an16 cd16 ct16), sl16⟩) (c16 : PySem.W.codeIn K cd16 "_law_size_good" = true) (k16 : PySem.W.keepIn K (.ref f_law_size_good) = true)
    (a17 : PySem.W.nsIn K mainGlobals "law" = some (some (.ref flaw)))
    (l17 : K.lookup flaw = some ⟨oc17, od17, .func (PySem.W.fnOf "law" "law" (defArgs s_law) (defBody s_law) (defScope s_law) .none kV17 dc17 pm17 an17 cd17 ct17), sl17⟩) (c17 : PySem.W.codeIn K cd17 "law" = true) (k17 : PySem.W.keepIn K (.ref flaw) = true)
    (a18 : PySem.W.findIn K (.ref CContent) "__init__" = some (some (.ref fContent___init__)))
    (i18 : PySem.W.isFn K (.ref fContent___init__) = true)
    (l18 : K.lookup fContent___init__ = some ⟨oc18, od18, .func (PySem.W.fnOf "__init__" "Content.__init__" (defArgs s_Content___init__) (defBody s_Content___init__) (defScope s_Content___init__) .none kV18 dc18 pm18 an18 cd18 ct18), sl18⟩) (c18 : PySem.W.codeIn K cd18 "Content.__init__" = true) (k18 : PySem.W.keepIn K (.ref fContent___init__) = true)
    (a19 : PySem.W.findIn K (.ref CChange) "__init__" = some (some (.ref fChange___init__)))
    (i19 : PySem.W.isFn K (.ref fChange___init__) = true)
    (l19 : K.lookup fChange___init__ = some ⟨oc19, od19, .func (PySem.W.fnOf "__init__" "Change.__init__" (defArgs s_Change___init__) (defBody s_Change___init__) (defScope s_Change___init__) .none kV19 dc19 pm19 an19 cd19 ct19), sl19⟩) (c19 : PySem.W.codeIn K cd19 "Change.__init__" = true) (k19 : PySem.W.keepIn K (.ref fChange___init__) = true)
    (a20 : PySem.W.findIn K (.ref CPicture) "__init__" = some (some (.ref fPicture___init__)))
    (i20 : PySem.W.isFn K (.ref fPicture___init__) = true)
    (l20 : K.lookup fPicture___init__ = some ⟨oc20, od20, .func (PySem.W.fnOf "__init__" "Picture.__init__" (defArgs s_Picture___init__) (defBody s_Picture___init__) (defScope s_Picture___init__) .none kV20 dc20 pm20 an20 cd20 ct20), sl20⟩) (c20 : PySem.W.codeIn K cd20 "Picture.__init__" = true) (k20 : PySem.W.keepIn K (.ref fPicture___init__) = true)
    (z_dict : PySem.W.nsIn K mainGlobals "dict" = some none)
    (z_int : PySem.W.nsIn K mainGlobals "int" = some none)
    (z_len : PySem.W.nsIn K mainGlobals "len" = some none)
    (z_list : PySem.W.nsIn K mainGlobals "list" = some none)
    (z_min : PySem.W.nsIn K mainGlobals "min" = some none)
    (z_range : PySem.W.nsIn K mainGlobals "range" = some none)
    (q_CLEAR : PySem.W.nsIn K mainGlobals "CLEAR" = some (some (.int (0) tCLEAR)))
    (uContent : PySem.W.nsIn K mainGlobals "Content" = some (some (.ref CContent)))
    (pgContent : PySem.W.plainGet K CContent Str.empty = true) (hdContent : PySem.W.hasDictIn K CContent = true) (poContent : PySem.W.plainOver K CContent = true) (saContent : PySem.W.findIn K (.ref CContent) "__setattr__" = some (some (.builtin "object.__setattr__"))) (mkContent : PySem.W.makesIn K CContent = true) (kcContent : PySem.W.keepIn K (.ref CContent) = true)
    (nContent_picture : PySem.W.findIn K (.ref CContent) "picture" = some none)
    (nContent_turn : PySem.W.findIn K (.ref CContent) "turn" = some none)
    (nContent_scale : PySem.W.findIn K (.ref CContent) "scale" = some none)
    (nContent_hears : PySem.W.findIn K (.ref CContent) "hears" = some none)
    (nContent_order : PySem.W.findIn K (.ref CContent) "order" = some none)
    (nContent_places : PySem.W.findIn K (.ref CContent) "places" = some none)
    (uChange : PySem.W.nsIn K mainGlobals "Change" = some (some (.ref CChange)))
    (pgChange : PySem.W.plainGet K CChange Str.empty = true) (hdChange : PySem.W.hasDictIn K CChange = true) (poChange : PySem.W.plainOver K CChange = true) (saChange : PySem.W.findIn K (.ref CChange) "__setattr__" = some (some (.builtin "object.__setattr__"))) (mkChange : PySem.W.makesIn K CChange = true) (kcChange : PySem.W.keepIn K (.ref CChange) = true)
    (nChange_attached : PySem.W.findIn K (.ref CChange) "attached" = some none)
    (nChange_hearing : PySem.W.findIn K (.ref CChange) "hearing" = some none)
    (nChange_turn : PySem.W.findIn K (.ref CChange) "turn" = some none)
    (nChange_scale : PySem.W.findIn K (.ref CChange) "scale" = some none)
    (nChange_order : PySem.W.findIn K (.ref CChange) "order" = some none)
    (nChange_places : PySem.W.findIn K (.ref CChange) "places" = some none)
    (nChange_callbacks : PySem.W.findIn K (.ref CChange) "callbacks" = some none)
    (uPicture : PySem.W.nsIn K mainGlobals "Picture" = some (some (.ref CPicture)))
    (pgPicture : PySem.W.plainGet K CPicture Str.empty = true) (hdPicture : PySem.W.hasDictIn K CPicture = true) (poPicture : PySem.W.plainOver K CPicture = true) (saPicture : PySem.W.findIn K (.ref CPicture) "__setattr__" = some (some (.builtin "object.__setattr__"))) (mkPicture : PySem.W.makesIn K CPicture = true) (kcPicture : PySem.W.keepIn K (.ref CPicture) = true)
    (nPicture_width : PySem.W.findIn K (.ref CPicture) "width" = some none)
    (nPicture_height : PySem.W.findIn K (.ref CPicture) "height" = some none)
    (nPicture_pixels : PySem.W.findIn K (.ref CPicture) "pixels" = some none)
    (uWalk : PySem.W.nsIn K mainGlobals "Walk" = some (some (.ref CWalk)))
    (pgWalk : PySem.W.plainGet K CWalk Str.empty = true) (hdWalk : PySem.W.hasDictIn K CWalk = true) (poWalk : PySem.W.plainOver K CWalk = true) (saWalk : PySem.W.findIn K (.ref CWalk) "__setattr__" = some (some (.builtin "object.__setattr__"))) (mkWalk : PySem.W.makesIn K CWalk = true) (kcWalk : PySem.W.keepIn K (.ref CWalk) = true)
    (nWalk_width : PySem.W.findIn K (.ref CWalk) "width" = some none)
    (nWalk_height : PySem.W.findIn K (.ref CWalk) "height" = some none)
    (nWalk_first : PySem.W.findIn K (.ref CWalk) "first" = some none)
    (nWalk_right : PySem.W.findIn K (.ref CWalk) "right" = some none)
    (nWalk_down : PySem.W.findIn K (.ref CWalk) "down" = some none)
    : ∃ A : Adr, A.flaw = fa ∧ Txt K mg A ∧ (∀ (s : Shared) (v : Value), BindsTo s A.dlaw ⟨[v], []⟩ [("script", v)]) := by
  have e := hfa.symm.trans (PySem.W.mg_of X G a17)
  cases e
  have F1 := fun_mk (st := s_empty_content) l1 c1 k1
  have b1 := F1.binds (ps := ["number"]) fun _ _ _ _ _ _ us hl => match us, hl with | [_], _ => rfl
  have F2 := fun_mk (st := s_laid_over) l2 c2 k2
  have b2 := F2.binds (ps := ["first", "second"]) fun _ _ _ _ _ _ us hl => match us, hl with | [_, _], _ => rfl
  have F3 := fun_mk (st := s_changed_content) l3 c3 k3
  have b3 := F3.binds (ps := ["content", "change"]) fun _ _ _ _ _ _ us hl => match us, hl with | [_, _], _ => rfl
  have F4 := fun_mk (st := s_content_size) l4 c4 k4
  have b4 := F4.binds (ps := ["content"]) fun _ _ _ _ _ _ us hl => match us, hl with | [_], _ => rfl
  have F5 := fun_mk (st := s_scale_fits) l5 c5 k5
  have b5 := F5.binds (ps := ["content"]) fun _ _ _ _ _ _ us hl => match us, hl with | [_], _ => rfl
  have F6 := fun_mk (st := s__latest) l6 c6 k6
  have b6 := F6.binds (ps := ["before", "said"]) fun _ _ _ _ _ _ us hl => match us, hl with | [_, _], _ => rfl
  have F7 := fun_mk (st := s__copied_list) l7 c7 k7
  have b7 := F7.binds (ps := ["values"]) fun _ _ _ _ _ _ us hl => match us, hl with | [_], _ => rfl
  have F8 := fun_mk (st := s__copied_dict) l8 c8 k8
  have b8 := F8.binds (ps := ["values"]) fun _ _ _ _ _ _ us hl => match us, hl with | [_], _ => rfl
  have F9 := fun_mk (st := s_clear_picture) l9 c9 k9
  have b9 := F9.binds (ps := ["width", "height"]) fun _ _ _ _ _ _ us hl => match us, hl with | [_, _], _ => rfl
  have F10 := fun_mk (st := s__law_cell) l10 c10 k10
  have b10 := F10.binds (ps := ["script", "k"]) fun _ _ _ _ _ _ us hl => match us, hl with | [_, _], _ => rfl
  have F11 := fun_mk (st := s__law_row) l11 c11 k11
  have b11 := F11.binds (ps := ["script", "k"]) fun _ _ _ _ _ _ us hl => match us, hl with | [_, _], _ => rfl
  have F12 := fun_mk (st := s__law_change) l12 c12 k12
  have b12 := F12.binds (ps := ["row", "k"]) fun _ _ _ _ _ _ us hl => match us, hl with | [_, _], _ => rfl
  have F13 := fun_mk (st := s__law_state) l13 c13 k13
  have b13 := F13.binds (ps := ["content"]) fun _ _ _ _ _ _ us hl => match us, hl with | [_], _ => rfl
  have F14 := fun_mk (st := s__law_alike) l14 c14 k14
  have b14 := F14.binds (ps := ["one", "two"]) fun _ _ _ _ _ _ us hl => match us, hl with | [_, _], _ => rfl
  have F15 := fun_mk (st := s__law_said) l15 c15 k15
  have b15 := F15.binds (ps := ["content", "change"]) fun _ _ _ _ _ _ us hl => match us, hl with | [_, _], _ => rfl
  have F16 := fun_mk (st := s__law_size_good) l16 c16 k16
  have b16 := F16.binds (ps := ["content"]) fun _ _ _ _ _ _ us hl => match us, hl with | [_], _ => rfl
  have F17 := fun_mk (st := s_law) l17 c17 k17
  have b17 := F17.binds (ps := ["script"]) fun _ _ _ _ _ _ us hl => match us, hl with | [_], _ => rfl
  have F18 := fun_mk (st := s_Content___init__) l18 c18 k18
  have b18 := F18.binds (ps := ["self", "picture", "turn", "scale", "hears", "order", "places"]) fun _ _ _ _ _ _ us hl => match us, hl with | [_, _, _, _, _, _, _], _ => rfl
  have F19 := fun_mk (st := s_Change___init__) l19 c19 k19
  have b19 := F19.binds (ps := ["self", "attached", "hearing", "turn", "scale", "order", "places", "callbacks"]) fun _ _ _ _ _ _ us hl => match us, hl with | [_, _, _, _, _, _, _, _], _ => rfl
  have F20 := fun_mk (st := s_Picture___init__) l20 c20 k20
  have b20 := F20.binds (ps := ["self", "width", "height", "pixels"]) fun _ _ _ _ _ _ us hl => match us, hl with | [_, _, _, _], _ => rfl
  refine ⟨{ fempty_content := fempty_content, dempty_content := (PySem.W.fnOf "empty_content" "empty_content" (defArgs s_empty_content) (defBody s_empty_content) (defScope s_empty_content) .none kV1 dc1 pm1 an1 cd1 ct1), flaid_over := flaid_over, dlaid_over := (PySem.W.fnOf "laid_over" "laid_over" (defArgs s_laid_over) (defBody s_laid_over) (defScope s_laid_over) .none kV2 dc2 pm2 an2 cd2 ct2), fchanged_content := fchanged_content, dchanged_content := (PySem.W.fnOf "changed_content" "changed_content" (defArgs s_changed_content) (defBody s_changed_content) (defScope s_changed_content) .none kV3 dc3 pm3 an3 cd3 ct3), fcontent_size := fcontent_size, dcontent_size := (PySem.W.fnOf "content_size" "content_size" (defArgs s_content_size) (defBody s_content_size) (defScope s_content_size) .none kV4 dc4 pm4 an4 cd4 ct4), fscale_fits := fscale_fits, dscale_fits := (PySem.W.fnOf "scale_fits" "scale_fits" (defArgs s_scale_fits) (defBody s_scale_fits) (defScope s_scale_fits) .none kV5 dc5 pm5 an5 cd5 ct5), f_latest := f_latest, d_latest := (PySem.W.fnOf "_latest" "_latest" (defArgs s__latest) (defBody s__latest) (defScope s__latest) .none kV6 dc6 pm6 an6 cd6 ct6), f_copied_list := f_copied_list, d_copied_list := (PySem.W.fnOf "_copied_list" "_copied_list" (defArgs s__copied_list) (defBody s__copied_list) (defScope s__copied_list) .none kV7 dc7 pm7 an7 cd7 ct7), f_copied_dict := f_copied_dict, d_copied_dict := (PySem.W.fnOf "_copied_dict" "_copied_dict" (defArgs s__copied_dict) (defBody s__copied_dict) (defScope s__copied_dict) .none kV8 dc8 pm8 an8 cd8 ct8), fclear_picture := fclear_picture, dclear_picture := (PySem.W.fnOf "clear_picture" "clear_picture" (defArgs s_clear_picture) (defBody s_clear_picture) (defScope s_clear_picture) .none kV9 dc9 pm9 an9 cd9 ct9), f_law_cell := f_law_cell, d_law_cell := (PySem.W.fnOf "_law_cell" "_law_cell" (defArgs s__law_cell) (defBody s__law_cell) (defScope s__law_cell) .none kV10 dc10 pm10 an10 cd10 ct10), f_law_row := f_law_row, d_law_row := (PySem.W.fnOf "_law_row" "_law_row" (defArgs s__law_row) (defBody s__law_row) (defScope s__law_row) .none kV11 dc11 pm11 an11 cd11 ct11), f_law_change := f_law_change, d_law_change := (PySem.W.fnOf "_law_change" "_law_change" (defArgs s__law_change) (defBody s__law_change) (defScope s__law_change) .none kV12 dc12 pm12 an12 cd12 ct12), f_law_state := f_law_state, d_law_state := (PySem.W.fnOf "_law_state" "_law_state" (defArgs s__law_state) (defBody s__law_state) (defScope s__law_state) .none kV13 dc13 pm13 an13 cd13 ct13), f_law_alike := f_law_alike, d_law_alike := (PySem.W.fnOf "_law_alike" "_law_alike" (defArgs s__law_alike) (defBody s__law_alike) (defScope s__law_alike) .none kV14 dc14 pm14 an14 cd14 ct14), f_law_said := f_law_said, d_law_said := (PySem.W.fnOf "_law_said" "_law_said" (defArgs s__law_said) (defBody s__law_said) (defScope s__law_said) .none kV15 dc15 pm15 an15 cd15 ct15), f_law_size_good := f_law_size_good, d_law_size_good := (PySem.W.fnOf "_law_size_good" "_law_size_good" (defArgs s__law_size_good) (defBody s__law_size_good) (defScope s__law_size_good) .none kV16 dc16 pm16 an16 cd16 ct16), flaw := fa, dlaw := (PySem.W.fnOf "law" "law" (defArgs s_law) (defBody s_law) (defScope s_law) .none kV17 dc17 pm17 an17 cd17 ct17), fContent___init__ := fContent___init__, dContent___init__ := (PySem.W.fnOf "__init__" "Content.__init__" (defArgs s_Content___init__) (defBody s_Content___init__) (defScope s_Content___init__) .none kV18 dc18 pm18 an18 cd18 ct18), fChange___init__ := fChange___init__, dChange___init__ := (PySem.W.fnOf "__init__" "Change.__init__" (defArgs s_Change___init__) (defBody s_Change___init__) (defScope s_Change___init__) .none kV19 dc19 pm19 an19 cd19 ct19), fPicture___init__ := fPicture___init__, dPicture___init__ := (PySem.W.fnOf "__init__" "Picture.__init__" (defArgs s_Picture___init__) (defBody s_Picture___init__) (defScope s_Picture___init__) .none kV20 dc20 pm20 an20 cd20 ct20), tCLEAR := tCLEAR, CContent := CContent, CChange := CChange, CPicture := CPicture, CWalk := CWalk }, rfl, { Fempty_content := F1, bempty_content := b1, gempty_content := PySem.W.mg_of X G a1, kempty_content := k1, Flaid_over := F2, blaid_over := b2, glaid_over := PySem.W.mg_of X G a2, klaid_over := k2, Fchanged_content := F3, bchanged_content := b3, gchanged_content := PySem.W.mg_of X G a3, kchanged_content := k3, Fcontent_size := F4, bcontent_size := b4, gcontent_size := PySem.W.mg_of X G a4, kcontent_size := k4, Fscale_fits := F5, bscale_fits := b5, gscale_fits := PySem.W.mg_of X G a5, kscale_fits := k5, F_latest := F6, b_latest := b6, g_latest := PySem.W.mg_of X G a6, k_latest := k6, F_copied_list := F7, b_copied_list := b7, g_copied_list := PySem.W.mg_of X G a7, k_copied_list := k7, F_copied_dict := F8, b_copied_dict := b8, g_copied_dict := PySem.W.mg_of X G a8, k_copied_dict := k8, Fclear_picture := F9, bclear_picture := b9, gclear_picture := PySem.W.mg_of X G a9, kclear_picture := k9, F_law_cell := F10, b_law_cell := b10, g_law_cell := PySem.W.mg_of X G a10, k_law_cell := k10, F_law_row := F11, b_law_row := b11, g_law_row := PySem.W.mg_of X G a11, k_law_row := k11, F_law_change := F12, b_law_change := b12, g_law_change := PySem.W.mg_of X G a12, k_law_change := k12, F_law_state := F13, b_law_state := b13, g_law_state := PySem.W.mg_of X G a13, k_law_state := k13, F_law_alike := F14, b_law_alike := b14, g_law_alike := PySem.W.mg_of X G a14, k_law_alike := k14, F_law_said := F15, b_law_said := b15, g_law_said := PySem.W.mg_of X G a15, k_law_said := k15, F_law_size_good := F16, b_law_size_good := b16, g_law_size_good := PySem.W.mg_of X G a16, k_law_size_good := k16, Flaw := F17, blaw := b17, glaw := PySem.W.mg_of X G a17, klaw := k17, FContent___init__ := F18, bContent___init__ := b18, MContent := ⟨mkContent, a18, i18, kcContent⟩, FChange___init__ := F19, bChange___init__ := b19, MChange := ⟨mkChange, a19, i19, kcChange⟩, FPicture___init__ := F20, bPicture___init__ := b20, MPicture := ⟨mkPicture, a20, i20, kcPicture⟩, dict := PySem.W.mg_none_of X G z_dict, int := PySem.W.mg_none_of X G z_int, len := PySem.W.mg_none_of X G z_len, list := PySem.W.mg_none_of X G z_list, min := PySem.W.mg_none_of X G z_min, range := PySem.W.mg_none_of X G z_range, gCLEAR := PySem.W.mg_of X G q_CLEAR, clContent := ⟨pgContent, hdContent, poContent, saContent⟩, gContent := PySem.W.mg_of X G uContent, nContent_picture := nContent_picture, nContent_turn := nContent_turn, nContent_scale := nContent_scale, nContent_hears := nContent_hears, nContent_order := nContent_order, nContent_places := nContent_places, clChange := ⟨pgChange, hdChange, poChange, saChange⟩, gChange := PySem.W.mg_of X G uChange, nChange_attached := nChange_attached, nChange_hearing := nChange_hearing, nChange_turn := nChange_turn, nChange_scale := nChange_scale, nChange_order := nChange_order, nChange_places := nChange_places, nChange_callbacks := nChange_callbacks, clPicture := ⟨pgPicture, hdPicture, poPicture, saPicture⟩, gPicture := PySem.W.mg_of X G uPicture, nPicture_width := nPicture_width, nPicture_height := nPicture_height, nPicture_pixels := nPicture_pixels, clWalk := ⟨pgWalk, hdWalk, poWalk, saWalk⟩, gWalk := PySem.W.mg_of X G uWalk, nWalk_width := nWalk_width, nWalk_height := nWalk_height, nWalk_first := nWalk_first, nWalk_right := nWalk_right, nWalk_down := nWalk_down }, fun s v => .of_eq rfl⟩
theorem walk {l : PySem.W.OpenLaw} {q : Program} {loose : List Str} {XP : (Str → Option Value) → Heap → Prop} {YP : World → Heap → Prop} {d : DefRec} {K : Params → PySem.W.Frag} (hn : l.most = some 63) (hdf : d.params.defaults = [])
    (hY : ∀ (w : World) (h : Heap), YP w h → (K w.params).In h)
    (F : ∀ (w : World) (mg : Str → Option Value) (fa : Addr) (h : Heap), (K w.params).In h → h.Ns mainGlobals mg → mg d.name = some (.ref fa) →
      ∃ A : Adr, A.flaw = fa ∧ Txt (K w.params) mg A ∧ (∀ (s : Shared) (v : Value), BindsTo s A.dlaw ⟨[v], []⟩ [("script", v)])) :
    PySem.W.WalkO q loose XP YP l.row.toRowW d [] (fun f vs => PySem.call f vs) :=
  L2.walk_of (n := 63) (k := 5) (x := "script") (CX := fun _ => CX0) (sp := fun w => sp_law (K w.params)) hn (by decide) hdf ⟨rfl, by decide, by decide⟩ hY (fun w mg fa h X G hfa => by
    obtain ⟨A, rfl, T, b⟩ := F w mg fa h X G hfa
    exact ⟨A.dlaw, b, fun base _ _ => ok_law T⟩) (fun _ _ a ns hl _ hS => ⟨a, ns, rfl, hS, hl, fun _ => rfl⟩) fun _ _ _ _ _ z => z
end My
open PySem PySem.W PyProof.Rows
set_option maxRecDepth 100000 in
set_option maxHeartbeats 0 in
theorem PySem.Challenge.cw_sillwatch_k30_changes_laid_over_holds : PySem.Challenge.rw_sillwatch_k30_changes_laid_over.Holds := by
  w_on; o_law; k_head; (case hw => w_witness2)
  k_fill
  refine My.walk (l := PySem.Challenge.rw_sillwatch_k30_changes_laid_over) rfl rfl (fun w h Y => PySem.W.kIn_of Y) ?F
  case F =>
    intro w mg fa h KX G hmg
    refine' My.all_mk KX G hmg ?a1 ?l1 ?c1 ?k1 ?a2 ?l2 ?c2 ?k2 ?a3 ?l3 ?c3 ?k3 ?a4 ?l4 ?c4 ?k4 ?a5 ?l5 ?c5 ?k5 ?a6 ?l6 ?c6 ?k6 ?a7 ?l7 ?c7 ?k7 ?a8 ?l8 ?c8 ?k8 ?a9 ?l9 ?c9 ?k9 ?a10 ?l10 ?c10 ?k10 ?a11 ?l11 ?c11 ?k11 ?a12 ?l12 ?c12 ?k12 ?a13 ?l13 ?c13 ?k13 ?a14 ?l14 ?c14 ?k14 ?a15 ?l15 ?c15 ?k15 ?a16 ?l16 ?c16 ?k16 ?a17 ?l17 ?c17 ?k17 ?a18 ?i18 ?l18 ?c18 ?k18 ?a19 ?i19 ?l19 ?c19 ?k19 ?a20 ?i20 ?l20 ?c20 ?k20 ?z_dict ?z_int ?z_len ?z_list ?z_min ?z_range ?q_CLEAR ?uContent ?pgContent ?hdContent ?poContent ?saContent ?mkContent ?kcContent ?nContent_picture ?nContent_turn ?nContent_scale ?nContent_hears ?nContent_order ?nContent_places ?uChange ?pgChange ?hdChange ?poChange ?saChange ?mkChange ?kcChange ?nChange_attached ?nChange_hearing ?nChange_turn ?nChange_scale ?nChange_order ?nChange_places ?nChange_callbacks ?uPicture ?pgPicture ?hdPicture ?poPicture ?saPicture ?mkPicture ?kcPicture ?nPicture_width ?nPicture_height ?nPicture_pixels ?uWalk ?pgWalk ?hdWalk ?poWalk ?saWalk ?mkWalk ?kcWalk ?nWalk_width ?nWalk_height ?nWalk_first ?nWalk_right ?nWalk_down
    (case uContent => k_is)
    (case uChange => k_is)
    (case uPicture => k_is)
    (case uWalk => k_is)
    (case a1 => k_is)
    (case l1 => k_is)
    (case c1 => k_is)
    (case k1 => k_is)
    (case a2 => k_is)
    (case l2 => k_is)
    (case c2 => k_is)
    (case k2 => k_is)
    (case a3 => k_is)
    (case l3 => k_is)
    (case c3 => k_is)
    (case k3 => k_is)
    (case a4 => k_is)
    (case l4 => k_is)
    (case c4 => k_is)
    (case k4 => k_is)
    (case a5 => k_is)
    (case l5 => k_is)
    (case c5 => k_is)
    (case k5 => k_is)
    (case a6 => k_is)
    (case l6 => k_is)
    (case c6 => k_is)
    (case k6 => k_is)
    (case a7 => k_is)
    (case l7 => k_is)
    (case c7 => k_is)
    (case k7 => k_is)
    (case a8 => k_is)
    (case l8 => k_is)
    (case c8 => k_is)
    (case k8 => k_is)
    (case a9 => k_is)
    (case l9 => k_is)
    (case c9 => k_is)
    (case k9 => k_is)
    (case a10 => k_is)
    (case l10 => k_is)
    (case c10 => k_is)
    (case k10 => k_is)
    (case a11 => k_is)
    (case l11 => k_is)
    (case c11 => k_is)
    (case k11 => k_is)
    (case a12 => k_is)
    (case l12 => k_is)
    (case c12 => k_is)
    (case k12 => k_is)
    (case a13 => k_is)
    (case l13 => k_is)
    (case c13 => k_is)
    (case k13 => k_is)
    (case a14 => k_is)
    (case l14 => k_is)
    (case c14 => k_is)
    (case k14 => k_is)
    (case a15 => k_is)
    (case l15 => k_is)
    (case c15 => k_is)
    (case k15 => k_is)
    (case a16 => k_is)
    (case l16 => k_is)
    (case c16 => k_is)
    (case k16 => k_is)
    (case a17 => k_is)
    (case l17 => k_is)
    (case c17 => k_is)
    (case k17 => k_is)
    (case a18 => k_is)
    (case i18 => k_is)
    (case l18 => k_is)
    (case c18 => k_is)
    (case k18 => k_is)
    (case a19 => k_is)
    (case i19 => k_is)
    (case l19 => k_is)
    (case c19 => k_is)
    (case k19 => k_is)
    (case a20 => k_is)
    (case i20 => k_is)
    (case l20 => k_is)
    (case c20 => k_is)
    (case k20 => k_is)
    (case z_dict => k_is)
    (case z_int => k_is)
    (case z_len => k_is)
    (case z_list => k_is)
    (case z_min => k_is)
    (case z_range => k_is)
    (case q_CLEAR => k_is)
    (case pgContent => k_is)
    (case hdContent => k_is)
    (case poContent => k_is)
    (case saContent => k_is)
    (case mkContent => k_is)
    (case kcContent => k_is)
    (case nContent_picture => k_is)
    (case nContent_turn => k_is)
    (case nContent_scale => k_is)
    (case nContent_hears => k_is)
    (case nContent_order => k_is)
    (case nContent_places => k_is)
    (case pgChange => k_is)
    (case hdChange => k_is)
    (case poChange => k_is)
    (case saChange => k_is)
    (case mkChange => k_is)
    (case kcChange => k_is)
    (case nChange_attached => k_is)
    (case nChange_hearing => k_is)
    (case nChange_turn => k_is)
    (case nChange_scale => k_is)
    (case nChange_order => k_is)
    (case nChange_places => k_is)
    (case nChange_callbacks => k_is)
    (case pgPicture => k_is)
    (case hdPicture => k_is)
    (case poPicture => k_is)
    (case saPicture => k_is)
    (case mkPicture => k_is)
    (case kcPicture => k_is)
    (case nPicture_width => k_is)
    (case nPicture_height => k_is)
    (case nPicture_pixels => k_is)
    (case pgWalk => k_is)
    (case hdWalk => k_is)
    (case poWalk => k_is)
    (case saWalk => k_is)
    (case mkWalk => k_is)
    (case kcWalk => k_is)
    (case nWalk_width => k_is)
    (case nWalk_height => k_is)
    (case nWalk_first => k_is)
    (case nWalk_right => k_is)
    (case nWalk_down => k_is)
