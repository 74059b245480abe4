import PyProof.Rows.All
import Wide.All
import OpenK.AllK
import Wide.FinOn
import HandS.ForMost
import HandS.Exc
import HandS.TryOnly
import HandS.ExcOwn
import HandS.WordsExc
import HandS.IsInst
import HandS.Wide
import HandS.Flow
import HandS.More
import HandS.Codes
import HandS.Walk
import HandS.TupLe
import HandS.WordsDict
import HandS.Conv
import HandS.TryMany
import HandS.ExcIs
import KE.KBits
import HandS.CallLocal
import HandS.Strs
import HandS.SetFor
import HandS.Set
import HandS.Property
import PySem.Challenge.RW_sillwatch_k10_owned_objects
set_option Elab.async false
set_option linter.all false
set_option maxRecDepth 100000
set_option maxHeartbeats 4000000
namespace My
open PySem L2
def topS (i : Nat) : Stmt := PySem.Challenge.pw_sillwatch_k10_owned_objects.main.body.getD i (.Pass ⟨0, 0, 0, 0⟩)
abbrev s__law_cell : Stmt := topS 7
abbrev s__law_row : Stmt := topS 8
abbrev s__law_agrees : Stmt := topS 9
abbrev s_law : Stmt := topS 10
abbrev s_Objects___init__ : Stmt := inClass (topS 5) 0
abbrev s_Objects_interface_of : Stmt := inClass (topS 5) 1
abbrev s_Objects_numbers : Stmt := inClass (topS 5) 2
abbrev s_Objects_may_give : Stmt := inClass (topS 5) 3
abbrev s_Objects_is_full : Stmt := inClass (topS 5) 4
abbrev s_Objects_give : Stmt := inClass (topS 5) 5
abbrev s_Objects_make : Stmt := inClass (topS 5) 6
abbrev s_Objects_end : Stmt := inClass (topS 5) 7
structure Adr where
  f_law_cell : Addr
  d_law_cell : FuncData
  f_law_row : Addr
  d_law_row : FuncData
  f_law_agrees : Addr
  d_law_agrees : FuncData
  flaw : Addr
  dlaw : FuncData
  fObjects___init__ : Addr
  dObjects___init__ : FuncData
  fObjects_interface_of : Addr
  dObjects_interface_of : FuncData
  fObjects_numbers : Addr
  dObjects_numbers : FuncData
  fObjects_may_give : Addr
  dObjects_may_give : FuncData
  fObjects_is_full : Addr
  dObjects_is_full : FuncData
  fObjects_give : Addr
  dObjects_give : FuncData
  fObjects_make : Addr
  dObjects_make : FuncData
  fObjects_end : Addr
  dObjects_end : FuncData
  tDISPLAY : Tok
  tLEAST_GIVEN : Tok
  tGREATEST_GIVEN : Tok
  tMOST_OBJECTS : Tok
  CObjects : Addr
structure Txt (K : PySem.W.Frag) (mg : Str → Option Value) (A : Adr) : Prop where
  F_law_cell : Fun K "_law_cell" "_law_cell" s__law_cell A.f_law_cell A.d_law_cell
  b_law_cell : Binds K A.d_law_cell ["script", "k"] []
  g_law_cell : mg "_law_cell" = some (.ref A.f_law_cell)
  k_law_cell : PySem.W.keepIn K (.ref A.f_law_cell) = true
  F_law_row : Fun K "_law_row" "_law_row" s__law_row A.f_law_row A.d_law_row
  b_law_row : Binds K A.d_law_row ["script", "k"] []
  g_law_row : mg "_law_row" = some (.ref A.f_law_row)
  k_law_row : PySem.W.keepIn K (.ref A.f_law_row) = true
  F_law_agrees : Fun K "_law_agrees" "_law_agrees" s__law_agrees A.f_law_agrees A.d_law_agrees
  b_law_agrees : Binds K A.d_law_agrees ["objects", "rows", "asked"] []
  g_law_agrees : mg "_law_agrees" = some (.ref A.f_law_agrees)
  k_law_agrees : PySem.W.keepIn K (.ref A.f_law_agrees) = true
  Flaw : Fun K "law" "law" s_law A.flaw A.dlaw
  blaw : Binds K A.dlaw ["script"] []
  glaw : mg "law" = some (.ref A.flaw)
  klaw : PySem.W.keepIn K (.ref A.flaw) = true
  FObjects___init__ : Fun K "__init__" "Objects.__init__" s_Objects___init__ A.fObjects___init__ A.dObjects___init__
  bObjects___init__ : Binds K A.dObjects___init__ ["self"] []
  MObjects : Mk K A.CObjects A.fObjects___init__
  FObjects_interface_of : Fun K "interface_of" "Objects.interface_of" s_Objects_interface_of A.fObjects_interface_of A.dObjects_interface_of
  bObjects_interface_of : Binds K A.dObjects_interface_of ["self", "number"] []
  mObjects_interface_of : Meth K A.CObjects "interface_of" A.fObjects_interface_of
  FObjects_numbers : Fun K "numbers" "Objects.numbers" s_Objects_numbers A.fObjects_numbers A.dObjects_numbers
  bObjects_numbers : Binds K A.dObjects_numbers ["self"] []
  mObjects_numbers : Meth K A.CObjects "numbers" A.fObjects_numbers
  FObjects_may_give : Fun K "may_give" "Objects.may_give" s_Objects_may_give A.fObjects_may_give A.dObjects_may_give
  bObjects_may_give : Binds K A.dObjects_may_give ["self", "number"] []
  mObjects_may_give : Meth K A.CObjects "may_give" A.fObjects_may_give
  FObjects_is_full : Fun K "is_full" "Objects.is_full" s_Objects_is_full A.fObjects_is_full A.dObjects_is_full
  bObjects_is_full : Binds K A.dObjects_is_full ["self"] []
  mObjects_is_full : Meth K A.CObjects "is_full" A.fObjects_is_full
  FObjects_give : Fun K "give" "Objects.give" s_Objects_give A.fObjects_give A.dObjects_give
  bObjects_give : Binds K A.dObjects_give ["self", "number", "interface"] []
  mObjects_give : Meth K A.CObjects "give" A.fObjects_give
  FObjects_make : Fun K "make" "Objects.make" s_Objects_make A.fObjects_make A.dObjects_make
  bObjects_make : Binds K A.dObjects_make ["self", "interface"] []
  mObjects_make : Meth K A.CObjects "make" A.fObjects_make
  FObjects_end : Fun K "end" "Objects.end" s_Objects_end A.fObjects_end A.dObjects_end
  bObjects_end : Binds K A.dObjects_end ["self", "number"] []
  mObjects_end : Meth K A.CObjects "end" A.fObjects_end
  int : mg "int" = none
  len : mg "len" = none
  list : mg "list" = none
  min : mg "min" = none
  range : mg "range" = none
  gDISPLAY : mg "DISPLAY" = some (.int (1) A.tDISPLAY)
  gLEAST_GIVEN : mg "LEAST_GIVEN" = some (.int (2) A.tLEAST_GIVEN)
  gGREATEST_GIVEN : mg "GREATEST_GIVEN" = some (.int (4278190079) A.tGREATEST_GIVEN)
  gMOST_OBJECTS : mg "MOST_OBJECTS" = some (.int (512) A.tMOST_OBJECTS)
  clObjects : Cls K A.CObjects
  gObjects : mg "Objects" = some (.ref A.CObjects)
  nObjects__interfaces : NoAttr K A.CObjects "_interfaces"
  nObjects__next_made : NoAttr K A.CObjects "_next_made"
section
variable {P : Program} {w : World} {K : PySem.W.Frag} {mg : Str → Option Value} {base : Heap} {A : Adr}
/-! ### common: tests, errors, small words -/
theorem exm_self {K : PySem.W.Frag} {S : Addr} (h1 : PySem.W.subIn K (.ref S) (.type "BaseException") = some true) (h2 : PySem.W.isClsIn K S = true) (h3 : PySem.W.typeIn K (.ref S) = some (.type "type")) (h4 : PySem.W.subIn K (.ref S) (.ref S) = some true) :
    PySem.W.exmOne K (.ref S) (.ref S) = some true := by
  have g1 : (PySem.W.subIn K (.ref S) (.type "BaseException") == some true) = true := by rw [h1]; rfl
  have g0 : (PySem.W.clsIn K S).isSome = true := h2
  have g2 : ((PySem.W.clsIn K S).isSome && PySem.W.typeIn K (.ref S) == some (.type "type")) = true := by rw [g0, h3]; rfl
  show (if (PySem.W.subIn K (.ref S) (.type "BaseException") == some true) = true then (if ((PySem.W.clsIn K S).isSome && PySem.W.typeIn K (.ref S) == some (.type "type")) = true then PySem.W.subIn K (.ref S) (.ref S) else none) else none) = some true
  rw [if_pos g1, if_pos g2]
  exact h4
theorem exm_cross {K : PySem.W.Frag} {S R : Addr} {b : Bool} (h1 : PySem.W.subIn K (.ref S) (.type "BaseException") = some true) (h2 : PySem.W.isClsIn K S = true) (h3 : PySem.W.typeIn K (.ref S) = some (.type "type")) (h4 : PySem.W.subIn K (.ref R) (.ref S) = some b) :
    PySem.W.exmOne K (.ref R) (.ref S) = some b := by
  have g1 : (PySem.W.subIn K (.ref S) (.type "BaseException") == some true) = true := by rw [h1]; rfl
  have g0 : (PySem.W.clsIn K S).isSome = true := h2
  have g2 : ((PySem.W.clsIn K S).isSome && PySem.W.typeIn K (.ref S) == some (.type "type")) = true := by rw [g0, h3]; rfl
  show (if (PySem.W.subIn K (.ref S) (.type "BaseException") == some true) = true then (if ((PySem.W.clsIn K S).isSome && PySem.W.typeIn K (.ref S) == some (.type "type")) = true then PySem.W.subIn K (.ref R) (.ref S) else none) else none) = some b
  rw [if_pos g1, if_pos g2]
  exact h4
/-- the law's own promise -/
def sp_law (K : PySem.W.Frag) : Sp := fun vs H Q _ => ∃ (a : Addr) (ns : List Int), vs = [.ref a] ∧ SqL K H a (ns.map V.int) ∧ ns.length ≤ 63 ∧ ∀ H', Q (.bl true) H'
theorem iteP {p A B : Prop} [Decidable p] (h1 : p → A) (h2 : ¬ p → B) : if decide p = true then A else B := by
  by_cases h : p
  · rw [decide_eq_true h]; exact iteT (h1 h)
  · rw [decide_eq_false h]; exact iteF (h2 h)
theorem iteN {p A B : Prop} [Decidable p] (h1 : ¬ p → A) (h2 : p → B) : if (!decide p) = true then A else B := by
  by_cases h : p
  · rw [decide_eq_true h]; exact iteF (h2 h)
  · rw [decide_eq_false h]; exact iteT (h1 h)
theorem iteEq {i j : Int} {A B : Prop} (h1 : i = j → A) (h2 : i ≠ j → B) : if decide (V.int i = V.int j) = true then A else B :=
  iteP (fun h => h1 (V.int.inj h)) (fun h => h2 fun e => h (congrArg V.int e))
theorem iteNe {i j : Int} {A B : Prop} (h1 : i ≠ j → A) (h2 : i = j → B) : if (!decide (V.int i = V.int j)) = true then A else B :=
  iteN (fun h => h1 fun e => h (congrArg V.int e)) (fun h => h2 (V.int.inj h))
theorem if_t {b : Bool} {A B : Prop} (e : b = true) (h : A) : if b = true then A else B := by rw [if_pos e]; exact h
theorem if_f {b : Bool} {A B : Prop} (e : b = false) (h : B) : if b = true then A else B := by rw [e]; exact iteF h
theorem if_b {b : Bool} {A B : Prop} (h1 : b = true → A) (h2 : b = false → B) : if b = true then A else B := by
  cases b with
  | true => exact iteT (h1 rfl)
  | false => exact iteF (h2 rfl)
theorem same_upd {H : Hp} {p : Addr} {o : HO} (h : H p = none) : Same H (upd H p o) := fun b x e => by
  rw [upd_ne (ne_of_none e h)]
  exact e
theorem len_line {n : Nat} (h : n ≤ 100000) : n ≤ sizeLine := Nat.le_trans h (by decide)
theorem lt_line {n : Nat} (h : n < 100000) : n < sizeLine := Nat.lt_of_lt_of_le h (by decide)
local macro_rules | `(tactic| walk_at "rd") => `(tactic| repeat (first
  | refine ⟨_, rfl, ?_⟩
  | refine ⟨_, _, rfl, rfl, ?_⟩
  | refine ⟨rfl, ?_⟩
  | refine Or.inl ⟨_, rfl, ?_⟩
  | refine ⟨(by show (0 : Int) < _; decide), ?_⟩
  | refine ⟨(⟨by decide, by decide⟩ : CDiv _ _), ?_⟩
  | refine ⟨(Or.inl ⟨by decide, by decide⟩ : CMul _ _), ?_⟩
  | refine ⟨(Or.inr ⟨by decide, by decide⟩ : CMul _ _), ?_⟩))
/-! ### data that are compared -/
def Sh (n : Nat) (d : PyData) : Prop := d.canLay0 = true ∧ d.depth ≤ n
theorem Sh.mono {n m : Nat} {d : PyData} (h : Sh n d) (l : n ≤ m) : Sh m d := ⟨h.1, Nat.le_trans h.2 l⟩
theorem sh_all : ∀ {n : Nat} {ds : List PyData}, (∀ d ∈ ds, Sh n d) → PyData.canLayAll0 ds = true ∧ PyData.depthAll ds ≤ n
  | n, [], _ => ⟨by simp [PyData.canLayAll0], by simp [PyData.depthAll]⟩
  | n, d :: ds, h => by
    have h1 := h d List.mem_cons_self
    have h2 := sh_all fun e he => h e (List.mem_cons_of_mem _ he)
    refine ⟨?_, ?_⟩
    · simp only [PyData.canLayAll0, Bool.and_eq_true]; exact ⟨h1.1, h2.1⟩
    · simp only [PyData.depthAll]; exact Nat.max_le.mpr ⟨h1.2, h2.2⟩
theorem sh_list {n : Nat} {ds : List PyData} (h : ∀ d ∈ ds, Sh n d) : Sh (n + 1) (.list ds) := by
  have q := sh_all h
  exact ⟨by simp only [PyData.canLay0]; exact q.1, by simp only [PyData.depth]; exact Nat.succ_le_succ q.2⟩
theorem sh_tuple {n : Nat} {ds : List PyData} (h : ∀ d ∈ ds, Sh n d) : Sh (n + 1) (.tuple ds) := by
  have q := sh_all h
  exact ⟨by simp only [PyData.canLay0]; exact q.1, by simp only [PyData.depth]; exact Nat.succ_le_succ q.2⟩
theorem sh_int (i : Int) : Sh 0 (.int i) := ⟨by simp [PyData.canLay0], by simp [PyData.depth]⟩
theorem sh_bool (i : Bool) : Sh 0 (.bool i) := ⟨by simp [PyData.canLay0], by simp [PyData.depth]⟩
theorem sh_none : Sh 0 .none := ⟨by simp [PyData.canLay0], by simp [PyData.depth]⟩
theorem sh_str {s : Str} (h : PyData.strOk s = true) : Sh 0 (.str s) := ⟨by simp only [PyData.canLay0]; exact h, by simp [PyData.depth]⟩
theorem Sh.shaped {n : Nat} {d : PyData} (h : Sh n d) (l : n ≤ 64 := by decide) : SeqAt.shaped d = true := by
  show (d.canLay0 && decide (d.depth ≤ 64)) = true
  rw [h.1, decide_eq_true (Nat.le_trans h.2 l)]
  rfl
theorem Sh.self {n : Nat} {d : PyData} (h : Sh n d) : PyData.eqv d d = true := SeqAt.eqv_refl d h.1
def pInts (xs : List Int) : PyData := .list (xs.map PyData.int)
theorem sh_ints (xs : List Int) : Sh 1 (pInts xs) := sh_list fun d hd => by
  obtain ⟨i, _, rfl⟩ := List.mem_map.mp hd
  exact sh_int i
theorem dpall_ints {K : PySem.W.Frag} {H : Hp} : ∀ xs : List Int, DpAll K H (xs.map V.int) (xs.map PyData.int)
  | [] => .nil
  | x :: r => .cons (.int x) (dpall_ints r)
theorem dp_ints {K : PySem.W.Frag} {H : Hp} {p : Addr} {xs : List Int} (h : SqL K H p (xs.map V.int)) : Dp K H (.ref p) (pInts xs) := .lst h (dpall_ints xs)
/-! ### views: what is new, what stands -/
structure Ext (V H V' H' : Hp) : Prop where
  vv : Same V V'
  vh : Same V' H'
  hh : Same H H'
  nw : ∀ a, V' a ≠ none → V a ≠ none ∨ H a = none
theorem Ext.refl {V H : Hp} (h : Same V H) : Ext V H V H := ⟨Same.refl V, h, Same.refl H, fun _ h => Or.inl h⟩
theorem Ext.trans {V H V1 H1 V2 H2 : Hp} (a : Ext V H V1 H1) (b : Ext V1 H1 V2 H2) : Ext V H V2 H2 :=
  ⟨a.vv.trans b.vv, b.vh, a.hh.trans b.hh, fun x h => by
    rcases b.nw x h with q | q
    · exact a.nw x q
    · exact Or.inr (a.hh.free q)⟩
theorem none_of_same {V H : Hp} {p : Addr} (s : Same V H) (h : H p = none) : V p = none := s.free h
theorem Ext.new {V H : Hp} {p : Addr} {o : HO} (s : Same V H) (h : H p = none) : Ext V H (upd V p o) (upd H p o) :=
  ⟨same_upd (s.free h), fun b u e => by
    by_cases hb : b = p
    · subst hb; rw [upd_same] at e ⊢; exact e
    · rw [upd_ne hb] at e ⊢; exact s b u e, same_upd h, fun a e => by
    by_cases ha : a = p
    · subst ha; exact Or.inr h
    · rw [upd_ne ha] at e; exact Or.inl e⟩
/-- a new object that the view does not take in -/
theorem Ext.skip {V H : Hp} {p : Addr} {o : HO} (s : Same V H) (h : H p = none) : Ext V H V (upd H p o) :=
  ⟨Same.refl V, s.trans (same_upd h), same_upd h, fun _ e => Or.inl e⟩
theorem Ext.keepOut {V H V' H' : Hp} (x : Ext V H V' H') {D : Addr} (h : V D = none) (hd : H D ≠ none) : V' D = none := by
  cases e : V' D with
  | none => rfl
  | some o =>
    rcases x.nw D (by rw [e]; exact fun z => by cases z) with q | q
    · exact absurd h q
    · exact absurd q hd
/-- an object outside of the view changes -/
theorem Ext.poke {V H V' H' : Hp} (x : Ext V H V' H') {D : Addr} {o : HO} (hd : H D = none) (h : V' D = none) : Ext V H V' (upd H' D o) :=
  ⟨x.vv, fun b u e => by
    have hb : b ≠ D := fun z => by rw [z, h] at e; cases e
    rw [upd_ne hb]; exact x.vh b u e, fun b u e => by
    have hb : b ≠ D := ne_of_none e hd
    rw [upd_ne hb]; exact x.hh b u e, x.nw⟩
/-- the object at D, done, is taken in -/
theorem Ext.take {V H V' H' : Hp} (x : Ext V H V' H') {D : Addr} {o : HO} (hd : H D = none) (h : V' D = none) (e : H' D = some o) : Ext V H (upd V' D o) H' :=
  ⟨x.vv.trans (same_upd h), fun b u q => by
    by_cases hb : b = D
    · subst hb; rw [upd_same] at q; rw [e]; exact q
    · rw [upd_ne hb] at q; exact x.vh b u q, x.hh, fun a q => by
    by_cases ha : a = D
    · subst ha; exact Or.inr hd
    · rw [upd_ne ha] at q; exact x.nw a q⟩
theorem _root_.L2.Same.sqt {K : PySem.W.Frag} {H H' : Hp} {a : Addr} {xs : List V} (e : Same H H') (h : SqT K H a xs) : SqT K H' a xs := by
  rcases h with (h | ⟨o, h⟩) | h
  · exact .inl (.inl (e _ _ h))
  · exact .inl (.inr ⟨o, e _ _ h⟩)
  · exact .inr h
mutual
theorem dp_same {K : PySem.W.Frag} {H H' : Hp} (s : Same H H') : ∀ (d : PyData) (v : V), Dp K H v d → Dp K H' v d
  | .none, _, h => by cases h; exact .non
  | .bool b, _, h => by cases h; exact .bl b
  | .int i, _, h => by cases h; exact .int i
  | .str x, _, h => by cases h; exact .str x
  | .list ds, _, h => by
    cases h with
    | lst q r => exact .lst (s.seq q) (dpall_same s ds _ r)
  | .tuple ds, _, h => by
    cases h with
    | tup q r => exact .tup (s.sqt q) (dpall_same s ds _ r)
  | .dict _, _, h => by cases h
theorem dpall_same {K : PySem.W.Frag} {H H' : Hp} (s : Same H H') : ∀ (ds : List PyData) (vs : List V), DpAll K H vs ds → DpAll K H' vs ds
  | [], _, h => by cases h; exact .nil
  | d :: ds, _, h => by
    cases h with
    | cons q r => exact .cons (dp_same s d _ q) (dpall_same s ds _ r)
end
theorem _root_.L2.Dp.to {K : PySem.W.Frag} {H H' : Hp} {v : V} {d : PyData} (h : Dp K H v d) (s : Same H H') : Dp K H' v d := dp_same s d v h
theorem _root_.L2.DpAll.to {K : PySem.W.Frag} {H H' : Hp} {v : List V} {d : List PyData} (h : DpAll K H v d) (s : Same H H') : DpAll K H' v d := dpall_same s d v h
theorem dpall_len {K : PySem.W.Frag} {H : Hp} : ∀ {vs : List V} {ds : List PyData}, DpAll K H vs ds → vs.length = ds.length
  | _, [], h => by cases h; rfl
  | _, d :: ds, h => by
    cases h with
    | cons q r => exact congrArg (· + 1) (dpall_len r)
theorem dpall_get {K : PySem.W.Frag} {H : Hp} : ∀ {vs : List V} {ds : List PyData} {i : Nat} {v : V}, DpAll K H vs ds → vs[i]? = some v → ∃ d, ds[i]? = some d ∧ Dp K H v d
  | _, [], i, v, h, e => by cases h; cases e
  | _, d :: ds, i, v, h, e => by
    cases h with
    | cons q r =>
      match i, e with
      | 0, e => cases e; exact ⟨d, rfl, q⟩
      | i + 1, e => exact dpall_get (i := i) r e
theorem dpall_get' {K : PySem.W.Frag} {H : Hp} : ∀ {vs : List V} {ds : List PyData} {i : Nat} {d : PyData}, DpAll K H vs ds → ds[i]? = some d → ∃ v, vs[i]? = some v ∧ Dp K H v d
  | _, [], i, d, h, e => by cases e
  | _, d :: ds, i, d', h, e => by
    cases h with
    | cons q r =>
      match i, e with
      | 0, e => cases e; exact ⟨_, rfl, q⟩
      | i + 1, e => exact dpall_get' (i := i) r e
theorem dpall_app {K : PySem.W.Frag} {H : Hp} : ∀ {vs ws : List V} {ds es : List PyData}, DpAll K H vs ds → DpAll K H ws es → DpAll K H (vs ++ ws) (ds ++ es)
  | _, _, [], _, h, g => by cases h; exact g
  | _, _, d :: ds, _, h, g => by
    cases h with
    | cons q r => exact .cons q (dpall_app r g)
theorem dp_list {K : PySem.W.Frag} {H : Hp} {v : V} {ds : List PyData} (h : Dp K H v (.list ds)) : ∃ a xs, v = .ref a ∧ SqL K H a xs ∧ DpAll K H xs ds := by
  cases h with
  | lst q r => exact ⟨_, _, rfl, q, r⟩
theorem dp_tuple {K : PySem.W.Frag} {H : Hp} {v : V} {ds : List PyData} (h : Dp K H v (.tuple ds)) : ∃ a xs, v = .ref a ∧ SqT K H a xs ∧ DpAll K H xs ds := by
  cases h with
  | tup q r => exact ⟨_, _, rfl, q, r⟩
theorem dp_int {K : PySem.W.Frag} {H : Hp} {v : V} {i : Int} (h : Dp K H v (.int i)) : v = .int i := by cases h; rfl
theorem dp_str {K : PySem.W.Frag} {H : Hp} {v : V} {i : Str} (h : Dp K H v (.str i)) : v = .str i := by cases h; rfl
theorem dp_bool {K : PySem.W.Frag} {H : Hp} {v : V} {i : Bool} (h : Dp K H v (.bool i)) : v = .bl i := by cases h; rfl
/-! ### comprehensions over any walk -/
def fm {α : Type} (f : Nat → Option α) (n : Nat) : List α := (List.range n).filterMap f
theorem fm_succ {α : Type} (f : Nat → Option α) (n : Nat) : fm f (n + 1) = fm f n ++ (f n).toList := by
  unfold fm
  rw [List.range_succ, List.filterMap_append]
  congr 1
theorem fm_len {α : Type} (f : Nat → Option α) (n : Nat) : (fm f n).length ≤ n := by
  have h := List.length_filterMap_le f (List.range n)
  rw [List.length_range] at h
  exact h
structure LcInv (K : PySem.W.Frag) (V0 H0 : Hp) (D : Addr) (acc : List PyData) (H : Hp) : Prop where
  ex : ∃ V xs, Ext V0 H0 V H ∧ V D = none ∧ H D = some (.lst xs) ∧ DpAll K V xs acc
theorem LcInv.start {K : PySem.W.Frag} {V0 H0 : Hp} {D : Addr} (s : Same V0 H0) (hD : H0 D = none) : LcInv K V0 H0 D [] (upd H0 D (.lst [])) :=
  ⟨V0, [], Ext.skip s hD, s.free hD, upd_same, .nil⟩
theorem LcInv.done {K : PySem.W.Frag} {V0 H0 H : Hp} {D : Addr} {acc : List PyData} (hD : H0 D = none) (i : LcInv K V0 H0 D acc H) : ∃ U xs, Ext V0 H0 U H ∧ U D = some (.lst xs) ∧ DpAll K U xs acc ∧ Dp K U (.ref D) (.list acc) := by
  obtain ⟨V, xs, x, hv, hd, dp⟩ := i.ex
  exact ⟨_, xs, x.take hD hv hd, upd_same, dp.to (same_upd hv), .lst (SqL.of upd_same) (dp.to (same_upd hv))⟩
/-- one more item -/
theorem LcInv.push {K : PySem.W.Frag} {V0 H0 U H U' H' : Hp} {D : Addr} {acc : List PyData} {xs : List V} {y : V} {d : PyData} (hD : H0 D = none) (x : Ext V0 H0 U H) (hv : U D = none) (hd : H D = some (.lst xs)) (dp : DpAll K U xs acc)
    (x2 : Ext U H U' H') (e : Dp K U' y d) (hl : acc.length < 100000) :
    ∃ acc', H' D = some (.lst acc') ∧ acc'.length < sizeLine ∧ LcInv K V0 H0 D (acc ++ [d]) (upd H' D (.lst (acc' ++ [y]))) := by
  have hv' : U' D = none := x2.keepOut hv (by rw [hd]; exact fun z => by cases z)
  refine ⟨xs, x2.hh _ _ hd, lt_line (by rw [dpall_len dp]; exact hl), U', xs ++ [y], (x.trans x2).poke hD hv', hv', upd_same, dpall_app (dp.to x2.vv) (.cons e .nil)⟩
/-- a comprehension's reading over a walk that leaves the heap as it is: at turn i the item x, then f i: the data of what is put in, or none -/
theorem lc_dp0 {J : It} {n : Nat} {G : Hp → Prop} {Y : Nat → Hp → V → Hp → Prop} (wk : Walk J n G Y) {K : PySem.W.Frag} {V0 H0 : Hp} {D : Addr} {g : TG} {tt : TT} {te : TE} {vs : List Nat} {σ : St} {Qd : Hp → Prop} (f : Nat → Option PyData) (σ0 : St) (hσ : wipe σ vs = σ0) (s0 : Same V0 H0) (hD : H0 D = none) (hn : n < 100000)
    (hG : ∀ H, Same H0 H → G H) (hY : ∀ i H x H', Y i H x H' → H' = H)
    (hs : ∀ i x V H, i < n → Ext V0 H0 V H → Y i H x H → ∀ (Qy : VK) (Qn : Hp → Prop), (∀ d y V' H', f i = some d → Ext V H V' H' → Dp K V' y d → Qy y H') → (f i = none → ∀ V' H', Ext V H V' H' → Qn H') →
      g x σ0 H fun σ2 H2 => wipe σ2 vs = σ0 ∧ tt σ2 H2 fun b H3 => if b = true then te σ2 H3 Qy else Qn H3)
    (hd : ∀ (U H : Hp) (xs : List V), Ext V0 H0 U H → U D = none → H D = some (.lst xs) → DpAll K U xs (fm f n) → Qd H) :
    ∃ W : Nat → Nat → Hp → Prop, (∃ m, W 0 m (upd H0 D (.lst []))) ∧ ∀ i m H, W i m H →
      (J.stop i H ∧ Qd H) ∨ (J.go i H ∧ ∃ Nx : Hp → Prop, (∀ H', Nx H' → ∃ m', m' < m ∧ W (i + 1) m' H') ∧ ∀ x H', J.yld i H x H' → g x (wipe σ vs) H' fun σ2 H2 => wipe σ2 vs = wipe σ vs ∧ tt σ2 H2 fun b H3 =>
        if b = true then te σ2 H3 fun y H4 => ∃ acc, H4 D = some (.lst acc) ∧ acc.length < sizeLine ∧ Nx (upd H4 D (.lst (acc ++ [y]))) else Nx H3) := by
  subst hσ
  refine lc_it wk (fun i H => LcInv K V0 H0 D (fm f i) H) (LcInv.start s0 hD) (fun i H _ p => ?_) (fun i x H H' hi p y => ?_) (fun H p => ?_)
  · obtain ⟨V, xs, x, _⟩ := p.ex
    exact hG H x.hh
  · obtain ⟨V, xs, x0, hv, hdd, dp⟩ := p.ex
    obtain rfl := hY i H x H' y
    refine hs i x V H' hi x0 y _ _ (fun d y' V' H4 e x2 dy => ?_) (fun e V' H4 x2 => ?_)
    · have hl : (fm f i).length < 100000 := Nat.lt_of_le_of_lt (fm_len f i) (Nat.lt_trans hi hn)
      obtain ⟨acc', a1, a2, a3⟩ := LcInv.push hD x0 hv hdd dp x2 dy hl
      refine ⟨acc', a1, a2, ?_⟩
      rw [fm_succ, e]
      exact a3
    · have hv' : V' D = none := x2.keepOut hv (by rw [hdd]; exact fun z => by cases z)
      rw [fm_succ, e]
      show LcInv K V0 H0 D (fm f i ++ []) H4
      rw [List.append_nil]
      exact ⟨V', xs, x0.trans x2, hv', x2.hh _ _ hdd, dp.to x2.vv⟩
  · obtain ⟨U, xs, x, hv, hdd, dp⟩ := p.ex
    exact hd U H xs x hv hdd dp
/-- a comprehension's reading over a walk that leaves the heap as it is: at turn i the item x, then f i: the data of what is put in, or none -/
theorem lc_dp {J : It} {n : Nat} {G : Hp → Prop} {Y : Nat → Hp → V → Hp → Prop} (wk : Walk J n G Y) {K : PySem.W.Frag} {V0 H0 : Hp} {D : Addr} {g : TG} {tt : TT} {te : TE} {vs : List Nat} {σ : St} {Qd : Hp → Prop} (f : Nat → Option PyData) (σ0 : St) (hσ : wipe σ vs = σ0) (s0 : Same V0 H0) (hD : H0 D = none) (hn : n < 100000)
    (hG : ∀ H, Same H0 H → G H) (hY : ∀ i H x H', Y i H x H' → H' = H)
    (hs : ∀ i x V H, i < n → Ext V0 H0 V H → Y i H x H → ∀ (Qy : VK) (Qn : Hp → Prop), (∀ d y V' H', f i = some d → Ext V H V' H' → Dp K V' y d → Qy y H') → (f i = none → ∀ V' H', Ext V H V' H' → Qn H') →
      g x σ0 H fun σ2 H2 => wipe σ2 vs = σ0 ∧ tt σ2 H2 fun b H3 => if b = true then te σ2 H3 Qy else Qn H3)
    (hd : ∀ (U H : Hp) (xs : List V), Ext V0 H0 U H → U D = some (.lst xs) → DpAll K U xs (fm f n) → Dp K U (.ref D) (.list (fm f n)) → Qd H) :
    ∃ W : Nat → Nat → Hp → Prop, (∃ m, W 0 m (upd H0 D (.lst []))) ∧ ∀ i m H, W i m H →
      (J.stop i H ∧ Qd H) ∨ (J.go i H ∧ ∃ Nx : Hp → Prop, (∀ H', Nx H' → ∃ m', m' < m ∧ W (i + 1) m' H') ∧ ∀ x H', J.yld i H x H' → g x (wipe σ vs) H' fun σ2 H2 => wipe σ2 vs = wipe σ vs ∧ tt σ2 H2 fun b H3 =>
        if b = true then te σ2 H3 fun y H4 => ∃ acc, H4 D = some (.lst acc) ∧ acc.length < sizeLine ∧ Nx (upd H4 D (.lst (acc ++ [y]))) else Nx H3) := by
  refine lc_dp0 wk f σ0 hσ s0 hD hn hG hY hs fun U H xs x hv hdd dp => ?_
  exact hd _ H xs (x.take hD hv hdd) upd_same (dp.to (same_upd hv)) (.lst (SqL.of upd_same) (dp.to (same_upd hv)))
theorem fm_map {α β : Type} (f : α → β) : ∀ (xs : List α), fm (fun i => (xs[i]?).map f) xs.length = xs.map f := by
  intro xs
  have h : ∀ n, n ≤ xs.length → fm (fun i => (xs[i]?).map f) n = (xs.take n).map f := by
    intro n
    induction n with
    | zero => intro _; rfl
    | succ n ih =>
      intro hn
      rw [fm_succ, ih (by omega), List.getElem?_eq_getElem (by omega), List.take_succ_eq_append_getElem (by omega), List.map_append]
      rfl
  rw [h _ (Nat.le_refl _), List.take_length]

theorem lc2_outer {J : It} {n : Nat} {G : Hp → Prop} {Y : Nat → Hp → V → Hp → Prop} (wk : Walk J n G Y) {K : PySem.W.Frag} {V0 H0 : Hp} {D : Addr} {g : TG} {vs : List Nat} {σ : St} {body : St → Hp → (Hp → Prop) → Prop} {Qd : Hp → Prop} (F : Nat → List PyData) (σ0 : St) (hσ : wipe σ vs = σ0) (s0 : Same V0 H0) (hD : H0 D = none) (hF : F 0 = [])
    (hG : ∀ H, Same H0 H → G H) (hY : ∀ i H x H', Y i H x H' → H' = H)
    (hs : ∀ i x H, i < n → LcInv K V0 H0 D (F i) H → Y i H x H → ∀ Nx : Hp → Prop, (∀ H', LcInv K V0 H0 D (F (i + 1)) H' → Nx H') → g x σ0 H fun σ2 H2 => wipe σ2 vs = σ0 ∧ body σ2 H2 Nx)
    (hd : ∀ (U H : Hp) (xs : List V), Ext V0 H0 U H → U D = some (.lst xs) → DpAll K U xs (F n) → Dp K U (.ref D) (.list (F n)) → Qd H) :
    ∃ W : Nat → Nat → Hp → Prop, (∃ m, W 0 m (upd H0 D (.lst []))) ∧ ∀ i m H, W i m H →
      (J.stop i H ∧ Qd H) ∨ (J.go i H ∧ ∃ Nx : Hp → Prop, (∀ H', Nx H' → ∃ m', m' < m ∧ W (i + 1) m' H') ∧ ∀ x H', J.yld i H x H' → g x (wipe σ vs) H' fun σ2 H2 => wipe σ2 vs = wipe σ vs ∧ body σ2 H2 Nx) := by
  subst hσ
  refine ⟨fun i m H => m = n - i ∧ i ≤ n ∧ LcInv K V0 H0 D (F i) H, ⟨n, by simp, Nat.zero_le _, by rw [hF]; exact LcInv.start s0 hD⟩, ?_⟩
  rintro i m H ⟨rfl, hi, p⟩
  have sH : Same H0 H := by obtain ⟨_, _, x, _⟩ := p.ex; exact x.hh
  by_cases hlt : i < n
  · refine .inr ⟨wk.goes i H hlt (hG H sH), fun H' => LcInv K V0 H0 D (F (i + 1)) H', fun H' p' => ⟨n - (i + 1), by omega, rfl, hlt, p'⟩, fun x H' y => ?_⟩
    have y' := wk.yields i H x H' hlt (hG H sH) y
    obtain rfl := hY i H x H' y'
    exact hs i x H' hlt p y' _ fun _ h => h
  · have e : i = n := by omega
    subst e
    obtain ⟨U, xs, x, e1, e2, e3⟩ := p.done hD
    exact .inl ⟨wk.stops H (hG H sH), hd U H xs x e1 e2 e3⟩
theorem lc2_inner {J : It} {n : Nat} {G : Hp → Prop} {Y : Nat → Hp → V → Hp → Prop} (wk : Walk J n G Y) {K : PySem.W.Frag} {V0 H0 H4 : Hp} {D : Addr} {acc0 : List PyData} {g : TG} {tt : TT} {te : TE} {vs : List Nat} {σ : St} {Nx : Hp → Prop} (f : Nat → Option PyData) (σ0 : St) (hσ : wipe σ vs = σ0) (hD : H0 D = none)
    (inv : LcInv K V0 H0 D acc0 H4) (hn : acc0.length + n < 100000) (hG : ∀ H, Same H0 H → G H) (hY : ∀ i H x H', Y i H x H' → H' = H)
    (hs : ∀ i x V H, i < n → Ext V0 H0 V H → Y i H x H → ∀ (Qy : VK) (Qn : Hp → Prop), (∀ d y V' H', f i = some d → Ext V H V' H' → Dp K V' y d → Qy y H') → (f i = none → ∀ V' H', Ext V H V' H' → Qn H') →
      g x σ0 H fun σ2 H2 => wipe σ2 vs = σ0 ∧ tt σ2 H2 fun b H3 => if b = true then te σ2 H3 Qy else Qn H3)
    (hd : ∀ H, LcInv K V0 H0 D (acc0 ++ fm f n) H → Nx H) :
    ∃ W : Nat → Nat → Hp → Prop, (∃ m, W 0 m H4) ∧ ∀ i m H, W i m H →
      (J.stop i H ∧ Nx H) ∨ (J.go i H ∧ ∃ Nx1 : Hp → Prop, (∀ H', Nx1 H' → ∃ m', m' < m ∧ W (i + 1) m' H') ∧ ∀ x H', J.yld i H x H' → g x (wipe σ vs) H' fun σ2 H2 => wipe σ2 vs = wipe σ vs ∧ tt σ2 H2 fun b H3 =>
        if b = true then te σ2 H3 fun y H4 => ∃ acc, H4 D = some (.lst acc) ∧ acc.length < sizeLine ∧ Nx1 (upd H4 D (.lst (acc ++ [y]))) else Nx1 H3) := by
  subst hσ
  refine ⟨fun i m H => m = n - i ∧ i ≤ n ∧ LcInv K V0 H0 D (acc0 ++ fm f i) H, ⟨n, by simp, Nat.zero_le _, by rw [show fm f 0 = [] from rfl, List.append_nil]; exact inv⟩, ?_⟩
  rintro i m H ⟨rfl, hi, p⟩
  have sH : Same H0 H := by obtain ⟨_, _, x, _⟩ := p.ex; exact x.hh
  by_cases hlt : i < n
  · refine .inr ⟨wk.goes i H hlt (hG H sH), fun H' => LcInv K V0 H0 D (acc0 ++ fm f (i + 1)) H', fun H' p' => ⟨n - (i + 1), by omega, rfl, hlt, p'⟩, fun x H' y => ?_⟩
    have y' := wk.yields i H x H' hlt (hG H sH) y
    obtain rfl := hY i H x H' y'
    obtain ⟨V, xs, x0, hv, hdd, dp⟩ := p.ex
    refine hs i x V H' hlt x0 y' _ _ (fun d y' V' H4 e x2 dy => ?_) (fun e V' H4 x2 => ?_)
    · have hl : (acc0 ++ fm f i).length < 100000 := by have := fm_len f i; rw [List.length_append]; omega
      obtain ⟨acc', a1, a2, a3⟩ := LcInv.push hD x0 hv hdd dp x2 dy hl
      refine ⟨acc', a1, a2, ?_⟩
      rw [fm_succ, e, ← List.append_assoc]
      exact a3
    · have hv' : V' D = none := x2.keepOut hv (by rw [hdd]; exact fun z => by cases z)
      rw [fm_succ, e]
      show LcInv K V0 H0 D (acc0 ++ (fm f i ++ [])) H4
      rw [List.append_nil]
      exact ⟨V', xs, x0.trans x2, hv', x2.hh _ _ hdd, dp.to x2.vv⟩
  · have e : i = n := by omega
    subst e
    exact .inl ⟨wk.stops H (hG H sH), hd H p⟩
theorem fm_some {α : Type} (f : Nat → α) (n : Nat) : fm (fun i => some (f i)) n = (List.range n).map f := by
  induction n with
  | zero => rfl
  | succ n ih => rw [fm_succ, ih, List.range_succ, List.map_append]; rfl
theorem fl_take' {α : Type} {β : Type} (f : α → List β) : ∀ (xs : List α) (i : Nat) (x : α), xs[i]? = some x → (xs.take (i + 1)).flatMap f = (xs.take i).flatMap f ++ f x := by
  intro xs i x h
  obtain ⟨hi, e⟩ := List.getElem?_eq_some_iff.mp h
  rw [List.take_succ_eq_append_getElem hi, List.flatMap_append, e]
  show _ ++ (f x ++ []) = _
  rw [List.append_nil]
theorem fl_le' {α : Type} {β : Type} (f : α → List β) (xs : List α) (i : Nat) : ((xs.take i).flatMap f).length ≤ (xs.flatMap f).length := by
  have : xs.flatMap f = (xs.take i).flatMap f ++ (xs.drop i).flatMap f := by rw [← List.flatMap_append, List.take_append_drop]
  rw [this, List.length_append]; omega
/-! ### lists of ints, texts -/
theorem tyL {K : PySem.W.Frag} {H : Hp} {a : Addr} {xs : List V} (h : SqL K H a xs) : TyX K H (.ref a) (.type "list") := by
  rcases h with (h | ⟨o, h⟩) | ⟨o, its, n, h, c, _⟩
  · exact .base (.lst h)
  · exact .base (.frz h)
  · exact .kList h c
theorem tyT {K : PySem.W.Frag} {H : Hp} {a : Addr} {xs : List V} (h : SqT K H a xs) : TyX K H (.ref a) (.type "tuple") := by
  rcases h with (h | ⟨o, h⟩) | ⟨o, its, n, h, c, _⟩
  · exact .base (.tup h)
  · exact .fTuple h
  · exact .kTuple h c
theorem dp_intsV {K : PySem.W.Frag} {H : Hp} : ∀ {xs : List V} {is : List Int}, DpAll K H xs (is.map PyData.int) → xs = is.map V.int
  | _, [], r => by cases r; rfl
  | _, i :: is, r => by
    cases r with
    | cons r1 r2 => cases r1; rw [dp_intsV r2]; rfl
theorem dp_intsL {K : PySem.W.Frag} {H : Hp} {a : Addr} {is : List Int} (h : Dp K H (.ref a) (.list (is.map PyData.int))) : SqL K H a (is.map V.int) := by
  obtain ⟨a', xs, e, q, r⟩ := dp_list h
  cases e
  rw [← dp_intsV r]; exact q
theorem dp_strsV {K : PySem.W.Frag} {H : Hp} : ∀ {xs : List V} {is : List Str}, DpAll K H xs (is.map PyData.str) → xs = is.map V.str
  | _, [], r => by cases r; rfl
  | _, i :: is, r => by
    cases r with
    | cons r1 r2 => cases r1; rw [dp_strsV r2]; rfl
theorem dp_boolsV {K : PySem.W.Frag} {H : Hp} : ∀ {xs : List V} {is : List Bool}, DpAll K H xs (is.map PyData.bool) → xs = is.map V.bl
  | _, [], r => by cases r; rfl
  | _, i :: is, r => by
    cases r with
    | cons r1 r2 => cases r1; rw [dp_boolsV r2]; rfl
theorem dp_boolsL {K : PySem.W.Frag} {H : Hp} {a : Addr} {is : List Bool} (h : Dp K H (.ref a) (.list (is.map PyData.bool))) : SqL K H a (is.map V.bl) := by
  obtain ⟨a', xs, e, q, r⟩ := dp_list h
  cases e
  rw [← dp_boolsV r]; exact q
theorem size_eq (z : Str) : z.cps.size = z.cps.toList.length := by simp
theorem cps_at (z : Str) (i : Nat) : z.cps[i]? = z.cps.toList[i]? := by simp
theorem fm_list {α β : Type} (f : α → β) (xs : List α) (n : Nat) (h : n = xs.length) (g : Nat → Option β) (hg : ∀ i x, xs[i]? = some x → g i = some (f x)) : fm g n = xs.map f := by
  subst h
  rw [← fm_map f xs]
  unfold fm
  have : ∀ l : List Nat, (∀ i ∈ l, i < xs.length) → l.filterMap g = l.filterMap fun i => (xs[i]?).map f := by
    intro l
    induction l with
    | nil => intro _; rfl
    | cons i l ih =>
      intro hl
      have hi' := hl i List.mem_cons_self
      rw [List.filterMap_cons, List.filterMap_cons, hg i _ (List.getElem?_eq_getElem hi'), List.getElem?_eq_getElem hi', ih fun j hj => hl j (List.mem_cons_of_mem _ hj)]
      rfl
  exact this _ fun i hi => List.mem_range.mp hi
theorem rep_flat {α : Type} (v : α) : ∀ n : Nat, (List.replicate n [v]).flatten = List.replicate n v
  | 0 => rfl
  | n + 1 => by rw [List.replicate_succ, List.replicate_succ, List.flatten_cons, rep_flat v n]; rfl
/-- a list's object that is tracked, at p, new -/
structure NewL (H H' : Hp) (p : Addr) (xs : List V) : Prop where
  new : H p = none
  same : Same H H'
  at_ : H' p = some (.lst xs)
theorem NewL.ext {U H H' : Hp} {p : Addr} {xs : List V} (n : NewL H H' p xs) (s : Same U H) : Ext U H (upd U p (.lst xs)) H' :=
  ⟨same_upd (s.free n.new), fun b u e => by
    by_cases hb : b = p
    · subst hb; rw [upd_same] at e; rw [n.at_]; exact e
    · rw [upd_ne hb] at e; exact n.same _ _ (s b u e), n.same, fun a e => by
    by_cases ha : a = p
    · subst ha; exact Or.inr n.new
    · rw [upd_ne ha] at e; exact Or.inl e⟩
theorem str_app (x y : Str) : (x ++ y).cps.toList = x.cps.toList ++ y.cps.toList := Array.toList_append
theorem str_len_app (x y : Str) : (x ++ y).length = x.length + y.length := by
  show (x ++ y).cps.size = x.cps.size + y.cps.size
  rw [size_eq, str_app, List.length_append, ← size_eq, ← size_eq]
/-! ### _law_cell, _law_row -/
def lawCell (ns : List Int) (k : Nat) : Int :=
  let c := if 0 < ns.length then ns.getD (k % ns.length) 0 else 0
  if c < 0 then 1 - 2 * c else c
theorem lawCell_nn (ns : List Int) (k : Nat) : 0 ≤ lawCell ns k := by
  unfold lawCell
  simp only
  split <;> omega
def lawOne (c : Int) (k : Nat) : Int := (c * 48271 + (k : Int) * 69621 + 12345) % 2147483647
def lawTwo (o : Int) (k : Nat) : Int := (o * o + 16807 * (k : Int) + 7) % 2147483629
def lawRow (ns : List Int) (k : Nat) : Int :=
  if k < ns.length ∧ 1000000000 ≤ lawCell ns k then lawCell ns k
  else (lawTwo (lawOne (lawCell ns k) k) k * lawTwo (lawOne (lawCell ns k) k) k + lawOne (lawCell ns k) k) % 4294967291 + 4294967296 * (lawOne (lawCell ns k) k + 1)
theorem lawOne_b (c : Int) (k : Nat) : 0 ≤ lawOne c k ∧ lawOne c k < 2147483647 := by unfold lawOne; omega
theorem lawTwo_b (c : Int) (k : Nat) : 0 ≤ lawTwo c k ∧ lawTwo c k < 2147483629 := by
  unfold lawTwo
  generalize c * c + 16807 * (k : Int) + 7 = x
  omega
theorem lawRow_nn (ns : List Int) (k : Nat) : 0 ≤ lawRow ns k := by
  unfold lawRow
  have h1 := lawOne_b (lawCell ns k) k
  split
  · exact lawCell_nn ns k
  · generalize lawTwo (lawOne (lawCell ns k) k) k * lawTwo (lawOne (lawCell ns k) k) k + lawOne (lawCell ns k) k = x
    omega
def sp__law_cell (K : PySem.W.Frag) : Sp := fun vs H Q _ => ∃ (a : Addr) (ns : List Int) (k : Nat), vs = [.ref a, .int (k : Int)] ∧ SqL K H a (ns.map V.int) ∧ Q (.int (lawCell ns k)) H
theorem sc__law_cell : FnScope ["script", "k", "cell"] ["script", "k"] (defScope s__law_cell) := ⟨rfl, rfl, rfl, by decide +kernel, rfl, by decide +kernel, by decide +kernel⟩
theorem ok__law_cell (T : Txt K mg A) : FnOk P w K mg base CX0 1 A.f_law_cell A.d_law_cell ["script", "k"] (sp__law_cell K) := by
  refine T.F_law_cell.ok sc__law_cell (fun vs H Q E h => ?_) (fun cdv Ar outer s H vs Q E hr h => ?_)
  · obtain ⟨a, ns, k, rfl, _⟩ := h
    rfl
  · obtain ⟨a, ns, k, rfl, hS, q⟩ := h
    refine ⟨_, (pss_cons (ps_set (i := 2) sc__law_cell.nd rfl (Or.inl rfl) pe_int)
      (pss_cons (ps_if (pt_cmpR op_gt (pe_callB call_len_seq (by rfl) T.len PySem.boot_len (pa_cons (pv 0) pa_nil)) pe_int (nomark _))
      (pss_one (ps_set (i := 2) sc__law_cell.nd rfl (Or.inl rfl) (pe_ix ix_list (pv 0) (pe_op op_mod (pe_callTy call_int1 (by rfl) T.int (by decide +kernel) (pa_cons (pv 1) pa_nil)) (pe_callB call_len_seq (by rfl) T.len PySem.boot_len (pa_cons (pv 0) pa_nil))) (fun _ _ => rfl))))
      pss_nil)
      (pss_cons (ps_if (pt_cmpR op_lt (pv 2) pe_int (nomark _))
      (pss_one (ps_set (i := 2) sc__law_cell.nd rfl (Or.inl rfl) (pe_op op_sub pe_int (pe_op op_mul pe_int (pv 2)))))
      pss_nil)
      (pss_one (ps_ret (pv 2)))))), ?_⟩
    have two : ∀ (c : Int), (if c < 0 then 1 - 2 * c else c) = lawCell ns k → tSeq (tIfS (tTest (tOp (rI0 fun i j => .bl (decide (i < j))) (tVar 2) (tC (.int 0)))) (tAsg (tOp (rI0 fun i j => .int (i - j)) (tC (.int 1)) (tOp (rI CMul fun i j => .int (i * j)) (tC (.int 2)) (tVar 2))) (gName 2)) tNext) (tRet (tVar 2))
        { nx := fun _ H' => Q .non H', rt := Q } [some (.ref a), some (.int (k : Int)), some (.int c)] H := by
      intro c hc
      walk_at "rd"
      refine iteP (fun h => ?_) (fun h => ?_)
      · rw [if_pos h] at hc
        walk_at "rd"
        rw [← hc] at q; exact q
      · rw [if_neg h] at hc
        walk_at "rd"
        rw [← hc] at q; exact q
    refine ⟨.ref a, rfl, a, _, rfl, .inl hS, _, _, rfl, rfl, _, rfl, iteP (fun h => ?_) (fun h => ?_)⟩
    · have h0 : 0 < ns.length := by rw [List.length_map] at h; omega
      refine ⟨_, rfl, _, rfl, Or.inl ⟨_, rfl, ?_⟩⟩
      refine ⟨_, rfl, a, _, rfl, .inl hS, _, _, rfl, rfl, by show (0 : Int) < _; omega, a, _, _, .int (ns.getD (k % ns.length) 0), rfl, rfl, hS, ?_, ?_⟩
      · refine at_of (j := k % ns.length) ?_ ?_
        · rw [List.length_map]; exact (Int.natCast_emod _ _).symm
        · rw [List.getElem?_map, List.getElem?_eq_getElem (Nat.mod_lt _ h0), List.getD_eq_getElem?_getD, List.getElem?_eq_getElem (Nat.mod_lt _ h0)]; rfl
      · refine two _ ?_
        unfold lawCell; rw [if_pos h0]
    · have h0 : ¬ 0 < ns.length := by rw [List.length_map] at h; omega
      refine two _ ?_
      unfold lawCell; rw [if_neg h0]
def sp__law_row (K : PySem.W.Frag) : Sp := fun vs H Q _ => ∃ (a : Addr) (ns : List Int) (k : Nat), vs = [.ref a, .int (k : Int)] ∧ SqL K H a (ns.map V.int) ∧ Q (.int (lawRow ns k)) H
theorem sc__law_row : FnScope ["script", "k", "cell", "one", "two"] ["script", "k"] (defScope s__law_row) := ⟨rfl, rfl, rfl, by decide +kernel, rfl, by decide +kernel, by decide +kernel⟩
theorem ok__law_row (T : Txt K mg A) : FnOk P w K mg base CX0 2 A.f_law_row A.d_law_row ["script", "k"] (sp__law_row K) := by
  refine T.F_law_row.ok sc__law_row (fun vs H Q E h => ?_) (fun cdv Ar outer s H vs Q E hr h => ?_)
  · obtain ⟨a, ns, k, rfl, _⟩ := h
    rfl
  · obtain ⟨a, ns, k, rfl, hS, q⟩ := h
    refine ⟨_, (pss_cons (ps_set (i := 2) sc__law_row.nd rfl (Or.inl rfl) (pe_call (ok__law_cell T) (hr.mono (by decide)) rfl T.g_law_cell T.k_law_cell T.b_law_cell .nil pass0 (pa_cons (pv 0) (pa_cons (pv 1) pa_nil))))
      (pss_cons (ps_if (PW.pt (pw_and (pt_cmpR op_lt (pv 1) (pe_callB call_len_seq (by rfl) T.len PySem.boot_len (pa_cons (pv 0) pa_nil)) (nomark _)) (pw_and1 (pt_cmpR op_ge (pv 2) pe_int (nomark _)))))
      (pss_one (ps_ret (pv 2)))
      pss_nil)
      (pss_cons (ps_set (i := 3) sc__law_row.nd rfl (Or.inl rfl) (pe_op op_mod (pe_callTy call_int1 (by rfl) T.int (by decide +kernel) (pa_cons (pe_op op_add (pe_op op_add (pe_op op_mul (pv 2) pe_int) (pe_op op_mul (pv 1) pe_int)) pe_int) pa_nil)) pe_int))
      (pss_cons (ps_set (i := 4) sc__law_row.nd rfl (Or.inl rfl) (pe_op op_mod (pe_callTy call_int1 (by rfl) T.int (by decide +kernel) (pa_cons (pe_op op_add (pe_op op_add (pe_op op_mul (pv 3) (pv 3)) (pe_op op_mul pe_int (pv 1))) pe_int) pa_nil)) pe_int))
      (pss_one (ps_ret (pe_op op_add (pe_op op_mod (pe_callTy call_int1 (by rfl) T.int (by decide +kernel) (pa_cons (pe_op op_add (pe_op op_mul (pv 4) (pv 4)) (pv 3)) pa_nil)) pe_int) (pe_op op_mul pe_int (pe_op op_add (pv 3) pe_int))))))))), ?_⟩
    have b1 := lawOne_b (lawCell ns k) k
    have b2 := lawTwo_b (lawOne (lawCell ns k) k) k
    have m1 : CMul (lawOne (lawCell ns k) k) (lawOne (lawCell ns k) k) := Or.inl ⟨by omega, by omega⟩
    have m2 : CMul (lawTwo (lawOne (lawCell ns k) k) k) (lawTwo (lawOne (lawCell ns k) k) k) := Or.inl ⟨by omega, by omega⟩
    refine ⟨_, rfl, _, rfl, a, ns, k, rfl, hS, ?_⟩
    refine ⟨_, rfl, _, rfl, a, _, rfl, .inl hS, _, _, rfl, rfl, _, rfl, ?_⟩
    refine iteP (fun h => ?_) (fun h => ?_)
    · refine ⟨_, rfl, _, _, rfl, rfl, _, rfl, iteP (fun h2 => ?_) (fun h2 => ?_)⟩
      · have e : lawRow ns k = lawCell ns k := by unfold lawRow; rw [if_pos ⟨by rw [List.length_map] at h; omega, h2⟩]
        rw [e] at q
        exact ⟨_, rfl, q⟩
      · unfold lawRow at q
        rw [if_neg fun z => h2 z.2] at q
        walk_at "rd"
        refine ⟨m1, ?_⟩
        walk_at "rd"
        refine ⟨m2, ?_⟩
        walk_at "rd"
        exact q
    · unfold lawRow at q
      rw [if_neg fun z => h (by rw [List.length_map]; omega)] at q
      walk_at "rd"
      refine ⟨m1, ?_⟩
      walk_at "rd"
      refine ⟨m2, ?_⟩
      walk_at "rd"
      exact q
/-! ### Objects -/
abbrev ORow := Int × Str
def rowsK (rs : List ORow) : List (Key × V) := rs.map fun r => (Sum.inl r.1, V.str r.2)
def find (rs : List ORow) (n : Int) : Option Str := (rs.find? fun r => decide (r.1 = n)).map (·.2)
theorem find_cons (r : ORow) (rs : List ORow) (n : Int) : find (r :: rs) n = if r.1 = n then some r.2 else find rs n := by
  unfold find
  rw [List.find?_cons]
  by_cases h : r.1 = n
  · rw [if_pos h, decide_eq_true h]; rfl
  · rw [if_neg h, decide_eq_false h]
theorem valV_rows (n : Int) : ∀ rs : List ORow, valV (rowsK rs) (Sum.inl n) = (find rs n).map V.str
  | [] => rfl
  | r :: rs => by
    rw [find_cons]
    by_cases h : r.1 = n
    · rw [if_pos h]
      show valV ((Sum.inl r.1, V.str r.2) :: rowsK rs) (Sum.inl n) = _
      rw [valV_pos (show (Sum.inl r.1 : Key) = Sum.inl n by rw [h])]; rfl
    · rw [if_neg h]
      show valV ((Sum.inl r.1, V.str r.2) :: rowsK rs) (Sum.inl n) = _
      rw [valV_neg (fun z => h (Sum.inl.inj z))]
      exact valV_rows n rs
theorem putK_rows {n : Int} {z : Str} {rs : List ORow} (h : find rs n = none) : putK (rowsK rs) (Sum.inl n) (.str z) = rowsK (rs ++ [(n, z)]) := by
  unfold putK
  rw [valV_any, valV_rows, h]
  show (if false = true then _ else _) = _
  rw [if_neg Bool.false_ne_true]
  unfold rowsK
  rw [List.map_append]; rfl
theorem dropK_rows (n : Int) (rs : List ORow) : dropK (rowsK rs) (Sum.inl n) = rowsK (rs.filter fun r => decide (r.1 ≠ n)) := by
  unfold dropK rowsK
  rw [List.filter_map]
  congr 1
  refine List.filter_congr fun r _ => ?_
  show decide ((Sum.inl r.1 : Key) ≠ Sum.inl n) = decide (r.1 ≠ n)
  exact decide_eq_decide.mpr (not_congr ⟨Sum.inl.inj, fun h => by rw [h]⟩)
def oF (d : Addr) (nm : Int) : List (Str × V) := [("_interfaces", .ref d), ("_next_made", .int nm)]
theorem oF_i (d : Addr) (nm : Int) : (oF d nm).lookup ("_interfaces" : Str) = some (.ref d) := by
  unfold oF; rw [List.lookup_cons_self]
theorem oF_n (d : Addr) (nm : Int) : (oF d nm).lookup ("_next_made" : Str) = some (.int nm) := by
  unfold oF
  rw [List.lookup_cons, show (("_next_made" : Str) == ("_interfaces" : Str)) = false by decide +kernel]
  rw [List.lookup_cons_self]
theorem oF_put (d : Addr) (nm y : Int) : putF "_next_made" (.int y) (oF d nm) = oF d y := by
  unfold oF
  show (if ("_interfaces" : Str) = "_next_made" then _ else (("_interfaces" : Str), V.ref d) :: putF "_next_made" (V.int y) [("_next_made", .int nm)]) = _
  rw [if_neg (by decide +kernel)]
  show _ :: (if ("_next_made" : Str) = "_next_made" then _ else _) = _
  rw [if_pos rfl]
theorem oF_new (d : Addr) (y : Int) : putF "_next_made" (.int y) (putF "_interfaces" (.ref d) []) = oF d y := by
  show (if ("_interfaces" : Str) = "_next_made" then _ else (("_interfaces" : Str), V.ref d) :: putF "_next_made" (V.int y) []) = _
  rw [if_neg (by decide +kernel)]; rfl
theorem oF_no (d : Addr) (nm : Int) {m : Str} (h1 : (m == ("_interfaces" : Str)) = false) (h2 : (m == ("_next_made" : Str)) = false) : (oF d nm).lookup m = none := by
  unfold oF
  rw [List.lookup_cons, h1, List.lookup_cons, h2]; rfl
/-- an Objects at o, its dict at d -/
structure ObjAt (C : Addr) (H : Hp) (o d : Addr) (rs : List ORow) (nm : Int) : Prop where
  ob : ∃ dx, H o = some (.ins C dx (oF d nm))
  dk : H d = some (.dK (rowsK rs))
/-- all but a few objects are as they were -/
def But (H H' : Hp) (P : Addr → Prop) : Prop := ∀ b u, H b = some u → ¬ P b → H' b = some u
theorem ObjAt.ne {C o d : Addr} {H : Hp} {rs : List ORow} {nm : Int} (h : ObjAt C H o d rs nm) : o ≠ d := by
  obtain ⟨dx, e⟩ := h.ob
  exact ne_of e h.dk (by intro z; cases z)
theorem ObjAt.same {C o d : Addr} {H H' : Hp} {rs : List ORow} {nm : Int} (h : ObjAt C H o d rs nm) (s : Same H H') : ObjAt C H' o d rs nm := by
  obtain ⟨dx, e⟩ := h.ob
  exact ⟨⟨dx, s _ _ e⟩, s _ _ h.dk⟩
def sp_Objects___init__ (C : Addr) : Sp := fun vs H Q _ => ∃ (o dx : Addr), vs = [.ref o] ∧ H o = some (.ins C dx []) ∧ ∀ (d : Addr) (H' : Hp), ObjAt C H' o d [(1, "display")] 4278190080 → H d = none → But H H' (fun b => b = o) → Q .non H'
theorem sc_Objects___init__ : FnScope ["self"] ["self"] (defScope s_Objects___init__) := ⟨rfl, rfl, rfl, by decide +kernel, rfl, by decide +kernel, by decide +kernel⟩
theorem ok_Objects___init__ (T : Txt K mg A) : FnOk P w K mg base CX0 1 A.fObjects___init__ A.dObjects___init__ ["self"] (sp_Objects___init__ A.CObjects) := by
  refine T.FObjects___init__.ok sc_Objects___init__ (fun vs H Q E h => ?_) (fun cdv Ar outer s H vs Q E hr h => ?_)
  · obtain ⟨o, dx, rfl, _⟩ := h
    rfl
  · obtain ⟨o, dx, rfl, ho, q⟩ := h
    refine ⟨_, (pss_cons (ps_fld (pv 0) (pe_disp (pps_cons (pe_glob (v := .int (1)) rfl T.gDISPLAY ⟨_, rfl⟩) pe_str pps_nil) (by rfl) (by rfl) (fun z => by cases z) (by decide)) rfl)
      (pss_one (ps_fld (pv 0) (pe_op op_add (pe_glob (v := .int (4278190079)) rfl T.gGREATEST_GIVEN ⟨_, rfl⟩) pe_int) rfl))), ?_⟩
    intro d hd
    have hod : o ≠ d := ne_of_none ho hd
    refine ⟨upd_same, [(Sum.inl 1, .str "display")], rfl, by decide, ?_⟩
    have ho2 : (upd (upd H d (.dK [])) d (.dK (mergeK [] [((Sum.inl 1 : Key), V.str "display")]))) o = some (.ins A.CObjects dx []) := by rw [upd_ne hod, upd_ne hod]; exact ho
    refine ⟨_, rfl, o, _, dx, _, rfl, ho2, T.clObjects, T.nObjects__interfaces, (by show 0 < 1000; decide), ?_⟩
    refine ⟨_, _, rfl, rfl, _, rfl, o, _, dx, _, rfl, upd_same, T.clObjects, T.nObjects__next_made, (by show 1 < 1000; decide), ?_⟩
    refine q d _ ⟨⟨dx, ?_⟩, ?_⟩ hd fun b u e hb => ?_
    · rw [upd_same]
      exact congrArg (fun z => some (HO.ins _ dx z)) (oF_new d 4278190080)
    · rw [upd_ne hod.symm, upd_ne hod.symm, upd_same]; rfl
    · have hbd : b ≠ d := ne_of_none e hd
      rw [upd_ne hb, upd_ne hb, upd_ne hbd, upd_ne hbd]; exact e
def sp_Objects_interface_of (C : Addr) : Sp := fun vs H Q _ => ∃ (o d : Addr) (rs : List ORow) (nm n : Int), vs = [.ref o, .int n] ∧ ObjAt C H o d rs nm ∧ Q (((find rs n).map V.str).getD .non) H
theorem sc_Objects_interface_of : FnScope ["self", "number"] ["self", "number"] (defScope s_Objects_interface_of) := ⟨rfl, rfl, rfl, by decide +kernel, rfl, by decide +kernel, by decide +kernel⟩
theorem ok_Objects_interface_of (T : Txt K mg A) : FnOk P w K mg base CX0 1 A.fObjects_interface_of A.dObjects_interface_of ["self", "number"] (sp_Objects_interface_of A.CObjects) := by
  refine T.FObjects_interface_of.ok sc_Objects_interface_of (fun vs H Q E h => ?_) (fun cdv Ar outer s H vs Q E hr h => ?_)
  · obtain ⟨o, d, rs, nm, n, rfl, _⟩ := h
    rfl
  · obtain ⟨o, d, rs, nm, n, rfl, ho, q⟩ := h
    obtain ⟨dx, h1⟩ := ho.ob
    refine ⟨_, (pss_one (ps_ret (pe_dget1 (hu_of hr) (pe_fld (pv 0) rfl) (pv 1) ⟨rfl, rfl, rfl, rfl⟩))), ?_⟩
    refine ⟨_, rfl, o, _, dx, _, _, rfl, h1, T.clObjects, T.nObjects__interfaces, oF_i _ _, d, rfl, .inl ⟨_, .inl ho.dk⟩, _, rfl, _, DGet.k (k := Sum.inl n) ho.dk, ?_⟩
    rw [valV_rows]; exact q
def sp_Objects_numbers (C : Addr) : Sp := fun vs H Q _ => ∃ (o d : Addr) (rs : List ORow) (nm : Int), vs = [.ref o] ∧ ObjAt C H o d rs nm ∧ ∀ p H', NewL H H' p ((rs.map fun r => r.1).map V.int) → Q (.ref p) H'
theorem sc_Objects_numbers : FnScope ["self"] ["self"] (defScope s_Objects_numbers) := ⟨rfl, rfl, rfl, by decide +kernel, rfl, by decide +kernel, by decide +kernel⟩
theorem ok_Objects_numbers (T : Txt K mg A) : FnOk P w K mg base CX0 1 A.fObjects_numbers A.dObjects_numbers ["self"] (sp_Objects_numbers A.CObjects) := by
  refine T.FObjects_numbers.ok sc_Objects_numbers (fun vs H Q E h => ?_) (fun cdv Ar outer s H vs Q E hr h => ?_)
  · obtain ⟨o, d, rs, nm, rfl, _⟩ := h
    rfl
  · obtain ⟨o, d, rs, nm, rfl, ho, q⟩ := h
    obtain ⟨dx, h1⟩ := ho.ob
    refine ⟨_, (pss_one (ps_ret (pe_callTy (call_listD rfl) (by rfl) T.list (by decide +kernel) (pa_cons (pe_fld (pv 0) rfl) pa_nil)))), ?_⟩
    refine ⟨_, rfl, o, _, dx, _, _, rfl, h1, T.clObjects, T.nObjects__interfaces, oF_i _ _, d, _, rfl, .inl ho.dk, fun p hp => q p _ ⟨hp, same_upd hp, ?_⟩⟩
    rw [upd_same]
    unfold rowsK
    rw [List.map_map, List.map_map]; rfl
def mayGive (rs : List ORow) (n : Int) : Bool := decide (2 ≤ n ∧ n ≤ 4278190079) && (find rs n).isNone
def sp_Objects_may_give (C : Addr) : Sp := fun vs H Q _ => ∃ (o d : Addr) (rs : List ORow) (nm n : Int), vs = [.ref o, .int n] ∧ ObjAt C H o d rs nm ∧ Q (.bl (mayGive rs n)) H
theorem sc_Objects_may_give : FnScope ["self", "number"] ["self", "number"] (defScope s_Objects_may_give) := ⟨rfl, rfl, rfl, by decide +kernel, rfl, by decide +kernel, by decide +kernel⟩
theorem ok_Objects_may_give (T : Txt K mg A) : FnOk P w K mg base CX0 1 A.fObjects_may_give A.dObjects_may_give ["self", "number"] (sp_Objects_may_give A.CObjects) := by
  refine T.FObjects_may_give.ok sc_Objects_may_give (fun vs H Q E h => ?_) (fun cdv Ar outer s H vs Q E hr h => ?_)
  · obtain ⟨o, d, rs, nm, n, rfl, _⟩ := h
    rfl
  · obtain ⟨o, d, rs, nm, n, rfl, ho, q⟩ := h
    obtain ⟨dx, h1⟩ := ho.ob
    refine ⟨_, (pss_one (ps_ret (pe_and (pe_chain op_le op_le (pe_glob (v := .int (2)) rfl T.gLEAST_GIVEN ⟨_, rfl⟩) (pv 1) (pe_glob (v := .int (4278190079)) rfl T.gGREATEST_GIVEN ⟨_, rfl⟩)) (pe_one (pe_cmp (pc_dnotin (hu_of hr) (pv 1) (pe_fld (pv 0) rfl)) rfl))))), ?_⟩
    unfold mayGive at q
    refine ⟨_, rfl, _, _, rfl, rfl, _, rfl, iteP (fun c1 => ?_) (fun c1 => ?_)⟩
    · refine ⟨_, _, rfl, rfl, _, rfl, iteP (fun c2 => ?_) (fun c2 => ?_)⟩
      · rw [decide_eq_true ⟨c1, c2⟩, Bool.true_and] at q
        refine ⟨_, rfl, _, rfl, o, _, dx, _, _, rfl, h1, T.clObjects, T.nObjects__interfaces, oF_i _ _, d, _, rfl, DGet.k (k := Sum.inl n) ho.dk, ?_⟩
        rw [valV_rows]
        cases e : find rs n with
        | none => rw [e] at q; exact q
        | some z => rw [e] at q; exact q
      · rw [decide_eq_false fun z => c2 z.2, Bool.false_and] at q
        exact q
    · rw [decide_eq_false fun z => c1 z.1, Bool.false_and] at q
      exact ⟨_, rfl, if_f rfl q⟩
def sp_Objects_is_full (C : Addr) : Sp := fun vs H Q _ => ∃ (o d : Addr) (rs : List ORow) (nm : Int), vs = [.ref o] ∧ ObjAt C H o d rs nm ∧ Q (.bl (decide (512 ≤ rs.length))) H
theorem sc_Objects_is_full : FnScope ["self"] ["self"] (defScope s_Objects_is_full) := ⟨rfl, rfl, rfl, by decide +kernel, rfl, by decide +kernel, by decide +kernel⟩
theorem ok_Objects_is_full (T : Txt K mg A) : FnOk P w K mg base CX0 1 A.fObjects_is_full A.dObjects_is_full ["self"] (sp_Objects_is_full A.CObjects) := by
  refine T.FObjects_is_full.ok sc_Objects_is_full (fun vs H Q E h => ?_) (fun cdv Ar outer s H vs Q E hr h => ?_)
  · obtain ⟨o, d, rs, nm, rfl, _⟩ := h
    rfl
  · obtain ⟨o, d, rs, nm, rfl, ho, q⟩ := h
    obtain ⟨dx, h1⟩ := ho.ob
    refine ⟨_, (pss_one (ps_ret (pe_cmpR op_ge (pe_callB call_lenD (by rfl) T.len PySem.boot_len (pa_cons (pe_fld (pv 0) rfl) pa_nil)) (pe_glob (v := .int (512)) rfl T.gMOST_OBJECTS ⟨_, rfl⟩) (nomark _)))), ?_⟩
    refine ⟨_, rfl, o, _, dx, _, _, rfl, h1, T.clObjects, T.nObjects__interfaces, oF_i _ _, d, _, rfl, ho.dk, _, _, rfl, rfl, ?_⟩
    have e : decide ((512 : Int) ≤ ((rowsK rs).length : Int)) = decide (512 ≤ rs.length) := by
      unfold rowsK
      rw [List.length_map]
      by_cases c : 512 ≤ rs.length
      · rw [decide_eq_true c, decide_eq_true (by omega)]
      · rw [decide_eq_false c, decide_eq_false (by omega)]
    dsimp only
    rw [e]; exact q
def sp_Objects_give (C : Addr) : Sp := fun vs H Q _ => ∃ (o d : Addr) (rs : List ORow) (nm n : Int) (z : Str), vs = [.ref o, .int n, .str z] ∧ ObjAt C H o d rs nm ∧ find rs n = none ∧ rs.length < 90000 ∧
  ∀ H', ObjAt C H' o d (rs ++ [(n, z)]) nm → But H H' (fun b => b = d) → Q .non H'
theorem sc_Objects_give : FnScope ["self", "number", "interface"] ["self", "number", "interface"] (defScope s_Objects_give) := ⟨rfl, rfl, rfl, by decide +kernel, rfl, by decide +kernel, by decide +kernel⟩
theorem ok_Objects_give (T : Txt K mg A) : FnOk P w K mg base CX0 1 A.fObjects_give A.dObjects_give ["self", "number", "interface"] (sp_Objects_give A.CObjects) := by
  refine T.FObjects_give.ok sc_Objects_give (fun vs H Q E h => ?_) (fun cdv Ar outer s H vs Q E hr h => ?_)
  · obtain ⟨o, d, rs, nm, n, z, rfl, _⟩ := h
    rfl
  · obtain ⟨o, d, rs, nm, n, z, rfl, ho, hf, hl, q⟩ := h
    obtain ⟨dx, h1⟩ := ho.ob
    refine ⟨_, (pss_one (ps_dput (hu_of hr) (pe_fld (pv 0) rfl) (pv 1) (pv 2) rfl)), ?_⟩
    refine ⟨_, rfl, _, rfl, o, _, dx, _, _, rfl, h1, T.clObjects, T.nObjects__interfaces, oF_i _ _, _, rfl, d, _, rfl, DPut.k (k := Sum.inl n) ho.dk (by unfold rowsK; rw [List.length_map]; exact lt_line (by omega)), ?_⟩
    refine q _ ⟨⟨dx, by rw [upd_ne ho.ne]; exact h1⟩, ?_⟩ fun b u e hb => by rw [upd_ne hb]; exact e
    rw [upd_same, putK_rows hf]
def sp_Objects_make (C : Addr) : Sp := fun vs H Q _ => ∃ (o d : Addr) (rs : List ORow) (nm : Int) (z : Str), vs = [.ref o, .str z] ∧ ObjAt C H o d rs nm ∧ find rs nm = none ∧ rs.length < 90000 ∧
  ∀ H', ObjAt C H' o d (rs ++ [(nm, z)]) (nm + 1) → But H H' (fun b => b = d ∨ b = o) → Q (.int nm) H'
theorem sc_Objects_make : FnScope ["self", "interface", "number"] ["self", "interface"] (defScope s_Objects_make) := ⟨rfl, rfl, rfl, by decide +kernel, rfl, by decide +kernel, by decide +kernel⟩
theorem ok_Objects_make (T : Txt K mg A) : FnOk P w K mg base CX0 1 A.fObjects_make A.dObjects_make ["self", "interface"] (sp_Objects_make A.CObjects) := by
  refine T.FObjects_make.ok sc_Objects_make (fun vs H Q E h => ?_) (fun cdv Ar outer s H vs Q E hr h => ?_)
  · obtain ⟨o, d, rs, nm, z, rfl, _⟩ := h
    rfl
  · obtain ⟨o, d, rs, nm, z, rfl, ho, hf, hl, q⟩ := h
    obtain ⟨dx, h1⟩ := ho.ob
    refine ⟨_, (pss_cons (ps_set (i := 2) sc_Objects_make.nd rfl (Or.inl rfl) (pe_fld (pv 0) rfl))
      (pss_cons (ps_fldaug (pv 0) pe_int in_add)
      (pss_cons (ps_dput (hu_of hr) (pe_fld (pv 0) rfl) (pv 2) (pv 1) rfl)
      (pss_one (ps_ret (pv 2)))))), ?_⟩
    refine ⟨_, rfl, o, _, dx, _, _, rfl, h1, T.clObjects, T.nObjects__next_made, oF_n _ _, ?_⟩
    refine ⟨_, rfl, o, _, dx, _, _, rfl, h1, T.clObjects, T.nObjects__next_made, oF_n _ _, _, _, rfl, rfl, _, _, h1, (by show 2 < 1000; decide), ?_⟩
    have e1 : putF "_next_made" (V.int (nm + 1)) (oF d nm) = oF d (nm + 1) := oF_put d nm (nm + 1)
    rw [e1]
    have h2 : (upd H o (.ins A.CObjects dx (oF d (nm + 1)))) d = some (.dK (rowsK rs)) := by rw [upd_ne ho.ne.symm]; exact ho.dk
    refine ⟨_, rfl, _, rfl, o, _, dx, _, _, rfl, upd_same, T.clObjects, T.nObjects__interfaces, oF_i _ _, _, rfl, d, _, rfl, DPut.k (k := Sum.inl nm) h2 (by unfold rowsK; rw [List.length_map]; exact lt_line (by omega)), ?_⟩
    refine ⟨_, rfl, q _ ⟨⟨dx, by rw [upd_ne ho.ne]; exact upd_same⟩, ?_⟩ fun b u e hb => ?_⟩
    · rw [upd_same, putK_rows hf]
    · rw [upd_ne (fun z => hb (Or.inl z)), upd_ne (fun z => hb (Or.inr z))]; exact e
def sp_Objects_end (C : Addr) : Sp := fun vs H Q _ => ∃ (o d : Addr) (rs : List ORow) (nm n : Int), vs = [.ref o, .int n] ∧ ObjAt C H o d rs nm ∧ (find rs n).isSome = true ∧
  ∀ H', ObjAt C H' o d (rs.filter fun r => decide (r.1 ≠ n)) nm → But H H' (fun b => b = d) → Q (.bl (decide (n ≤ 4278190079))) H'
theorem sc_Objects_end : FnScope ["self", "number"] ["self", "number"] (defScope s_Objects_end) := ⟨rfl, rfl, rfl, by decide +kernel, rfl, by decide +kernel, by decide +kernel⟩
theorem ok_Objects_end (T : Txt K mg A) : FnOk P w K mg base CX0 1 A.fObjects_end A.dObjects_end ["self", "number"] (sp_Objects_end A.CObjects) := by
  refine T.FObjects_end.ok sc_Objects_end (fun vs H Q E h => ?_) (fun cdv Ar outer s H vs Q E hr h => ?_)
  · obtain ⟨o, d, rs, nm, n, rfl, _⟩ := h
    rfl
  · obtain ⟨o, d, rs, nm, n, rfl, ho, hf, q⟩ := h
    obtain ⟨dx, h1⟩ := ho.ob
    refine ⟨_, (pss_cons (ps_ddel (pe_fld (pv 0) rfl) (pv 1))
      (pss_one (ps_ret (pe_cmpR op_le (pv 1) (pe_glob (v := .int (4278190079)) rfl T.gGREATEST_GIVEN ⟨_, rfl⟩) (nomark _))))), ?_⟩
    refine ⟨_, rfl, o, _, dx, _, _, rfl, h1, T.clObjects, T.nObjects__interfaces, oF_i _ _, _, rfl, d, _, Sum.inl n, rfl, ho.dk, rfl, ?_, ?_⟩
    · rw [valV_rows]
      cases e : find rs n with
      | none => rw [e] at hf; cases hf
      | some z => rfl
    refine ⟨_, rfl, _, _, rfl, rfl, q _ ⟨⟨dx, by rw [upd_ne ho.ne]; exact h1⟩, ?_⟩ fun b u e hb => by rw [upd_ne hb]; exact e⟩
    rw [upd_same, dropK_rows]
/-! ### k10's own -/
def rowD (r : ORow) : PyData := .tuple [.int r.1, .str r.2]
def okNames (rs : List ORow) : Prop := ∀ r ∈ rs, PyData.strOk r.2 = true
theorem dp_row {K : PySem.W.Frag} {H : Hp} {v : V} {r : ORow} (h : Dp K H v (rowD r)) : ∃ a, v = .ref a ∧ SqT K H a [.int r.1, .str r.2] := by
  obtain ⟨a, xs, e, q, r⟩ := dp_tuple h
  cases r with | cons r1 r => cases r with | cons r2 r => cases r; cases r1; cases r2; exact ⟨a, e, q⟩
theorem inV_rows (n : Int) : ∀ rs : List ORow, inV (.int n) ((rs.map fun r => r.1).map V.int) = (find rs n).isSome
  | [] => rfl
  | r :: rs => by
    rw [find_cons]
    show (eqV (.int r.1) (.int n) || inV (.int n) ((rs.map fun r => r.1).map V.int)) = _
    rw [inV_rows n rs]
    by_cases h : r.1 = n
    · rw [if_pos h, show eqV (V.int r.1) (V.int n) = true by simp [eqV, h]]; rfl
    · rw [if_neg h, show eqV (V.int r.1) (V.int n) = false by simp [eqV, h], Bool.false_or]
theorem found_eq (n : Int) : ∀ rs : List ORow, (rs.filterMap fun r => if r.1 = n then some r.2 else none).head? = find rs n
  | [] => rfl
  | r :: rs => by
    rw [find_cons, List.filterMap_cons]
    by_cases h : r.1 = n
    · rw [if_pos h, if_pos h]; rfl
    · rw [if_neg h, if_neg h]; exact found_eq n rs
theorem filter_none {n : Int} {rs : List ORow} (h : find rs n = none) : (rs.filter fun r => decide (r.1 ≠ n)) = rs := by
  refine List.filter_eq_self.mpr fun r hr => decide_eq_true fun z => ?_
  unfold find at h
  rw [Option.map_eq_none_iff, List.find?_eq_none] at h
  exact h r hr (decide_eq_true z)
theorem find_lt {n : Int} {rs : List ORow} (h : ∀ r ∈ rs, r.1 < n) : find rs n = none := by
  unfold find
  rw [Option.map_eq_none_iff, List.find?_eq_none]
  intro r hr z
  have := h r hr
  have := of_decide_eq_true z
  omega
theorem find_mem {n : Int} {z : Str} {rs : List ORow} (h : find rs n = some z) : ∃ r ∈ rs, r.1 = n ∧ r.2 = z := by
  unfold find at h
  obtain ⟨r, h1, h2⟩ := Option.map_eq_some_iff.mp h
  have h3 : decide (r.1 = n) = true := by simpa using List.find?_some h1
  exact ⟨r, List.mem_of_find?_eq_some h1, of_decide_eq_true h3, h2⟩
theorem fm_filterMap {α β : Type} (f : α → Option β) (xs : List α) (n : Nat) (h : n = xs.length) (g : Nat → Option β) (hg : ∀ i x, xs[i]? = some x → g i = f x) : fm g n = xs.filterMap f := by
  subst h
  have : ∀ (m : Nat), m ≤ xs.length → fm g m = (xs.take m).filterMap f := by
    intro m
    induction m with
    | zero => intro _; rfl
    | succ m ih =>
      intro hm
      rw [fm_succ, ih (by omega), hg m _ (List.getElem?_eq_getElem (by omega)), List.take_succ_eq_append_getElem (by omega), List.filterMap_append]
      congr 1
  rw [this _ (Nat.le_refl _), List.take_length]
theorem sh_strs {ss : List Str} (h : ∀ s ∈ ss, PyData.strOk s = true) : Sh 1 (.list (ss.map PyData.str)) := sh_list fun d hd => by
  obtain ⟨s, hs, rfl⟩ := List.mem_map.mp hd
  exact sh_str (h s hs)
def optS : Option Str → PyData
  | none => .none
  | some z => .str z
theorem dp_optS {K : PySem.W.Frag} {H : Hp} (o : Option Str) : Dp K H ((o.map V.str).getD .non) (optS o) := by
  cases o with
  | none => exact .non
  | some z => exact .str z
theorem sh_optS {o : Option Str} (h : ∀ z, o = some z → PyData.strOk z = true) : Sh 0 (optS o) := by
  cases o with
  | none => exact sh_none
  | some z => exact sh_str (h z rfl)
def sp__law_agrees (K : PySem.W.Frag) (C : Addr) : Sp := fun vs H Q _ => ∃ (o d r q : Addr) (rs : List ORow) (nm : Int) (as : List Int) (xs : List V), vs = [.ref o, .ref r, .ref q] ∧ ObjAt C H o d rs nm ∧ okNames rs ∧ rs.length < 90000 ∧
  SqL K H r xs ∧ DpAll K H xs (rs.map rowD) ∧ SqL K H q (as.map V.int) ∧ ∀ H', Same H H' → Q (.bl true) H'
theorem sc__law_agrees : FnScope ["objects", "rows", "asked", "row", "number", "found", "due"] ["objects", "rows", "asked"] (defScope s__law_agrees) := ⟨rfl, rfl, rfl, by decide +kernel, rfl, by decide +kernel, by decide +kernel⟩
theorem ok__law_agrees (T : Txt K mg A) : FnOk P w K mg base CX0 2 A.f_law_agrees A.d_law_agrees ["objects", "rows", "asked"] (sp__law_agrees K A.CObjects) := by
  refine T.F_law_agrees.ok sc__law_agrees (fun vs H Q E h => ?_) (fun cdv Ar outer s H vs Q E hr h => ?_)
  · obtain ⟨o, d, r, q, rs, nm, as, xs, rfl, _⟩ := h
    rfl
  · obtain ⟨o, d, r, qa, rs, nm, as, xs, rfl, ho, hn, hl, hR, hD, hA, q⟩ := h
    have hxl : xs.length = rs.length := by rw [dpall_len hD, List.length_map]
    have row_at : ∀ {i : Nat} {x : V}, xs[i]? = some x → ∃ rw_ a, rs[i]? = some rw_ ∧ x = .ref a ∧ SqT K H a [.int rw_.1, .str rw_.2] := by
      intro i x hx
      obtain ⟨dd, hd, dv⟩ := dpall_get hD hx
      rw [List.getElem?_map] at hd
      obtain ⟨rw_, hb, rfl⟩ := Option.map_eq_some_iff.mp hd
      obtain ⟨a, e, q⟩ := dp_row dv
      exact ⟨rw_, a, hb, e, q⟩
    refine ⟨_, (pss_cons (ps_if (PW.pt (pw_or (pt_cmpR (op_neD hr.units) (pe_meth0 (pv 0) T.clObjects T.mObjects_numbers (ok_Objects_numbers T) (hr.mono (by decide)) T.bObjects_numbers .nil pass0) (pe_lc (own := [("row", 3)]) (g := (gName 3)) (tt := tYes) rfl sc__law_agrees.nd (pi_list (pv 1)) (blkOk_by (own := [("row", 3)]) (N := ["objects", "rows", "asked", "row", "number", "found", "due"]) (sc := defScope s__law_agrees) (by decide +kernel)) (fun _ _ _ _ _ => (pg_name (i := 3) sc__law_agrees.nd rfl (Or.inl rfl))) (fun _ _ _ _ _ => pts_nil) (fun _ _ _ _ _ => by exact (pe_ix (r := rIxT K) ix_tup (pv 3) pe_int (fun _ _ => rfl)))) (nomark _)) (pw_or1 (pt_cmpR op_ne (pe_meth0 (pv 0) T.clObjects T.mObjects_is_full (ok_Objects_is_full T) (hr.mono (by decide)) T.bObjects_is_full .nil pass0) (pe_cmpR op_ge (pe_callB call_len_seq (by rfl) T.len PySem.boot_len (pa_cons (pv 1) pa_nil)) pe_int (nomark _)) (nomark _)))))
      (pss_one (ps_ret pe_bl))
      pss_nil)
      (pss_cons (ps_for PassesOwn.never rfl (pi_list (pv 2)) (pg_name (i := 4) sc__law_agrees.nd rfl (Or.inr rfl))
      (C8.pss_cut (ps_setLc (i := 5) (own := [("row", 3)]) (g := (gName 3)) rfl sc__law_agrees.nd rfl rfl (sw_true rfl rfl rfl (by decide +kernel)) (pi_list (pv 1)) (blkOk_by (own := [("row", 3)]) (N := ["objects", "rows", "asked", "row", "number", "found", "due"]) (sc := defScope s__law_agrees) (by decide +kernel)) (fun _ _ _ _ _ => (pg_name (i := 3) sc__law_agrees.nd rfl (Or.inl rfl))) (fun _ _ _ _ _ => (pts_one (pt_cmpR op_eq (pe_ix (r := rIxT K) ix_tup (pv 3) pe_int (fun _ _ => rfl)) (pv 4) (nomark _)))) (fun _ _ _ _ _ => by exact (pe_ix (r := rIxT K) ix_tup (pv 3) pe_int (fun _ _ => rfl))))
      (pss_cons (ps_set (i := 6) sc__law_agrees.nd rfl (Or.inl rfl) pe_non)
      (pss_cons (ps_if (pt_cmpR (op_neD hr.units) (pv 5) (pe_lst pa_nil) (nomark _))
      (pss_one (ps_set (i := 6) sc__law_agrees.nd rfl (Or.inl rfl) (pe_ix (r := rIxL K) ix_list (pv 5) pe_int (fun _ _ => rfl))))
      pss_nil)
      (pss_cons (ps_if (pt_cmpR (op_neD hr.units) (pe_meth (pv 0) T.clObjects T.mObjects_interface_of (ok_Objects_interface_of T) (hr.mono (by decide)) T.bObjects_interface_of .nil pass0 (pa_cons (pv 4) pa_nil)) (pv 6) (nomark _))
      (pss_one (ps_ret pe_bl))
      pss_nil)
      (pss_one (ps_if (pt_cmpR op_ne (pe_meth (pv 0) T.clObjects T.mObjects_may_give (ok_Objects_may_give T) (hr.mono (by decide)) T.bObjects_may_give .nil pass0 (pa_cons (pv 4) pa_nil)) (pe_and (pe_chain op_le op_lt pe_int (pv 4) pe_int) (pe_one (pe_cmpR op_isN (pv 6) pe_non (nomark _)))) (nomark _))
      (pss_one (ps_ret pe_bl))
      pss_nil)))))))
      (pss_one (ps_ret pe_bl)))), ?_⟩
    obtain ⟨dx, h1⟩ := ho.ob
    refine ⟨_, rfl, o, dx, _, rfl, h1, oF_no _ _ (by decide +kernel) (by decide +kernel), o, d, rs, nm, rfl, ho, fun p1 H1 n1 => ?_⟩
    refine ⟨_, rfl, r, rfl, ⟨_, n1.same.seq hR⟩, fun D hDn => ?_⟩
    refine lc_dp (walk_list (K := K) (a := r) (xs := xs)) (K := K) (V0 := H1) (H0 := H1) (fun i => (rs[i]?).map fun x => PyData.int x.1) [some (.ref o), some (.ref r), some (.ref qa), none, none, none, none] rfl (Same.refl _) hDn (by omega) (fun H' s => (n1.same.trans s).seq hR) (fun i x H H' y => y.1) ?_ ?_
    · rintro i x U H2 hi xx ⟨_, hx⟩ Qy Qn hy _
      obtain ⟨rw_, ra, hrw, rfl, hq⟩ := row_at hx
      refine ⟨rfl, _, rfl, ra, _, 0, _, rfl, rfl, (n1.same.trans xx.hh).sqt hq, atI_nat (j := 0) rfl, ?_⟩
      exact hy _ _ _ _ (by rw [hrw]; rfl) (Ext.refl xx.vh) (.int _)
    rintro U H2 ys xx hDU dl _
    rw [hxl, show fm (fun i => (rs[i]?).map fun x => PyData.int x.1) rs.length = (rs.map fun x => x.1).map PyData.int from by
      rw [List.map_map]; exact fm_list _ _ _ rfl _ fun i x hx => by rw [hx]; rfl] at dl
    have e := dp_intsV dl
    subst e
    have s2 : Same H H2 := n1.same.trans xx.hh
    refine ⟨_, _, dp_ints (SqL.of (xx.hh _ _ n1.at_)), dp_ints (SqL.of (xx.vh _ _ hDU)), (sh_ints _).shaped, (sh_ints _).shaped, _, rfl, if_f (by rw [(sh_ints _).self]; rfl) ?_⟩
    refine ⟨_, rfl, o, dx, _, rfl, s2 _ _ h1, oF_no _ _ (by decide +kernel) (by decide +kernel), o, d, rs, nm, rfl, ho.same s2, ?_⟩
    refine ⟨_, rfl, r, _, rfl, .inl (s2.seq hR), _, _, rfl, rfl, rfl, _, rfl, if_f ?_ ?_⟩
    · have e5 : V.bl (decide (512 ≤ rs.length)) = V.bl (decide ((512 : Int) ≤ (xs.length : Int))) := congrArg V.bl (decide_eq_decide.mpr (by omega))
      exact congrArg (!·) (decide_eq_true e5)
    refine ⟨_, rfl, qa, rfl, ⟨_, s2.seq hA⟩, for_list (K := K) (a := qa) (xs := as.map V.int) (fun i σ H' => ∃ v4 v5 v6 : Option V, σ = [some (.ref o), some (.ref r), some (.ref qa), none, v4, v5, v6] ∧ Same H H')
      ⟨_, _, _, rfl, s2⟩ (fun i σ H' _ ⟨_, _, _, _, s⟩ => s.seq hA) ?_ ?_⟩
    · rintro i x σ H3 hx ⟨v4, v5, v6, rfl, s3⟩
      rw [List.getElem?_map] at hx
      obtain ⟨n, _, rfl⟩ := Option.map_eq_some_iff.mp hx
      refine ⟨fun σ' H' => ∃ D, σ' = [some (.ref o), some (.ref r), some (.ref qa), none, some (.int n), some (.ref D), v6] ∧ Same H H' ∧ H' D = some (.lst ((rs.filterMap fun r => if r.1 = n then some r.2 else none).map V.str)), ?_, ?_⟩
      · refine ⟨_, rfl, r, rfl, ⟨_, s3.seq hR⟩, fun D hDn => ?_⟩
        refine lc_dp (walk_list (K := K) (a := r) (xs := xs)) (K := K) (V0 := H3) (H0 := H3) (fun i => (rs[i]?).bind fun x => if x.1 = n then some (PyData.str x.2) else none) [some (.ref o), some (.ref r), some (.ref qa), none, some (.int n), v5, v6] rfl (Same.refl _) hDn (by omega) (fun H' s => (s3.trans s).seq hR) (fun i x H H' y => y.1) ?_ ?_
        · rintro i x U H2 hi xx ⟨_, hx⟩ Qy Qn hy hno
          obtain ⟨rw_, ra, hrw, rfl, hq⟩ := row_at hx
          refine ⟨rfl, _, rfl, ra, _, 0, _, rfl, rfl, (s3.trans xx.hh).sqt hq, atI_nat (j := 0) rfl, _, rfl, rfl, _, rfl, ?_⟩
          refine iteEq (fun c => ?_) (fun c => ?_)
          · refine ⟨_, rfl, ra, _, 1, _, rfl, rfl, (s3.trans xx.hh).sqt hq, atI_nat (j := 1) rfl, hy _ _ _ _ ?_ (Ext.refl xx.vh) (.str _)⟩
            rw [hrw]; exact if_pos c
          · refine hno ?_ _ _ (Ext.refl xx.vh)
            rw [hrw]; exact if_neg c
        rintro U H4 ys xx4 hDU dl _
        rw [fm_filterMap (fun x : ORow => if x.1 = n then some (PyData.str x.2) else none) rs _ hxl _ fun i x hx => by rw [hx]; rfl,
          show (rs.filterMap fun x => if x.1 = n then some (PyData.str x.2) else none) = (rs.filterMap fun r => if r.1 = n then some r.2 else none).map PyData.str from by
            rw [List.map_filterMap]
            congr 1
            funext x
            by_cases c : x.1 = n
            · rw [if_pos c, if_pos c]; rfl
            · rw [if_neg c, if_neg c]; rfl] at dl
        have e := dp_strsV dl
        subst e
        exact ⟨D, rfl, s3.trans xx4.hh, xx4.vh _ _ hDU⟩
      rintro σ' H4 ⟨D, rfl, s4, e4⟩
      have hok : ∀ z ∈ (rs.filterMap fun r => if r.1 = n then some r.2 else none), PyData.strOk z = true := by
        intro z hz
        obtain ⟨r', hr', e'⟩ := List.mem_filterMap.mp hz
        by_cases c : r'.1 = n
        · rw [if_pos c] at e'; cases e'; exact hn r' hr'
        · rw [if_neg c] at e'; cases e'
      have hfe := found_eq n rs
      generalize (rs.filterMap fun r => if r.1 = n then some r.2 else none) = fs at e4 hok hfe
      have hfo : ∀ z, find rs n = some z → PyData.strOk z = true := fun z hz => by
        obtain ⟨r', h', _, e'⟩ := find_mem hz
        rw [← e']; exact hn r' h'
      -- due
      have tail : ∀ (H5 : Hp) (t : TS), Same H H5 → t = (tSeq (tIfS (tTest (tOp (rNeD K) (tMeth A.CObjects "interface_of" (sp_Objects_interface_of A.CObjects) [] E0 (tVar 0) (tCons (tVar 4) tNil)) (tVar 6))) (tRet (tC (.bl false))) tNext)
          (tIfS (tTest (tOp rNe (tMeth A.CObjects "may_give" (sp_Objects_may_give A.CObjects) [] E0 (tVar 0) (tCons (tVar 4) tNil)) (tAndV (tChain (rI0 fun i j => .bl (decide (i ≤ j))) (rI0 fun i j => .bl (decide (i < j))) (tC (.int 2)) (tVar 4) (tC (.int 4278190080))) (tOp (fun x y H Q => y = .non ∧ Q (.bl (decide (x = .non))) H) (tVar 6) (tC .non))))) (tRet (tC (.bl false))) tNext)) →
          t { nx := fun σ' H' => ∃ v4 v5 v6 : Option V, σ' = [some (.ref o), some (.ref r), some (.ref qa), none, v4, v5, v6] ∧ Same H H', rt := Q } [some (.ref o), some (.ref r), some (.ref qa), none, some (.int n), some (.ref D), some (((find rs n).map V.str).getD .non)] H5 := by
        rintro H5 t s5 rfl
        refine ⟨_, rfl, o, dx, _, rfl, s5 _ _ h1, oF_no _ _ (by decide +kernel) (by decide +kernel), _, rfl, o, d, rs, nm, n, rfl, ho.same s5, ?_⟩
        refine ⟨_, rfl, _, _, dp_optS _, dp_optS _, (sh_optS hfo).shaped, (sh_optS hfo).shaped, _, rfl, if_f (by rw [(sh_optS hfo).self]; rfl) ?_⟩
        refine ⟨_, rfl, o, dx, _, rfl, s5 _ _ h1, oF_no _ _ (by decide +kernel) (by decide +kernel), _, rfl, o, d, rs, nm, n, rfl, ho.same s5, ?_⟩
        have fin : ∀ (b : Bool), mayGive rs n = b → (if (!decide (V.bl (mayGive rs n) = V.bl b)) = true then tRet (tC (.bl false)) { nx := fun σ' H' => ∃ v4 v5 v6 : Option V, σ' = [some (.ref o), some (.ref r), some (.ref qa), none, v4, v5, v6] ∧ Same H H', rt := Q } [some (.ref o), some (.ref r), some (.ref qa), none, some (.int n), some (.ref D), some (((find rs n).map V.str).getD .non)] H5
            else tNext { nx := fun σ' H' => ∃ v4 v5 v6 : Option V, σ' = [some (.ref o), some (.ref r), some (.ref qa), none, v4, v5, v6] ∧ Same H H', rt := Q } [some (.ref o), some (.ref r), some (.ref qa), none, some (.int n), some (.ref D), some (((find rs n).map V.str).getD .non)] H5) := by
          intro b hb
          refine if_f ?_ ⟨_, _, _, rfl, s5⟩
          rw [hb, decide_eq_true rfl]; rfl
        unfold mayGive at fin
        refine ⟨_, rfl, _, _, rfl, rfl, _, rfl, iteP (fun c1 => ?_) (fun c1 => ?_)⟩
        · refine ⟨_, _, rfl, rfl, _, rfl, iteP (fun c2 => ?_) (fun c2 => ?_)⟩
          · refine ⟨_, rfl, rfl, rfl, _, rfl, fin _ ?_⟩
            have c3 : 2 ≤ n ∧ n ≤ 4278190079 := ⟨c1, by have : n < 4278190080 := c2; omega⟩
            rw [decide_eq_true c3, Bool.true_and]
            cases find rs n <;> rfl
          · refine ⟨rfl, _, rfl, fin _ ?_⟩
            rw [decide_eq_false (fun z => c2 (show n < 4278190080 by omega)), Bool.false_and]
        · refine ⟨_, rfl, if_f rfl ⟨rfl, _, rfl, fin _ ?_⟩⟩
          rw [decide_eq_false (fun z => c1 z.1), Bool.false_and]
      refine ⟨_, rfl, by decide, fun p5 f5 => ?_⟩
      have s5 := same_upd (o := .lst []) f5
      refine ⟨_, _, .lst (SqL.of (s5 _ _ e4)) ?_, .lst (SqL.of upd_same) .nil, (sh_strs hok).shaped, (sh_ints []).shaped, _, rfl, ?_⟩
      · clear hok hfe e4
        induction fs with
        | nil => exact .nil
        | cons z fs ih => exact .cons (.str z) ih
      cases fs with
      | nil =>
        refine if_f rfl ?_
        have hf : find rs n = none := hfe.symm
        have := tail _ _ (s4.trans s5) rfl
        rw [hf] at this
        exact this
      | cons z fs =>
        have hf : find rs n = some z := hfe.symm
        refine if_t rfl ⟨_, rfl, D, _, 0, .str z, rfl, rfl, SqL.of (s5 _ _ e4), atI_nat (j := 0) rfl, ?_⟩
        have := tail _ _ (s4.trans s5) rfl
        rw [hf] at this
        exact this
    · rintro σ H3 ⟨v4, v5, v6, rfl, s3⟩
      exact q H3 s3
/-- what the law keeps: Objects at o (dict d), its rows, the list of the same rows at r -/
structure LInv (K : PySem.W.Frag) (C : Addr) (H0 H' : Hp) (o d r : Addr) (rs : List ORow) (nm : Int) : Prop where
  ex : ∃ (U : Hp) (xs : List V), Same U H' ∧ U o = none ∧ U d = none ∧ U r = none ∧ H' r = some (.lst xs) ∧ DpAll K U xs (rs.map rowD)
  hh : Same H0 H'
  ob : ObjAt C H' o d rs nm
  no : H0 o = none
  nd : H0 d = none
  nr : H0 r = none
structure RInv (rs : List ORow) (nm : Int) (m : Nat) : Prop where
  ok : okNames rs
  len : rs.length ≤ m
  lo : ∀ r ∈ rs, 1 ≤ r.1
  hi : ∀ r ∈ rs, r.1 < nm
  big : 4278190080 ≤ nm
  one : ∃ x ∈ rs, x.1 = 1
theorem RInv.pos {rs : List ORow} {nm : Int} {m : Nat} (h : RInv rs nm m) : 0 < rs.length := by
  obtain ⟨x, hx, _⟩ := h.one
  exact List.length_pos_of_mem hx
theorem LInv.ne {K : PySem.W.Frag} {C o d r : Addr} {H0 H' : Hp} {rs : List ORow} {nm : Int} (i : LInv K C H0 H' o d r rs nm) : r ≠ o ∧ r ≠ d := by
  obtain ⟨U, xs, _, _, _, _, e, _⟩ := i.ex
  obtain ⟨dx, e1⟩ := i.ob.ob
  exact ⟨ne_of e e1 (by intro z; cases z), ne_of e i.ob.dk (by intro z; cases z)⟩
theorem LInv.grow {K : PySem.W.Frag} {C o d r : Addr} {H0 H' H2 : Hp} {rs : List ORow} {nm : Int} (i : LInv K C H0 H' o d r rs nm) (s : Same H' H2) : LInv K C H0 H2 o d r rs nm := by
  obtain ⟨U, xs, h1, h2, h3, h4, e, dp⟩ := i.ex
  exact ⟨⟨U, xs, h1.trans s, h2, h3, h4, s _ _ e, dp⟩, i.hh.trans s, i.ob.same s, i.no, i.nd, i.nr⟩
/-- the objects change, then the list gets a row -/
theorem LInv.push {K : PySem.W.Frag} {C o d r t : Addr} {H0 H' H2 : Hp} {rs : List ORow} {nm nm' n : Int} {z : Str} {xs : List V} (i : LInv K C H0 H' o d r rs nm) (ob : ObjAt C H2 o d (rs ++ [(n, z)]) nm') (b : But H' H2 fun b => b = d ∨ b = o) (ht : H2 t = none) :
    (upd H2 t (.tup [.int n, .str z])) r = H' r ∧ (∀ xs, H' r = some (.lst xs) → LInv K C H0 (upd (upd H2 t (.tup [.int n, .str z])) r (.lst (xs ++ [.ref t]))) o d r (rs ++ [(n, z)]) nm') := by
  obtain ⟨hro, hrd⟩ := i.ne
  obtain ⟨U, xs, h1, h2, h3, h4, e, dp⟩ := i.ex
  obtain ⟨dx, e1⟩ := ob.ob
  have er2 : H2 r = some (.lst xs) := b r _ e (fun q => q.elim hrd hro)
  have hrt : r ≠ t := ne_of_none er2 ht
  have hot : o ≠ t := ne_of_none e1 ht
  have hdt : d ≠ t := ne_of_none ob.dk ht
  have su : Same U H2 := fun c u q => b c u (h1 c u q) fun q2 => by
    rcases q2 with rfl | rfl
    · rw [h3] at q; cases q
    · rw [h2] at q; cases q
  refine ⟨by rw [upd_ne hrt, er2, e], fun xs' e' => ?_⟩
  rw [e] at e'
  cases e'
  have ut : U t = none := su.free ht
  refine ⟨⟨upd U t (.tup [.int n, .str z]), xs ++ [.ref t], ?_, by rw [upd_ne hot]; exact h2, by rw [upd_ne hdt]; exact h3, by rw [upd_ne hrt]; exact h4, upd_same, ?_⟩, ?_, ?_, i.no, i.nd, i.nr⟩
  · intro c u q
    have hcr : c ≠ r := fun q2 => by
      subst q2
      rw [upd_ne hrt, h4] at q; cases q
    rw [upd_ne hcr]
    by_cases hct : c = t
    · subst hct; rw [upd_same] at q ⊢; exact q
    · rw [upd_ne hct] at q ⊢; exact su c u q
  · rw [List.map_append]
    exact dpall_app (dp.to (same_upd ut)) (.cons (.tup (SqT.of upd_same) (.cons (.int _) (.cons (.str _) .nil))) .nil)
  · intro c u q
    have e3 : H2 c = some u := b c u (i.hh c u q) fun q2 => q2.elim (ne_of_none q i.nd) (ne_of_none q i.no)
    rw [upd_ne (ne_of_none q i.nr), upd_ne (ne_of_none e3 ht)]
    exact e3
  · exact ⟨⟨dx, by rw [upd_ne hro.symm, upd_ne hot]; exact e1⟩, by rw [upd_ne hrd.symm, upd_ne hdt]; exact ob.dk⟩
/-- the list is another one -/
theorem LInv.swap {K : PySem.W.Frag} {C o d r r' : Addr} {H0 H' H2 U2 : Hp} {rs rs' : List ORow} {nm nm' : Int} {ys : List V} (i : LInv K C H0 H' o d r rs nm) (ob : ObjAt C H2 o d rs' nm') (b : But H' H2 fun b => b = d) (x : Same U2 H2) (u1 : U2 o = none) (u2 : U2 d = none) (u3 : U2 r' = none) (e : H2 r' = some (.lst ys)) (dp : DpAll K U2 ys (rs'.map rowD)) (nr : H0 r' = none) :
    LInv K C H0 H2 o d r' rs' nm' :=
  ⟨⟨U2, ys, x, u1, u2, u3, e, dp⟩, fun c u q => b c u (i.hh c u q) (ne_of_none q i.nd), ob, i.no, i.nd, nr⟩
theorem sc_law : FnScope ["script", "objects", "rows", "made", "k", "row", "number", "name", "deed", "here", "other", "spoilt"] ["script"] (defScope s_law) := ⟨rfl, rfl, rfl, by decide +kernel, rfl, by decide +kernel, by decide +kernel⟩
theorem ok_law (T : Txt K mg A) : FnOk P w K mg base CX0 4 A.flaw A.dlaw ["script"] (sp_law K) := by
  refine T.Flaw.ok sc_law (fun vs H Q E h => ?_) (fun cdv Ar outer s H vs Q E hr h => ?_)
  · obtain ⟨a, ns, rfl, _⟩ := h
    rfl
  · obtain ⟨a, ns, rfl, hS, hlen, q⟩ := h
    refine ⟨_, (pss_cons (ps_set (i := 1) sc_law.nd rfl (Or.inl rfl) (pe_make0 T.MObjects (ok_Objects___init__ T) (hr.mono (by decide)) rfl T.gObjects T.bObjects___init__ .nil pass0))
      (pss_cons (ps_set (i := 2) sc_law.nd rfl (Or.inl rfl) (pe_lst (pa_cons (pe_tup (pa_cons pe_int (pa_cons pe_str pa_nil))) pa_nil)))
      (pss_cons (ps_set (i := 3) sc_law.nd rfl (Or.inl rfl) pe_int)
      (C8.pss_cut (ps_if (pt_cmpR op_eq (pe_op op_mod (pe_callTy call_int1 (by rfl) T.int (by decide +kernel) (pa_cons (pe_call (ok__law_row T) (hr.mono (by decide)) rfl T.g_law_row T.k_law_row T.b_law_row .nil pass0 (pa_cons (pv 0) (pa_cons pe_int pa_nil))) pa_nil)) pe_int) pe_int (nomark _))
      (pss_one (ps_for PassesOwn.never rfl (pi_range1 (by rfl) T.range (pa_cons pe_int pa_nil)) (pg_name (i := 4) sc_law.nd rfl (Or.inl rfl))
      (pss_cons (ps_expr (pe_meth (pv 1) T.clObjects T.mObjects_give (ok_Objects_give T) (hr.mono (by decide)) T.bObjects_give .nil pass0 (pa_cons (pe_op op_add pe_int (pv 4)) (pa_cons pe_str pa_nil))))
      (pss_one (ps_expr (pe_bm PySem.F.plainAttrs_list PySem.F.slot_list_append PySem.F.type_list_append mt_append (pv 2) (pa_cons (pe_tup (pa_cons (pe_op op_add pe_int (pv 4)) (pa_cons pe_str pa_nil))) pa_nil)))))))
      pss_nil)
      (pss_cons (ps_for PassesOwn.never rfl (pi_range1 (by rfl) T.range (pa_cons (pe_op op_add (pe_callB (call_min2 rfl) (by rfl) T.min (by decide +kernel) (pa_cons (pe_callB call_len_seq (by rfl) T.len PySem.boot_len (pa_cons (pv 0) pa_nil)) (pa_cons pe_int pa_nil))) pe_int) pa_nil)) (pg_name (i := 4) sc_law.nd rfl (Or.inl rfl))
      (pss_cons (ps_set (i := 5) sc_law.nd rfl (Or.inl rfl) (pe_callTy call_int1 (by rfl) T.int (by decide +kernel) (pa_cons (pe_op op_fdiv (pe_call (ok__law_row T) (hr.mono (by decide)) rfl T.g_law_row T.k_law_row T.b_law_row .nil pass0 (pa_cons (pv 0) (pa_cons (pv 4) pa_nil))) pe_int) pa_nil)))
      (pss_cons (ps_set (i := 6) sc_law.nd rfl (Or.inr rfl) (pe_ix (r := rIxT K) ix_tup (pe_tup (pa_cons pe_int (pa_cons pe_int (pa_cons pe_int (pa_cons pe_int (pa_cons pe_int (pa_cons pe_int (pa_cons pe_int (pa_cons pe_int pa_nil))))))))) (pe_op op_mod (pv 5) pe_int) (fun _ _ => rfl)))
      (C8.pss_cut (ps_if (pt_cmpR op_eq (pe_op op_mod (pe_op op_fdiv (pv 5) pe_int) pe_int) pe_int (nomark _))
      (pss_one (ps_set (i := 6) sc_law.nd rfl (Or.inr rfl) (pe_ix (r := rIxT K) ix_tup (pe_ix (r := rIxL K) ix_list (pv 2) (pe_op op_mod (pe_op op_fdiv (pv 5) pe_int) (pe_callB call_len_seq (by rfl) T.len PySem.boot_len (pa_cons (pv 2) pa_nil))) (fun _ _ => rfl)) pe_int (fun _ _ => rfl))))
      pss_nil)
      (pss_cons (ps_set (i := 7) sc_law.nd rfl (Or.inl rfl) (pe_ix (r := rIxT K) ix_tup (pe_tup (pa_cons pe_str (pa_cons pe_str (pa_cons pe_str pa_nil)))) (pe_op op_mod (pe_op op_fdiv (pv 5) pe_int) pe_int) (fun _ _ => rfl)))
      (pss_cons (ps_set (i := 8) sc_law.nd rfl (Or.inl rfl) (pe_op op_mod (pe_op op_fdiv (pv 5) pe_int) pe_int))
      (pss_cons (ps_setLc (i := 9) (own := [("other", 10)]) (g := (gName 10)) (tt := tYes) rfl sc_law.nd rfl rfl (sw_true rfl rfl rfl (by decide +kernel)) (pi_list (pv 2)) (blkOk_by (own := [("other", 10)]) (N := ["script", "objects", "rows", "made", "k", "row", "number", "name", "deed", "here", "other", "spoilt"]) (sc := defScope s_law) (by decide +kernel)) (fun _ _ _ _ _ => (pg_name (i := 10) sc_law.nd rfl (Or.inl rfl))) (fun _ _ _ _ _ => pts_nil) (fun _ _ _ _ _ => by exact (pe_ix (r := rIxT K) ix_tup (pv 10) pe_int (fun _ _ => rfl))))
      (C8.pss_cut (ps_if (PW.pt (pw_and (pt_cmpR op_eq (pv 8) pe_int (nomark _)) (pw_and (pt_val (pe_meth (pv 1) T.clObjects T.mObjects_may_give (ok_Objects_may_give T) (hr.mono (by decide)) T.bObjects_may_give .nil pass0 (pa_cons (pv 6) pa_nil))) (pw_and1 (pt_cmpR op_lt (pe_callB call_len_seq (by rfl) T.len PySem.boot_len (pa_cons (pv 2) pa_nil)) pe_int (nomark _))))))
      (pss_cons (ps_expr (pe_meth (pv 1) T.clObjects T.mObjects_give (ok_Objects_give T) (hr.mono (by decide)) T.bObjects_give .nil pass0 (pa_cons (pv 6) (pa_cons (pv 7) pa_nil))))
      (pss_one (ps_expr (pe_bm PySem.F.plainAttrs_list PySem.F.slot_list_append PySem.F.type_list_append mt_append (pv 2) (pa_cons (pe_tup (pa_cons (pv 6) (pa_cons (pv 7) pa_nil))) pa_nil)))))
      (pss_one (ps_if (PW.pt (pw_and (pt_cmpR op_eq (pv 8) pe_int (nomark _)) (pw_and1 (pt_cmpR op_lt (pe_callB call_len_seq (by rfl) T.len PySem.boot_len (pa_cons (pv 2) pa_nil)) pe_int (nomark _)))))
      (pss_cons (ps_if (pt_cmpR op_ne (pe_meth (pv 1) T.clObjects T.mObjects_make (ok_Objects_make T) (hr.mono (by decide)) T.bObjects_make .nil pass0 (pa_cons (pv 7) pa_nil)) (pv 3) (nomark _))
      (pss_one (ps_ret pe_bl))
      pss_nil)
      (pss_cons (ps_expr (pe_bm PySem.F.plainAttrs_list PySem.F.slot_list_append PySem.F.type_list_append mt_append (pv 2) (pa_cons (pe_tup (pa_cons (pv 3) (pa_cons (pv 7) pa_nil))) pa_nil)))
      (pss_one (ps_set (i := 3) sc_law.nd rfl (Or.inl rfl) (pe_op op_add (pv 3) pe_int)))))
      (pss_one (ps_if (PW.pt (pw_and (pt_cmpR op_eq (pv 8) pe_int (nomark _)) (pw_and1 (pt_cmpR op_ne (pv 6) pe_int (nomark _)))))
      (C8.pss_cut (ps_if (PW.pt (pw_and (pt_cmpR op_in_seq (pv 6) (pv 9) (by rfl)) (pw_and1 (pt_cmpR op_ne (pe_meth (pv 1) T.clObjects T.mObjects_end (ok_Objects_end T) (hr.mono (by decide)) T.bObjects_end .nil pass0 (pa_cons (pv 6) pa_nil)) (pe_chain op_le op_lt pe_int (pv 6) pe_int) (nomark _)))))
      (pss_one (ps_ret pe_bl))
      pss_nil)
      (pss_one (ps_setLc (i := 2) (own := [("other", 10)]) (g := (gName 10)) rfl sc_law.nd rfl rfl (sw_true rfl rfl rfl (by decide +kernel)) (pi_list (pv 2)) (blkOk_by (own := [("other", 10)]) (N := ["script", "objects", "rows", "made", "k", "row", "number", "name", "deed", "here", "other", "spoilt"]) (sc := defScope s_law) (by decide +kernel)) (fun _ _ _ _ _ => (pg_name (i := 10) sc_law.nd rfl (Or.inl rfl))) (fun _ _ _ _ _ => (pts_one (pt_cmpR op_ne (pe_ix (r := rIxT K) ix_tup (pv 10) pe_int (fun _ _ => rfl)) (pv 6) (nomark _)))) (fun _ _ _ _ _ => by exact (pv 10)))))
      pss_nil)))))
      (pss_one (ps_if (pt_not (pt_val (pe_call (ok__law_agrees T) (hr.mono (by decide)) rfl T.g_law_agrees T.k_law_agrees T.b_law_agrees .nil pass0 (pa_cons (pv 1) (pa_cons (pv 2) (pa_cons (pe_lst (pa_cons (pv 6) (pa_cons pe_int (pa_cons pe_int (pa_cons (pv 3) (pa_cons (pe_op op_sub (pv 3) pe_int) (pa_cons pe_int (pa_cons pe_int pa_nil)))))))) pa_nil))))))
      (pss_one (ps_ret pe_bl))
      pss_nil))))))))))
      (pss_cons (ps_set (i := 11) sc_law.nd rfl (Or.inl rfl) (pe_meth0 (pv 1) T.clObjects T.mObjects_numbers (ok_Objects_numbers T) (hr.mono (by decide)) T.bObjects_numbers .nil pass0))
      (pss_cons (ps_expr (pe_bm PySem.F.plainAttrs_list PySem.F.slot_list_append PySem.F.type_list_append mt_append (pv 11) (pa_cons pe_int pa_nil)))
      (pss_one (ps_ret (pe_cmpR (op_eqD hr.units) (pe_meth0 (pv 1) T.clObjects T.mObjects_numbers (ok_Objects_numbers T) (hr.mono (by decide)) T.bObjects_numbers .nil pass0) (pe_lc (own := [("row", 5)]) (g := (gName 5)) (tt := tYes) rfl sc_law.nd (pi_list (pv 2)) (blkOk_by (own := [("row", 5)]) (N := ["script", "objects", "rows", "made", "k", "row", "number", "name", "deed", "here", "other", "spoilt"]) (sc := defScope s_law) (by decide +kernel)) (fun _ _ _ _ _ => (pg_name (i := 5) sc_law.nd rfl (Or.inl rfl))) (fun _ _ _ _ _ => pts_nil) (fun _ _ _ _ _ => by exact (pe_ix (r := rIxT K) ix_tup (pv 5) pe_int (fun _ _ => rfl)))) (nomark _))))))))))), ?_⟩
    -- objects = Objects(), rows, made
    intro o dx fo fdx hdo
    refine ⟨o, dx, rfl, upd_same, fun d H1 ob1 nd1 b1 => ⟨rfl, ?_⟩⟩
    have s1 : Same H H1 := fun c u q => by
      refine b1 c u ?_ (ne_of_none q fo)
      rw [upd_ne (ne_of_none q fo), upd_ne (ne_of_none q fdx)]; exact q
    have hd0 : H d = none := by
      have : (upd (upd H dx (.own o)) o (.ins A.CObjects dx [])) d = none := nd1
      by_cases h1 : d = o
      · subst h1; rw [upd_same] at this; cases this
      · rw [upd_ne h1] at this
        by_cases h2 : d = dx
        · subst h2; exact fdx
        · rw [upd_ne h2] at this; exact this
    refine ⟨len_line (by show 2 ≤ 100000; decide), fun t ft => ⟨len_line (by show 1 ≤ 100000; decide), fun r fr => ?_⟩⟩
    have st := same_upd (o := .tup [.int 1, .str "display"]) ft
    have sr := same_upd (o := .lst [.ref t]) fr
    obtain ⟨dx1, e1⟩ := ob1.ob
    have ob2 := (ob1.same st).same sr
    have rne : r ≠ o ∧ r ≠ d ∧ r ≠ t := ⟨(ne_of_none (st _ _ e1) fr).symm, (ne_of_none (st _ _ ob1.dk) fr).symm, (ne_of_none upd_same fr).symm⟩
    have tne : t ≠ o ∧ t ≠ d := ⟨(ne_of_none e1 ft).symm, (ne_of_none ob1.dk ft).symm⟩
    have I0 : LInv K A.CObjects H (upd (upd H1 t (.tup [.int 1, .str "display"])) r (.lst [.ref t])) o d r [(1, "display")] 4278190080 := by
      refine ⟨⟨upd (fun _ => none) t (.tup [.int 1, .str "display"]), [.ref t], ?_, ?_, ?_, ?_, upd_same, ?_⟩, s1.trans (st.trans sr), ob2, fo, hd0, s1.free (st.free fr)⟩
      · intro c u q
        by_cases hct : c = t
        · subst hct; rw [upd_same] at q; rw [upd_ne rne.2.2.symm, upd_same]; exact q
        · rw [upd_ne hct] at q; cases q
      · rw [upd_ne tne.1.symm]
      · rw [upd_ne tne.2.symm]
      · rw [upd_ne rne.2.2]
      · exact .cons (.tup (SqT.of upd_same) (.cons (.int _) (.cons (.str _) .nil))) .nil
    have R0 : RInv [(1, "display")] 4278190080 1 := ⟨fun r hr => by rw [List.mem_singleton.mp hr]; decide +kernel, Nat.le_refl _, fun r hr => by rw [List.mem_singleton.mp hr]; decide, fun r hr => by rw [List.mem_singleton.mp hr]; decide, by decide, ⟨_, List.mem_singleton.mpr rfl, rfl⟩⟩
    -- 506 numbers first, or not
    refine ⟨fun σ' H' => ∃ (rs : List ORow) (v4 : Option V), σ' = [some (.ref a), some (.ref o), some (.ref r), some (.int 4278190080), v4, none, none, none, none, none, none, none] ∧ LInv K A.CObjects H H' o d r rs 4278190080 ∧ RInv rs 4278190080 510, ?_, ?_⟩
    · refine ⟨_, rfl, a, ns, 0, rfl, ((s1.trans (st.trans sr))).seq hS, ?_⟩
      walk_at "rd"
      refine iteEq (fun c => ?_) (fun c => ?_)
      · refine ⟨506, rfl, by decide, by decide, for_range (lo := 0) (n := 506) (fun i σ H' => ∃ (rs : List ORow) (v4 : Option V), σ = [some (.ref a), some (.ref o), some (.ref r), some (.int 4278190080), v4, none, none, none, none, none, none, none] ∧ LInv K A.CObjects H H' o d r rs 4278190080 ∧ RInv rs 4278190080 (i + 1) ∧ ∀ x ∈ rs, x.1 < 1000 + i)
          ⟨_, _, rfl, I0, R0, fun x hx => by rw [List.mem_singleton.mp hx]; decide⟩ ?_ ?_⟩
        · rintro i σ H2 hi ⟨rs, v4, rfl, I, R, hlt⟩
          obtain ⟨dx2, e2⟩ := I.ob.ob
          obtain ⟨U, xs, _, _, _, _, er, _⟩ := I.ex
          have Rl := R.len
          refine ⟨_, rfl, o, dx2, _, rfl, e2, oF_no _ _ (by decide +kernel) (by decide +kernel), _, rfl, _, _, rfl, rfl, o, d, rs, _, 1000 + (0 + (i : Int)), "region", rfl, I.ob, find_lt fun x hx => by have := hlt x hx; omega, by omega, fun H3 ob3 b3 => ?_⟩
          have b3' : But H2 H3 fun b => b = d ∨ b = o := fun c u e1 e2 => b3 c u e1 fun z => e2 (Or.inl z)
          have er3 : H3 r = some (.lst xs) := b3 r _ er I.ne.2
          refine ⟨_, rfl, .inl ⟨rfl, _, SqL.of er3⟩, _, rfl, _, _, rfl, rfl, len_line (by show 2 ≤ 100000; decide), fun t2 f2 => ?_⟩
          obtain ⟨p1, p2⟩ := I.push (xs := xs) ob3 b3' f2
          have xl : xs.length = rs.length := by
            obtain ⟨U', xs', _, _, _, _, er', dp'⟩ := I.ex
            rw [er] at er'; cases er'
            rw [dpall_len dp', List.length_map]
          refine ⟨r, xs, _, rfl, rfl, p1.trans er, lt_line (by omega), ?_⟩
          refine ⟨_, _, rfl, p2 xs er, ⟨fun x hx => ?_, by rw [List.length_append]; show rs.length + 1 ≤ _; omega, fun x hx => ?_, fun x hx => ?_, R.big, by obtain ⟨x, hx, e⟩ := R.one; exact ⟨x, List.mem_append_left _ hx, e⟩⟩, fun x hx => ?_⟩
          · rcases List.mem_append.mp hx with h | h
            · exact R.ok x h
            · rw [List.mem_singleton.mp h]; show PyData.strOk "region" = true; decide +kernel
          · rcases List.mem_append.mp hx with h | h
            · exact R.lo x h
            · rw [List.mem_singleton.mp h]; show (1 : Int) ≤ 1000 + (0 + (i : Int)); omega
          · rcases List.mem_append.mp hx with h | h
            · exact R.hi x h
            · rw [List.mem_singleton.mp h]; show 1000 + (0 + (i : Int)) < 4278190080; omega
          · rcases List.mem_append.mp hx with h | h
            · have := hlt x h; omega
            · rw [List.mem_singleton.mp h]; show 1000 + (0 + (i : Int)) < 1000 + ((i + 1 : Nat) : Int); omega
        · rintro σ H2 ⟨rs, v4, rfl, I, R, hlt⟩
          exact ⟨rs, v4, rfl, I, ⟨R.ok, by have := R.len; omega, R.lo, R.hi, R.big, R.one⟩⟩
      · exact ⟨_, _, rfl, I0, ⟨R0.ok, by decide, R0.lo, R0.hi, R0.big, R0.one⟩⟩
    rintro σ' H2 ⟨rs, v4, rfl, I, R⟩
    refine ⟨_, rfl, a, _, rfl, .inl (I.hh.seq hS), _, _, rfl, _, _, rfl, rfl, _, rfl, ?_, ?_, ?_⟩
    · split <;> omega
    · rw [List.length_map]; split <;> omega
    refine for_range (lo := 0) (fun i σ H' => ∃ (rs : List ORow) (r : Addr) (nm : Int) (v4 v5 v6 v7 v8 v9 v10 v11 : Option V), σ = [some (.ref a), some (.ref o), some (.ref r), some (.int nm), v4, v5, v6, v7, v8, v9, v10, v11] ∧ LInv K A.CObjects H H' o d r rs nm ∧ RInv rs nm 512)
      ⟨rs, r, _, _, _, _, _, _, _, _, _, rfl, I, ⟨R.ok, by have := R.len; omega, R.lo, R.hi, R.big, R.one⟩⟩ ?_ ?_
    · clear I R I0 R0
      rintro i σ H3 hi ⟨rs, r, nm, v4, v5, v6, v7, v8, v9, v10, v11, rfl, I, R⟩
      refine ⟨_, rfl, _, rfl, a, ns, i, ?_, I.hh.seq hS, ?_⟩
      · show [V.ref a, V.int (0 + (i : Int))] = [V.ref a, V.int (i : Int)]
        rw [Int.zero_add]
      have hr0 := lawRow_nn ns i
      generalize hki : (0 + (i : Int)) = ki
      generalize lawRow ns i = row0 at hr0 ⊢
      refine ⟨_, _, rfl, rfl, ⟨by decide, by decide⟩, Or.inl ⟨_, rfl, ?_⟩⟩
      have hr1 : 0 ≤ row0 / 8 := by omega
      dsimp only
      generalize row0 / 8 = row at hr1 ⊢
      refine ⟨len_line (by show 8 ≤ 100000; decide), fun p1 f1 => ?_⟩
      have t1 := same_upd (o := .tup [V.int 2, V.int 3, V.int 4, V.int 5, V.int 4278190079, V.int 4278190080, V.int 1, V.int 0]) f1
      walk_at "rd"
      obtain ⟨n0, hat⟩ : ∃ n0 : Int, atI [V.int 2, V.int 3, V.int 4, V.int 5, V.int 4278190079, V.int 4278190080, V.int 1, V.int 0] (row % 8) = some (.int n0) := by
        have hj : (row % 8).toNat < [(2 : Int), 3, 4, 5, 4278190079, 4278190080, 1, 0].length := by show _ < 8; omega
        refine ⟨[(2 : Int), 3, 4, 5, 4278190079, 4278190080, 1, 0][(row % 8).toNat], at_of (j := (row % 8).toNat) (by omega) ?_⟩
        show ([(2 : Int), 3, 4, 5, 4278190079, 4278190080, 1, 0].map V.int)[(row % 8).toNat]? = _
        rw [List.getElem?_map, List.getElem?_eq_getElem hj]; rfl
      refine ⟨p1, _, _, _, rfl, rfl, SqT.of upd_same, hat, ?_⟩
      have I1 := I.grow t1
      generalize upd H3 p1 (.tup [V.int 2, V.int 3, V.int 4, V.int 5, V.int 4278190079, V.int 4278190080, V.int 1, V.int 0]) = H4 at I1
      clear I hat t1 f1
      -- number
      refine ⟨fun σ' H' => ∃ n : Int, σ' = [some (.ref a), some (.ref o), some (.ref r), some (.int nm), some (.int ki), some (.int row), some (.int n), v7, v8, v9, v10, v11] ∧ H' = H4, ?_, ?_⟩
      · walk_at "rd"
        refine iteEq (fun c => ?_) (fun c => ?_)
        · obtain ⟨U, xs, su, _, _, _, er, dp⟩ := I1.ex
          have xl : xs.length = rs.length := by rw [dpall_len dp, List.length_map]
          have hp := R.pos
          refine ⟨_, rfl, _, rfl, _, _, rfl, rfl, ⟨by decide, by decide⟩, _, rfl, r, _, rfl, .inl (SqL.of er), _, _, rfl, rfl, by show (0 : Int) < (xs.length : Int); omega, ?_⟩
          have hb : 0 ≤ row / 24 % (xs.length : Int) ∧ row / 24 % (xs.length : Int) < xs.length := ⟨Int.emod_nonneg _ (by omega), Int.emod_lt_of_pos _ (by omega)⟩
          have hj : (row / 24 % (xs.length : Int)).toNat < xs.length := by omega
          obtain ⟨dd, hd, dv⟩ := dpall_get dp (List.getElem?_eq_getElem hj)
          rw [List.getElem?_map] at hd
          obtain ⟨rw_, hb2, rfl⟩ := Option.map_eq_some_iff.mp hd
          obtain ⟨ra, e, hq⟩ := dp_row dv
          refine ⟨r, xs, _, .ref ra, rfl, rfl, SqL.of er, at_of (j := (row / 24 % (xs.length : Int)).toNat) (by omega) (by rw [List.getElem?_eq_getElem hj, e]), ra, _, 0, .int rw_.1, rfl, rfl, su.sqt hq, atI_nat (j := 0) rfl, ?_⟩
          exact ⟨_, rfl, rfl⟩
        · exact ⟨_, rfl, rfl⟩
      rintro σ' H' ⟨n, rfl, rfl⟩
      -- name, deed, here
      refine ⟨len_line (by show 3 ≤ 100000; decide), fun p2 f2 => ?_⟩
      have t2 := same_upd (o := .tup [V.str "surface", V.str "buffer", V.str "window"]) f2
      walk_at "rd"
      obtain ⟨z, hz, hat⟩ : ∃ z : Str, PyData.strOk z = true ∧ atI [V.str "surface", V.str "buffer", V.str "window"] (row / 24 % 3) = some (.str z) := by
        rcases (by omega : row / 24 % 3 = 0 ∨ row / 24 % 3 = 1 ∨ row / 24 % 3 = 2) with h | h | h
        · exact ⟨"surface", by decide +kernel, by rw [h]; exact atI_nat (j := 0) rfl⟩
        · exact ⟨"buffer", by decide +kernel, by rw [h]; exact atI_nat (j := 1) rfl⟩
        · exact ⟨"window", by decide +kernel, by rw [h]; exact atI_nat (j := 2) rfl⟩
      refine ⟨p2, _, _, _, rfl, rfl, SqT.of upd_same, hat, ?_⟩
      have I2 := I1.grow t2
      generalize upd H' p2 (.tup [V.str "surface", V.str "buffer", V.str "window"]) = H5 at I2
      clear I1 hat t2 f2
      walk_at "rd"
      obtain ⟨U, xs, su, uo, ud, ur, er, dp⟩ := I2.ex
      have xl : xs.length = rs.length := by rw [dpall_len dp, List.length_map]
      have Rl := R.len
      have row_at : ∀ {i : Nat} {x : V}, xs[i]? = some x → ∃ rw_ a, rs[i]? = some rw_ ∧ x = .ref a ∧ SqT K U a [.int rw_.1, .str rw_.2] := by
        intro i x hx
        obtain ⟨dd, hd, dv⟩ := dpall_get dp hx
        rw [List.getElem?_map] at hd
        obtain ⟨rw_, hb, rfl⟩ := Option.map_eq_some_iff.mp hd
        obtain ⟨a, e, q⟩ := dp_row dv
        exact ⟨rw_, a, hb, e, q⟩
      refine ⟨⟨_, SqL.of er⟩, fun D hDn => ?_⟩
      refine lc_dp (walk_list (K := K) (a := r) (xs := xs)) (K := K) (V0 := H5) (H0 := H5) (fun i => (rs[i]?).map fun x => PyData.int x.1) [some (.ref a), some (.ref o), some (.ref r), some (.int nm), some (.int ki), some (.int row), some (.int n), some (.str z), some (.int (row / 72 % 3)), v9, none, v11] rfl (Same.refl _) hDn (by omega) (fun H' s => s.seq (SqL.of er)) (fun i x H H' y => y.1) ?_ ?_
      · rintro i x U2 H2 hi xx ⟨_, hx⟩ Qy Qn hy _
        obtain ⟨rw_, ra, hrw, rfl, hq⟩ := row_at hx
        refine ⟨rfl, _, rfl, ra, _, 0, _, rfl, rfl, (su.trans xx.hh).sqt hq, atI_nat (j := 0) rfl, ?_⟩
        exact hy _ _ _ _ (by rw [hrw]; rfl) (Ext.refl xx.vh) (.int _)
      rintro U2 H6 ys xx hDU dl _
      rw [xl, show fm (fun i => (rs[i]?).map fun x => PyData.int x.1) rs.length = (rs.map fun x => x.1).map PyData.int from by
        rw [List.map_map]; exact fm_list _ _ _ rfl _ fun i x hx => by rw [hx]; rfl] at dl
      have e := dp_intsV dl
      subst e
      have hDH := xx.vh _ _ hDU
      have I3 := I2.grow xx.hh
      have su3 := su.trans xx.hh
      have er3 := xx.hh _ _ er
      have hD0 : H D = none := I2.hh.free hDn
      clear I2 dl
      -- the deed
      refine ⟨fun σ' H' => ∃ (rs : List ORow) (r : Addr) (nm : Int) (v4 v5 v7 v8 v9 v10 v11 : Option V), σ' = [some (.ref a), some (.ref o), some (.ref r), some (.int nm), v4, v5, some (.int n), v7, v8, v9, v10, v11] ∧ LInv K A.CObjects H H' o d r rs nm ∧ RInv rs nm 512, ?_, ?_⟩
      · obtain ⟨dx3, e3⟩ := I3.ob.ob
        have rest2 : ∀ {v9 v10 : Option V}, ∃ (rs' : List ORow) (r' : Addr) (nm' : Int) (v4 v5 v7 v8 w9 w10 v11' : Option V), ([some (.ref a), some (.ref o), some (.ref r), some (.int nm), some (.int ki), some (.int row), some (.int n), some (.str z), some (.int (row / 72 % 3)), v9, v10, v11] : St) = [some (.ref a), some (.ref o), some (.ref r'), some (.int nm'), v4, v5, some (.int n), v7, v8, w9, w10, v11'] ∧ LInv K A.CObjects H H6 o d r' rs' nm' ∧ RInv rs' nm' 512 :=
          ⟨rs, r, nm, _, _, _, _, _, _, _, rfl, I3, R⟩
        have grow : ∀ (m : Int), m < nm + 1 → 1 ≤ m → rs.length < 512 → ∀ nm', nm' = nm ∨ nm' = nm + 1 → (m = nm → nm' = nm + 1) → RInv (rs ++ [(m, z)]) nm' 512 := by
          intro m h1 h2 h3 nm' h4 h5
          refine ⟨fun x hx => ?_, by rw [List.length_append]; show rs.length + 1 ≤ 512; omega, fun x hx => ?_, fun x hx => ?_, by have := R.big; omega, by obtain ⟨x, hx, e⟩ := R.one; exact ⟨x, List.mem_append_left _ hx, e⟩⟩
          · rcases List.mem_append.mp hx with h | h
            · exact R.ok x h
            · rw [List.mem_singleton.mp h]; exact hz
          · rcases List.mem_append.mp hx with h | h
            · exact R.lo x h
            · rw [List.mem_singleton.mp h]; exact h2
          · rcases List.mem_append.mp hx with h | h
            · have := R.hi x h; omega
            · rw [List.mem_singleton.mp h]
              show m < nm'
              by_cases c : m = nm
              · have := h5 c; omega
              · omega
        refine ⟨_, rfl, rfl, _, rfl, iteEq (fun c0 => ?_) (fun c0 => ?_)⟩
        · refine ⟨_, rfl, o, dx3, _, rfl, e3, oF_no _ _ (by decide +kernel) (by decide +kernel), _, rfl, o, d, rs, nm, n, rfl, I3.ob, _, rfl, if_b (fun c1 => ?_) (fun c1 => ?_)⟩
          · refine ⟨_, rfl, r, _, rfl, .inl (SqL.of er3), _, _, rfl, rfl, _, rfl, iteP (fun c2 => ?_) (fun c2 => ?_)⟩
            · unfold mayGive at c1
              have c3 := Bool.and_eq_true_iff.mp c1
              have c4 := of_decide_eq_true c3.1
              have hf : find rs n = none := by
                cases e : find rs n with
                | none => rfl
                | some y => rw [e] at c3; cases c3.2
              have hb := R.big
              refine ⟨_, rfl, o, dx3, _, rfl, e3, oF_no _ _ (by decide +kernel) (by decide +kernel), _, rfl, _, rfl, o, d, rs, _, n, z, rfl, I3.ob, hf, by omega, fun H7 ob7 b7 => ?_⟩
              have b7' : But H6 H7 fun b => b = d ∨ b = o := fun c u e1 e2 => b7 c u e1 fun z => e2 (Or.inl z)
              have er7 : H7 r = some (.lst xs) := b7 r _ er3 I3.ne.2
              refine ⟨_, rfl, .inl ⟨rfl, _, SqL.of er7⟩, _, rfl, _, rfl, len_line (by show 2 ≤ 100000; decide), fun t2 f2 => ?_⟩
              obtain ⟨p1, p2⟩ := I3.push (xs := xs) ob7 b7' f2
              refine ⟨r, xs, _, rfl, rfl, p1.trans er3, lt_line (by omega), ?_⟩
              exact ⟨_, r, nm, _, _, _, _, _, _, _, rfl, p2 xs er3, grow n (by omega) (by omega) (by omega) nm (Or.inl rfl) (fun e => by omega)⟩
            · refine ⟨_, rfl, rfl, _, rfl, iteEq (fun c3 => absurd (c0.symm.trans c3) (by decide)) (fun _ => if_f rfl ?_)⟩
              refine ⟨_, rfl, rfl, _, rfl, iteEq (fun c3 => absurd (c0.symm.trans c3) (by decide)) (fun _ => if_f rfl ?_)⟩
              exact rest2
          · refine if_f rfl ⟨_, rfl, rfl, _, rfl, iteEq (fun c3 => absurd (c0.symm.trans c3) (by decide)) (fun _ => if_f rfl ?_)⟩
            refine ⟨_, rfl, rfl, _, rfl, iteEq (fun c3 => absurd (c0.symm.trans c3) (by decide)) (fun _ => if_f rfl ?_)⟩
            exact rest2
        · refine if_f rfl ⟨_, rfl, rfl, _, rfl, iteEq (fun c1 => ?_) (fun c1 => if_f rfl ?_)⟩
          · refine ⟨_, rfl, r, _, rfl, .inl (SqL.of er3), _, _, rfl, rfl, _, rfl, iteP (fun c2 => ?_) (fun c2 => ?_)⟩
            · refine ⟨_, rfl, o, dx3, _, rfl, e3, oF_no _ _ (by decide +kernel) (by decide +kernel), _, rfl, o, d, rs, nm, z, rfl, I3.ob, find_lt R.hi, by omega, fun H7 ob7 b7 => ?_⟩
              refine ⟨_, rfl, rfl, _, rfl, if_f (by rw [decide_eq_true rfl]; rfl) ?_⟩
              have er7 : H7 r = some (.lst xs) := b7 r _ er3 (fun q => q.elim I3.ne.2 I3.ne.1)
              refine ⟨_, rfl, .inl ⟨rfl, _, SqL.of er7⟩, _, rfl, _, rfl, len_line (by show 2 ≤ 100000; decide), fun t2 f2 => ?_⟩
              obtain ⟨p1, p2⟩ := I3.push (xs := xs) ob7 b7 f2
              refine ⟨r, xs, _, rfl, rfl, p1.trans er3, lt_line (by omega), ?_⟩
              refine ⟨_, rfl, _, _, rfl, rfl, ?_⟩
              have hb := R.big
              exact ⟨_, r, nm + 1, _, _, _, _, _, _, _, rfl, p2 xs er3, grow nm (by omega) (by omega) (by omega) (nm + 1) (Or.inr rfl) (fun _ => rfl)⟩
            · refine ⟨_, rfl, rfl, _, rfl, iteEq (fun c3 => absurd (c1.symm.trans c3) (by decide)) (fun _ => if_f rfl ?_)⟩
              exact rest2
          · refine ⟨_, rfl, rfl, _, rfl, iteEq (fun c2 => ?_) (fun c2 => if_f rfl ?_)⟩
            · refine ⟨_, rfl, rfl, _, rfl, iteNe (fun c3 => ?_) (fun c3 => ?_)⟩
              · -- number in here and ..
                refine ⟨fun σ' H' => σ' = [some (.ref a), some (.ref o), some (.ref r), some (.int nm), some (.int ki), some (.int row), some (.int n), some (.str z), some (.int (row / 72 % 3)), some (.ref D), v10, v11] ∧ ObjAt A.CObjects H' o d (rs.filter fun r => decide (r.1 ≠ n)) nm ∧ But H6 H' (fun b => b = d), ?_, ?_⟩
                · refine ⟨_, rfl, _, rfl, D, _, rfl, .inl (SqL.of hDH), rfl, ?_, _, rfl, ?_⟩
                  · rw [List.all_eq_true]; intro x hx; obtain ⟨y, _, rfl⟩ := List.mem_map.mp hx; rfl
                  rw [if_neg Bool.false_ne_true, inV_rows]
                  cases hf : find rs n with
                  | none =>
                    refine if_f rfl (if_f rfl ⟨rfl, ?_, fun _ _ e _ => e⟩)
                    rw [filter_none hf]; exact I3.ob
                  | some y =>
                    refine if_t rfl ?_
                    refine ⟨_, rfl, o, dx3, _, rfl, e3, oF_no _ _ (by decide +kernel) (by decide +kernel), _, rfl, o, d, rs, nm, n, rfl, I3.ob, by rw [hf]; rfl, fun H7 ob7 b7 => ?_⟩
                    obtain ⟨rw_, hm, hn1, _⟩ := find_mem hf
                    have hlo := R.lo rw_ hm
                    have h2 : (2 : Int) ≤ n := by omega
                    refine ⟨_, rfl, _, _, rfl, rfl, _, rfl, if_t (decide_eq_true h2) ?_⟩
                    refine ⟨_, _, rfl, rfl, rfl, _, rfl, if_f ?_ ⟨rfl, ob7, b7⟩⟩
                    have e5 : V.bl (decide (n ≤ 4278190079)) = V.bl (decide (n < 4278190080)) := congrArg V.bl (decide_eq_decide.mpr (by omega))
                    exact congrArg (!·) (decide_eq_true e5)
                rintro σ' H7 ⟨rfl, ob7, b7⟩
                have er7 : H7 r = some (.lst xs) := b7 r _ er3 I3.ne.2
                have su7 : Same U H7 := fun c u e => b7 c u (su3 c u e) fun q => by subst q; rw [ud] at e; cases e
                refine ⟨_, rfl, r, rfl, ⟨_, SqL.of er7⟩, fun D2 hD2 => ?_⟩
                refine lc_dp0 (walk_list (K := K) (a := r) (xs := xs)) (K := K) (V0 := U) (H0 := H7) (fun i => (rs[i]?).bind fun x => if x.1 ≠ n then some (rowD x) else none) [some (.ref a), some (.ref o), some (.ref r), some (.int nm), some (.int ki), some (.int row), some (.int n), some (.str z), some (.int (row / 72 % 3)), some (.ref D), none, v11] rfl su7 hD2 (by omega) (fun H' s => s.seq (SqL.of er7)) (fun i x H H' y => y.1) ?_ ?_
                · rintro i x U2 H2 hi xx ⟨_, hx⟩ Qy Qn hy hno
                  obtain ⟨dd, hd, dv⟩ := dpall_get dp hx
                  rw [List.getElem?_map] at hd
                  obtain ⟨rw_, hrw, rfl⟩ := Option.map_eq_some_iff.mp hd
                  obtain ⟨ra, rfl, hq⟩ := dp_row dv
                  refine ⟨rfl, _, rfl, ra, _, 0, _, rfl, rfl, (su7.trans xx.hh).sqt hq, atI_nat (j := 0) rfl, _, rfl, rfl, _, rfl, iteNe (fun c => ?_) (fun c => ?_)⟩
                  · exact ⟨_, rfl, hy _ _ _ _ (by rw [hrw]; exact if_pos c) (Ext.refl xx.vh) (dv.to xx.vv)⟩
                  · exact hno (by rw [hrw]; exact if_neg fun h => h c) _ _ (Ext.refl xx.vh)
                rintro U2 H8 ys xx hUD hHD dl
                rw [fm_filterMap (fun x : ORow => if x.1 ≠ n then some (rowD x) else none) rs _ xl _ fun i x hx => by rw [hx]; rfl,
                  show (rs.filterMap fun x => if x.1 ≠ n then some (rowD x) else none) = (rs.filter fun r => decide (r.1 ≠ n)).map rowD from by
                    rw [← List.filterMap_eq_map, List.filterMap_filter]
                    congr 1
                    funext x
                    by_cases c : x.1 = n
                    · rw [if_neg (fun h => h c), decide_eq_false (fun h => h c)]; rfl
                    · rw [if_pos c, decide_eq_true c]; rfl] at dl
                have hD20 : H D2 = none := I3.hh.free (by
                  cases e : H6 D2 with
                  | none => rfl
                  | some u =>
                    have hdd : D2 ≠ d := fun q => by subst q; rw [ob7.dk] at hD2; cases hD2
                    have := b7 D2 u e hdd
                    rw [hD2] at this; cases this)
                obtain ⟨dx7, e7⟩ := ob7.ob
                have uo2 : U2 o = none := xx.keepOut uo (by rw [e7]; exact fun z => by cases z)
                have ud2 : U2 d = none := xx.keepOut ud (by rw [ob7.dk]; exact fun z => by cases z)
                have b8 : But H6 H8 fun b => b = d := fun c u e1 e2 => xx.hh c u (b7 c u e1 e2)
                refine ⟨_, D2, nm, _, _, _, _, _, _, _, rfl, I3.swap (ob7.same xx.hh) b8 xx.vh uo2 ud2 hUD hHD dl hD20, ?_⟩
                refine ⟨fun x hx => R.ok x ((List.mem_filter.mp hx).1), Nat.le_trans (List.length_filter_le _ _) Rl, fun x hx => R.lo x ((List.mem_filter.mp hx).1), fun x hx => R.hi x ((List.mem_filter.mp hx).1), R.big, ?_⟩
                obtain ⟨x, hx, e⟩ := R.one
                exact ⟨x, List.mem_filter.mpr ⟨hx, decide_eq_true fun z => c3 (z.symm.trans e)⟩, e⟩
              · exact rest2
            · exact rest2
      -- the look
      clear row_at su uo ud ur er dp xl Rl R I3 su3 er3 hDH hD0 hDU xx
      rintro σ' H7 ⟨rs, r, nm, v4, v5, v7, v8, v9, v10, v11, rfl, I, R⟩
      obtain ⟨U, xs, su, uo, ud, ur, er, dp⟩ := I.ex
      refine ⟨_, rfl, _, rfl, _, rfl, _, rfl, _, rfl, _, _, rfl, rfl, len_line (by show 7 ≤ 100000; decide), fun p3 f3 => ?_⟩
      have t3 := same_upd (o := .lst ([n, 2, 5, nm, nm - 1, 4278190079, 1].map V.int)) f3
      refine ⟨o, d, r, p3, rs, nm, [n, 2, 5, nm, nm - 1, 4278190079, 1], xs, rfl, I.ob.same t3, R.ok, by have := R.len; omega, t3.seq (SqL.of er), (dp.to su).to t3, SqL.of upd_same, fun H8 s8 => ?_⟩
      refine ⟨_, rfl, if_f rfl ?_⟩
      exact ⟨rs, r, nm, _, _, _, _, _, _, _, _, rfl, I.grow (t3.trans s8), R⟩
    · rintro σ H3 ⟨rs, r, nm, v4, v5, v6, v7, v8, v9, v10, v11, rfl, I, R⟩
      obtain ⟨U, xs, su, uo, ud, ur, er, dp⟩ := I.ex
      obtain ⟨dx3, e3⟩ := I.ob.ob
      refine ⟨_, rfl, o, dx3, _, rfl, e3, oF_no _ _ (by decide +kernel) (by decide +kernel), o, d, rs, nm, rfl, I.ob, fun p H4 n4 => ?_⟩
      refine ⟨_, rfl, .inl ⟨rfl, _, SqL.of n4.at_⟩, p, _, _, rfl, rfl, n4.at_, by rw [List.length_map, List.length_map]; have := R.len; exact lt_line (by omega), ?_⟩
      have s5 : Same H3 (upd H4 p (.lst ((rs.map fun r => r.1).map V.int ++ [.int 7]))) := fun c u q => by
        rw [upd_ne (ne_of_none q n4.new)]; exact n4.same c u q
      generalize upd H4 p (.lst ((rs.map fun r => r.1).map V.int ++ [.int 7])) = H5 at s5 ⊢
      refine ⟨_, rfl, o, dx3, _, rfl, s5 _ _ e3, oF_no _ _ (by decide +kernel) (by decide +kernel), o, d, rs, nm, rfl, I.ob.same s5, fun p6 H6 n6 => ?_⟩
      refine ⟨_, rfl, r, rfl, ⟨_, SqL.of (n6.same _ _ (s5 _ _ er))⟩, fun D hDn => ?_⟩
      have xl : xs.length = rs.length := by rw [dpall_len dp, List.length_map]
      refine lc_dp (walk_list (K := K) (a := r) (xs := xs)) (K := K) (V0 := H6) (H0 := H6) (fun i => (rs[i]?).map fun x => PyData.int x.1) [some (.ref a), some (.ref o), some (.ref r), some (.int nm), v4, none, v6, v7, v8, v9, v10, some (.ref p)] rfl (Same.refl _) hDn (by have := R.len; omega) (fun H' s => s.seq (SqL.of (n6.same _ _ (s5 _ _ er)))) (fun i x H H' y => y.1) ?_ ?_
      · rintro i x U2 H2 hi xx ⟨_, hx⟩ Qy Qn hy _
        obtain ⟨dd, hd, dv⟩ := dpall_get dp hx
        rw [List.getElem?_map] at hd
        obtain ⟨rw_, hrw, rfl⟩ := Option.map_eq_some_iff.mp hd
        obtain ⟨ra, rfl, hq⟩ := dp_row dv
        refine ⟨rfl, _, rfl, ra, _, 0, _, rfl, rfl, (((su.trans s5).trans n6.same).trans xx.hh).sqt hq, atI_nat (j := 0) rfl, ?_⟩
        exact hy _ _ _ _ (by rw [hrw]; rfl) (Ext.refl xx.vh) (.int _)
      rintro U2 H7 ys xx hDU dl _
      rw [xl, show fm (fun i => (rs[i]?).map fun x => PyData.int x.1) rs.length = (rs.map fun x => x.1).map PyData.int from by
        rw [List.map_map]; exact fm_list _ _ _ rfl _ fun i x hx => by rw [hx]; rfl] at dl
      have e := dp_intsV dl
      subst e
      refine ⟨_, _, dp_ints (SqL.of (xx.hh _ _ n6.at_)), dp_ints (SqL.of (xx.vh _ _ hDU)), (sh_ints _).shaped, (sh_ints _).shaped, ?_⟩
      rw [(sh_ints _).self]
      exact q _
end
theorem all_mk {K : PySem.W.Frag} {h : Heap} {mg : Str → Option Value} {fa : Addr} (X : K.In h) (G : h.Ns mainGlobals mg) (hfa : mg "law" = some (.ref fa))
    {f_law_cell : Addr} {od1 an1 : Option Addr} {sl1 : Array (Option Value)} {oc1 kV1 dc1 pm1 cd1 ct1 : Value}
    {f_law_row : Addr} {od2 an2 : Option Addr} {sl2 : Array (Option Value)} {oc2 kV2 dc2 pm2 cd2 ct2 : Value}
    {f_law_agrees : Addr} {od3 an3 : Option Addr} {sl3 : Array (Option Value)} {oc3 kV3 dc3 pm3 cd3 ct3 : Value}
    {flaw : Addr} {od4 an4 : Option Addr} {sl4 : Array (Option Value)} {oc4 kV4 dc4 pm4 cd4 ct4 : Value}
    {fObjects___init__ : Addr} {od5 an5 : Option Addr} {sl5 : Array (Option Value)} {oc5 kV5 dc5 pm5 cd5 ct5 : Value}
    {fObjects_interface_of : Addr} {od6 an6 : Option Addr} {sl6 : Array (Option Value)} {oc6 kV6 dc6 pm6 cd6 ct6 : Value}
    {fObjects_numbers : Addr} {od7 an7 : Option Addr} {sl7 : Array (Option Value)} {oc7 kV7 dc7 pm7 cd7 ct7 : Value}
    {fObjects_may_give : Addr} {od8 an8 : Option Addr} {sl8 : Array (Option Value)} {oc8 kV8 dc8 pm8 cd8 ct8 : Value}
    {fObjects_is_full : Addr} {od9 an9 : Option Addr} {sl9 : Array (Option Value)} {oc9 kV9 dc9 pm9 cd9 ct9 : Value}
    {fObjects_give : Addr} {od10 an10 : Option Addr} {sl10 : Array (Option Value)} {oc10 kV10 dc10 pm10 cd10 ct10 : Value}
    {fObjects_make : Addr} {od11 an11 : Option Addr} {sl11 : Array (Option Value)} {oc11 kV11 dc11 pm11 cd11 ct11 : Value}
    {fObjects_end : Addr} {od12 an12 : Option Addr} {sl12 : Array (Option Value)} {oc12 kV12 dc12 pm12 cd12 ct12 : Value}
    {tDISPLAY : Tok}
    {tLEAST_GIVEN : Tok}
    {tGREATEST_GIVEN : Tok}
    {tMOST_OBJECTS : Tok}
    {CObjects : Addr}
    (a1 : PySem.W.nsIn K mainGlobals "_law_cell" = some (some (.ref f_law_cell)))
    (l1 : K.lookup f_law_cell = some ⟨oc1, od1, .func (PySem.W.fnOf "_law_cell" "_law_cell" (defArgs s__law_cell) (defBody s__law_cell) (defScope s__law_cell) .none kV1 dc1 pm1 an1 cd1 ct1), sl1⟩) (c1 : PySem.W.codeIn K cd1 "_law_cell" = true) (k1 : PySem.W.keepIn K (.ref f_law_cell) = true)
    (a2 : PySem.W.nsIn K mainGlobals "_law_row" = some (some (.ref f_law_row)))
    (l2 : K.lookup f_law_row = some ⟨oc2, od2, .func (PySem.W.fnOf "_law_row" "_law_row" (defArgs s__law_row) (defBody s__law_row) (defScope s__law_row) .none kV2 dc2 pm2 an2 cd2 ct2), sl2⟩) (c2 : PySem.W.codeIn K cd2 "_law_row" = true) (k2 : PySem.W.keepIn K (.ref f_law_row) = true)
    (a3 : PySem.W.nsIn K mainGlobals "_law_agrees" = some (some (.ref f_law_agrees)))
    (l3 : K.lookup f_law_agrees = some ⟨oc3, od3, .func (PySem.W.fnOf "_law_agrees" "_law_agrees" (defArgs s__law_agrees) (defBody s__law_agrees) (defScope s__law_agrees) .none kV3 dc3 pm3 an3 cd3 ct3), sl3⟩) (c3 : PySem.W.codeIn K cd3 "_law_agrees" = true) (k3 : PySem.W.keepIn K (.ref f_law_agrees) = true)
    (a4 : PySem.W.nsIn K mainGlobals "law" = some (some (.ref flaw)))
    (l4 : K.lookup flaw = some ⟨oc4, od4, .func (PySem.W.fnOf "law" "law" (defArgs s_law) (defBody s_law) (defScope s_law) .none kV4 dc4 pm4 an4 cd4 ct4), sl4⟩) (c4 : PySem.W.codeIn K cd4 "law" = true) (k4 : PySem.W.keepIn K (.ref flaw) = true)
    (a5 : PySem.W.findIn K (.ref CObjects) "__init__" = some (some (.ref fObjects___init__)))
    (i5 : PySem.W.isFn K (.ref fObjects___init__) = true)
    (l5 : K.lookup fObjects___init__ = some ⟨oc5, od5, .func (PySem.W.fnOf "__init__" "Objects.__init__" (defArgs s_Objects___init__) (defBody s_Objects___init__) (defScope s_Objects___init__) .none kV5 dc5 pm5 an5 cd5 ct5), sl5⟩) (c5 : PySem.W.codeIn K cd5 "Objects.__init__" = true) (k5 : PySem.W.keepIn K (.ref fObjects___init__) = true)
    (a6 : PySem.W.findIn K (.ref CObjects) "interface_of" = some (some (.ref fObjects_interface_of)))
    (i6 : PySem.W.isFn K (.ref fObjects_interface_of) = true)
    (l6 : K.lookup fObjects_interface_of = some ⟨oc6, od6, .func (PySem.W.fnOf "interface_of" "Objects.interface_of" (defArgs s_Objects_interface_of) (defBody s_Objects_interface_of) (defScope s_Objects_interface_of) .none kV6 dc6 pm6 an6 cd6 ct6), sl6⟩) (c6 : PySem.W.codeIn K cd6 "Objects.interface_of" = true) (k6 : PySem.W.keepIn K (.ref fObjects_interface_of) = true)
    (a7 : PySem.W.findIn K (.ref CObjects) "numbers" = some (some (.ref fObjects_numbers)))
    (i7 : PySem.W.isFn K (.ref fObjects_numbers) = true)
    (l7 : K.lookup fObjects_numbers = some ⟨oc7, od7, .func (PySem.W.fnOf "numbers" "Objects.numbers" (defArgs s_Objects_numbers) (defBody s_Objects_numbers) (defScope s_Objects_numbers) .none kV7 dc7 pm7 an7 cd7 ct7), sl7⟩) (c7 : PySem.W.codeIn K cd7 "Objects.numbers" = true) (k7 : PySem.W.keepIn K (.ref fObjects_numbers) = true)
    (a8 : PySem.W.findIn K (.ref CObjects) "may_give" = some (some (.ref fObjects_may_give)))
    (i8 : PySem.W.isFn K (.ref fObjects_may_give) = true)
    (l8 : K.lookup fObjects_may_give = some ⟨oc8, od8, .func (PySem.W.fnOf "may_give" "Objects.may_give" (defArgs s_Objects_may_give) (defBody s_Objects_may_give) (defScope s_Objects_may_give) .none kV8 dc8 pm8 an8 cd8 ct8), sl8⟩) (c8 : PySem.W.codeIn K cd8 "Objects.may_give" = true) (k8 : PySem.W.keepIn K (.ref fObjects_may_give) = true)
    (a9 : PySem.W.findIn K (.ref CObjects) "is_full" = some (some (.ref fObjects_is_full)))
    (i9 : PySem.W.isFn K (.ref fObjects_is_full) = true)
    (l9 : K.lookup fObjects_is_full = some ⟨oc9, od9, .func (PySem.W.fnOf "is_full" "Objects.is_full" (defArgs s_Objects_is_full) (defBody s_Objects_is_full) (defScope s_Objects_is_full) .none kV9 dc9 pm9 an9 cd9 ct9), sl9⟩) (c9 : PySem.W.codeIn K cd9 "Objects.is_full" = true) (k9 : PySem.W.keepIn K (.ref fObjects_is_full) = true)
    (a10 : PySem.W.findIn K (.ref CObjects) "give" = some (some (.ref fObjects_give)))
    (i10 : PySem.W.isFn K (.ref fObjects_give) = true)
    (l10 : K.lookup fObjects_give = some ⟨oc10, od10, .func (PySem.W.fnOf "give" "Objects.give" (defArgs s_Objects_give) (defBody s_Objects_give) (defScope s_Objects_give) .none kV10 dc10 pm10 an10 cd10 ct10), sl10⟩) (c10 : PySem.W.codeIn K cd10 "Objects.give" = true) (k10 : PySem.W.keepIn K (.ref fObjects_give) = true)
    (a11 : PySem.W.findIn K (.ref CObjects) "make" = some (some (.ref fObjects_make)))
    (i11 : PySem.W.isFn K (.ref fObjects_make) = true)
    (l11 : K.lookup fObjects_make = some ⟨oc11, od11, .func (PySem.W.fnOf "make" "Objects.make" (defArgs s_Objects_make) (defBody s_Objects_make) (defScope s_Objects_make) .none kV11 dc11 pm11 an11 cd11 ct11), sl11⟩) (c11 : PySem.W.codeIn K cd11 "Objects.make" = true) (k11 : PySem.W.keepIn K (.ref fObjects_make) = true)
    (a12 : PySem.W.findIn K (.ref CObjects) "end" = some (some (.ref fObjects_end)))
    (i12 : PySem.W.isFn K (.ref fObjects_end) = true)
    (l12 : K.lookup fObjects_end = some ⟨oc12, od12, .func (PySem.W.fnOf "end" "Objects.end" (defArgs s_Objects_end) (defBody s_Objects_end) (defScope s_Objects_end) .none kV12 dc12 pm12 an12 cd12 ct12), sl12⟩) (c12 : PySem.W.codeIn K cd12 "Objects.end" = true) (k12 : PySem.W.keepIn K (.ref fObjects_end) = true)
    (z_int : PySem.W.nsIn K mainGlobals "int" = some none)
    (z_len : PySem.W.nsIn K mainGlobals "len" = some none)
    (z_list : PySem.W.nsIn K mainGlobals "list" = some none)
    (z_min : PySem.W.nsIn K mainGlobals "min" = some none)
    (z_range : PySem.W.nsIn K mainGlobals "range" = some none)
    (q_DISPLAY : PySem.W.nsIn K mainGlobals "DISPLAY" = some (some (.int (1) tDISPLAY)))
    (q_LEAST_GIVEN : PySem.W.nsIn K mainGlobals "LEAST_GIVEN" = some (some (.int (2) tLEAST_GIVEN)))
    (q_GREATEST_GIVEN : PySem.W.nsIn K mainGlobals "GREATEST_GIVEN" = some (some (.int (4278190079) tGREATEST_GIVEN)))
    (q_MOST_OBJECTS : PySem.W.nsIn K mainGlobals "MOST_OBJECTS" = some (some (.int (512) tMOST_OBJECTS)))
    (uObjects : PySem.W.nsIn K mainGlobals "Objects" = some (some (.ref CObjects)))
    (pgObjects : PySem.W.plainGet K CObjects Str.empty = true) (hdObjects : PySem.W.hasDictIn K CObjects = true) (poObjects : PySem.W.plainOver K CObjects = true) (saObjects : PySem.W.findIn K (.ref CObjects) "__setattr__" = some (some (.builtin "object.__setattr__"))) (mkObjects : PySem.W.makesIn K CObjects = true) (kcObjects : PySem.W.keepIn K (.ref CObjects) = true)
    (nObjects__interfaces : PySem.W.findIn K (.ref CObjects) "_interfaces" = some none)
    (nObjects__next_made : PySem.W.findIn K (.ref CObjects) "_next_made" = some none)
    : ∃ A : Adr, A.flaw = fa ∧ Txt K mg A ∧ (∀ (s : Shared) (v : Value), BindsTo s A.dlaw ⟨[v], []⟩ [("script", v)]) := by
  have e := hfa.symm.trans (PySem.W.mg_of X G a4)
  cases e
  have F1 := fun_mk (st := s__law_cell) l1 c1 k1
  have b1 := F1.binds (ps := ["script", "k"]) fun _ _ _ _ _ _ us hl => match us, hl with | [_, _], _ => rfl
  have F2 := fun_mk (st := s__law_row) l2 c2 k2
  have b2 := F2.binds (ps := ["script", "k"]) fun _ _ _ _ _ _ us hl => match us, hl with | [_, _], _ => rfl
  have F3 := fun_mk (st := s__law_agrees) l3 c3 k3
  have b3 := F3.binds (ps := ["objects", "rows", "asked"]) fun _ _ _ _ _ _ us hl => match us, hl with | [_, _, _], _ => rfl
  have F4 := fun_mk (st := s_law) l4 c4 k4
  have b4 := F4.binds (ps := ["script"]) fun _ _ _ _ _ _ us hl => match us, hl with | [_], _ => rfl
  have F5 := fun_mk (st := s_Objects___init__) l5 c5 k5
  have b5 := F5.binds (ps := ["self"]) fun _ _ _ _ _ _ us hl => match us, hl with | [_], _ => rfl
  have F6 := fun_mk (st := s_Objects_interface_of) l6 c6 k6
  have b6 := F6.binds (ps := ["self", "number"]) fun _ _ _ _ _ _ us hl => match us, hl with | [_, _], _ => rfl
  have F7 := fun_mk (st := s_Objects_numbers) l7 c7 k7
  have b7 := F7.binds (ps := ["self"]) fun _ _ _ _ _ _ us hl => match us, hl with | [_], _ => rfl
  have F8 := fun_mk (st := s_Objects_may_give) l8 c8 k8
  have b8 := F8.binds (ps := ["self", "number"]) fun _ _ _ _ _ _ us hl => match us, hl with | [_, _], _ => rfl
  have F9 := fun_mk (st := s_Objects_is_full) l9 c9 k9
  have b9 := F9.binds (ps := ["self"]) fun _ _ _ _ _ _ us hl => match us, hl with | [_], _ => rfl
  have F10 := fun_mk (st := s_Objects_give) l10 c10 k10
  have b10 := F10.binds (ps := ["self", "number", "interface"]) fun _ _ _ _ _ _ us hl => match us, hl with | [_, _, _], _ => rfl
  have F11 := fun_mk (st := s_Objects_make) l11 c11 k11
  have b11 := F11.binds (ps := ["self", "interface"]) fun _ _ _ _ _ _ us hl => match us, hl with | [_, _], _ => rfl
  have F12 := fun_mk (st := s_Objects_end) l12 c12 k12
  have b12 := F12.binds (ps := ["self", "number"]) fun _ _ _ _ _ _ us hl => match us, hl with | [_, _], _ => rfl
  refine ⟨{ f_law_cell := f_law_cell, d_law_cell := (PySem.W.fnOf "_law_cell" "_law_cell" (defArgs s__law_cell) (defBody s__law_cell) (defScope s__law_cell) .none kV1 dc1 pm1 an1 cd1 ct1), f_law_row := f_law_row, d_law_row := (PySem.W.fnOf "_law_row" "_law_row" (defArgs s__law_row) (defBody s__law_row) (defScope s__law_row) .none kV2 dc2 pm2 an2 cd2 ct2), f_law_agrees := f_law_agrees, d_law_agrees := (PySem.W.fnOf "_law_agrees" "_law_agrees" (defArgs s__law_agrees) (defBody s__law_agrees) (defScope s__law_agrees) .none kV3 dc3 pm3 an3 cd3 ct3), flaw := fa, dlaw := (PySem.W.fnOf "law" "law" (defArgs s_law) (defBody s_law) (defScope s_law) .none kV4 dc4 pm4 an4 cd4 ct4), fObjects___init__ := fObjects___init__, dObjects___init__ := (PySem.W.fnOf "__init__" "Objects.__init__" (defArgs s_Objects___init__) (defBody s_Objects___init__) (defScope s_Objects___init__) .none kV5 dc5 pm5 an5 cd5 ct5), fObjects_interface_of := fObjects_interface_of, dObjects_interface_of := (PySem.W.fnOf "interface_of" "Objects.interface_of" (defArgs s_Objects_interface_of) (defBody s_Objects_interface_of) (defScope s_Objects_interface_of) .none kV6 dc6 pm6 an6 cd6 ct6), fObjects_numbers := fObjects_numbers, dObjects_numbers := (PySem.W.fnOf "numbers" "Objects.numbers" (defArgs s_Objects_numbers) (defBody s_Objects_numbers) (defScope s_Objects_numbers) .none kV7 dc7 pm7 an7 cd7 ct7), fObjects_may_give := fObjects_may_give, dObjects_may_give := (PySem.W.fnOf "may_give" "Objects.may_give" (defArgs s_Objects_may_give) (defBody s_Objects_may_give) (defScope s_Objects_may_give) .none kV8 dc8 pm8 an8 cd8 ct8), fObjects_is_full := fObjects_is_full, dObjects_is_full := (PySem.W.fnOf "is_full" "Objects.is_full" (defArgs s_Objects_is_full) (defBody s_Objects_is_full) (defScope s_Objects_is_full) .none kV9 dc9 pm9 an9 cd9 ct9), fObjects_give := fObjects_give, dObjects_give := (PySem.W.fnOf "give" "Objects.give" (defArgs s_Objects_give) (defBody s_Objects_give) (defScope s_Objects_give) .none kV10 dc10 pm10 an10 cd10 ct10), fObjects_make := fObjects_make, dObjects_make := (PySem.W.fnOf "make" "Objects.make" (defArgs s_Objects_make) (defBody s_Objects_make) (defScope s_Objects_make) .none kV11 dc11 pm11 an11 cd11 ct11), fObjects_end := fObjects_end, dObjects_end := (PySem.W.fnOf "end" "Objects.end" (defArgs s_Objects_end) (defBody s_Objects_end) (defScope s_Objects_end) .none kV12 dc12 pm12 an12 cd12 ct12), tDISPLAY := tDISPLAY, tLEAST_GIVEN := tLEAST_GIVEN, tGREATEST_GIVEN := tGREATEST_GIVEN, tMOST_OBJECTS := tMOST_OBJECTS, CObjects := CObjects }, rfl, { F_law_cell := F1, b_law_cell := b1, g_law_cell := PySem.W.mg_of X G a1, k_law_cell := k1, F_law_row := F2, b_law_row := b2, g_law_row := PySem.W.mg_of X G a2, k_law_row := k2, F_law_agrees := F3, b_law_agrees := b3, g_law_agrees := PySem.W.mg_of X G a3, k_law_agrees := k3, Flaw := F4, blaw := b4, glaw := PySem.W.mg_of X G a4, klaw := k4, FObjects___init__ := F5, bObjects___init__ := b5, MObjects := ⟨mkObjects, a5, i5, kcObjects⟩, FObjects_interface_of := F6, bObjects_interface_of := b6, mObjects_interface_of := ⟨a6, i6, k6⟩, FObjects_numbers := F7, bObjects_numbers := b7, mObjects_numbers := ⟨a7, i7, k7⟩, FObjects_may_give := F8, bObjects_may_give := b8, mObjects_may_give := ⟨a8, i8, k8⟩, FObjects_is_full := F9, bObjects_is_full := b9, mObjects_is_full := ⟨a9, i9, k9⟩, FObjects_give := F10, bObjects_give := b10, mObjects_give := ⟨a10, i10, k10⟩, FObjects_make := F11, bObjects_make := b11, mObjects_make := ⟨a11, i11, k11⟩, FObjects_end := F12, bObjects_end := b12, mObjects_end := ⟨a12, i12, k12⟩, int := PySem.W.mg_none_of X G z_int, len := PySem.W.mg_none_of X G z_len, list := PySem.W.mg_none_of X G z_list, min := PySem.W.mg_none_of X G z_min, range := PySem.W.mg_none_of X G z_range, gDISPLAY := PySem.W.mg_of X G q_DISPLAY, gLEAST_GIVEN := PySem.W.mg_of X G q_LEAST_GIVEN, gGREATEST_GIVEN := PySem.W.mg_of X G q_GREATEST_GIVEN, gMOST_OBJECTS := PySem.W.mg_of X G q_MOST_OBJECTS, clObjects := ⟨pgObjects, hdObjects, poObjects, saObjects⟩, gObjects := PySem.W.mg_of X G uObjects, nObjects__interfaces := nObjects__interfaces, nObjects__next_made := nObjects__next_made }, fun s v => .of_eq rfl⟩
theorem walk {l : PySem.W.OpenLaw} {q : Program} {loose : List Str} {XP : (Str → Option Value) → Heap → Prop} {YP : World → Heap → Prop} {d : DefRec} {K : Params → PySem.W.Frag} (hn : l.most = some 63) (hdf : d.params.defaults = [])
    (hY : ∀ (w : World) (h : Heap), YP w h → (K w.params).In h)
    (F : ∀ (w : World) (mg : Str → Option Value) (fa : Addr) (h : Heap), (K w.params).In h → h.Ns mainGlobals mg → mg d.name = some (.ref fa) →
      ∃ A : Adr, A.flaw = fa ∧ Txt (K w.params) mg A ∧ (∀ (s : Shared) (v : Value), BindsTo s A.dlaw ⟨[v], []⟩ [("script", v)])) :
    PySem.W.WalkO q loose XP YP l.row.toRowW d [] (fun f vs => PySem.call f vs) :=
  L2.walk_of (n := 63) (k := 4) (x := "script") (CX := fun _ => CX0) (sp := fun w => sp_law (K w.params)) hn (by decide) hdf ⟨rfl, by decide, by decide⟩ hY (fun w mg fa h X G hfa => by
    obtain ⟨A, rfl, T, b⟩ := F w mg fa h X G hfa
    exact ⟨A.dlaw, b, fun base _ _ => ok_law T⟩) (fun _ _ a ns hl _ hS => ⟨a, ns, rfl, hS, hl, fun _ => rfl⟩) fun _ _ _ _ _ z => z
end My
open PySem PySem.W PyProof.Rows
set_option maxRecDepth 100000 in
set_option maxHeartbeats 0 in
theorem PySem.Challenge.cw_sillwatch_k10_owned_objects_holds : PySem.Challenge.rw_sillwatch_k10_owned_objects.Holds := by
  w_on; o_law; k_head; (case hw => w_witness2)
  k_fill
  refine My.walk (l := PySem.Challenge.rw_sillwatch_k10_owned_objects) rfl rfl (fun w h Y => PySem.W.kIn_of Y) ?F
  case F =>
    intro w mg fa h KX G hmg
    refine' My.all_mk KX G hmg ?a1 ?l1 ?c1 ?k1 ?a2 ?l2 ?c2 ?k2 ?a3 ?l3 ?c3 ?k3 ?a4 ?l4 ?c4 ?k4 ?a5 ?i5 ?l5 ?c5 ?k5 ?a6 ?i6 ?l6 ?c6 ?k6 ?a7 ?i7 ?l7 ?c7 ?k7 ?a8 ?i8 ?l8 ?c8 ?k8 ?a9 ?i9 ?l9 ?c9 ?k9 ?a10 ?i10 ?l10 ?c10 ?k10 ?a11 ?i11 ?l11 ?c11 ?k11 ?a12 ?i12 ?l12 ?c12 ?k12 ?z_int ?z_len ?z_list ?z_min ?z_range ?q_DISPLAY ?q_LEAST_GIVEN ?q_GREATEST_GIVEN ?q_MOST_OBJECTS ?uObjects ?pgObjects ?hdObjects ?poObjects ?saObjects ?mkObjects ?kcObjects ?nObjects__interfaces ?nObjects__next_made
    (case uObjects => k_is)
    (case a1 => k_is)
    (case l1 => k_is)
    (case c1 => k_is)
    (case k1 => k_is)
    (case a2 => k_is)
    (case l2 => k_is)
    (case c2 => k_is)
    (case k2 => k_is)
    (case a3 => k_is)
    (case l3 => k_is)
    (case c3 => k_is)
    (case k3 => k_is)
    (case a4 => k_is)
    (case l4 => k_is)
    (case c4 => k_is)
    (case k4 => k_is)
    (case a5 => k_is)
    (case i5 => k_is)
    (case l5 => k_is)
    (case c5 => k_is)
    (case k5 => k_is)
    (case a6 => k_is)
    (case i6 => k_is)
    (case l6 => k_is)
    (case c6 => k_is)
    (case k6 => k_is)
    (case a7 => k_is)
    (case i7 => k_is)
    (case l7 => k_is)
    (case c7 => k_is)
    (case k7 => k_is)
    (case a8 => k_is)
    (case i8 => k_is)
    (case l8 => k_is)
    (case c8 => k_is)
    (case k8 => k_is)
    (case a9 => k_is)
    (case i9 => k_is)
    (case l9 => k_is)
    (case c9 => k_is)
    (case k9 => k_is)
    (case a10 => k_is)
    (case i10 => k_is)
    (case l10 => k_is)
    (case c10 => k_is)
    (case k10 => k_is)
    (case a11 => k_is)
    (case i11 => k_is)
    (case l11 => k_is)
    (case c11 => k_is)
    (case k11 => k_is)
    (case a12 => k_is)
    (case i12 => k_is)
    (case l12 => k_is)
    (case c12 => k_is)
    (case k12 => k_is)
    (case z_int => k_is)
    (case z_len => k_is)
    (case z_list => k_is)
    (case z_min => k_is)
    (case z_range => k_is)
    (case q_DISPLAY => k_is)
    (case q_LEAST_GIVEN => k_is)
    (case q_GREATEST_GIVEN => k_is)
    (case q_MOST_OBJECTS => k_is)
    (case pgObjects => k_is)
    (case hdObjects => k_is)
    (case poObjects => k_is)
    (case saObjects => k_is)
    (case mkObjects => k_is)
    (case kcObjects => k_is)
    (case nObjects__interfaces => k_is)
    (case nObjects__next_made => k_is)
