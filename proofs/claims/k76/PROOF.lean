import PyProof.Rows.All
import Wide.All
import OpenK.AllK
import Wide.FinOn
import HandS.ForMost
import HandS.Exc
import HandS.TryOnly
import HandS.ExcOwn
import HandS.WordsExc
import HandS.IsInst
import HandS.Wide
import HandS.Flow
import HandS.More
import HandS.Codes
import HandS.Walk
import HandS.TupLe
import HandS.WordsDict
import HandS.Conv
import HandS.TryMany
import HandS.ExcIs
import KE.KBits
import HandS.CallLocal
import HandS.Strs
import HandS.SetFor
import HandS.Set
import HandS.Property
import HandS.WideBits
import PySem.Challenge.RW_sillwatch_k76_colours_over
set_option Elab.async false
set_option linter.all false
set_option maxRecDepth 100000
set_option maxHeartbeats 4000000
namespace My
open PySem L2
def topS (i : Nat) : Stmt := PySem.Challenge.pw_sillwatch_k76_colours_over.main.body.getD i (.Pass ⟨0, 0, 0, 0⟩)
abbrev s_over : Stmt := topS 6
abbrev s_slot_colour : Stmt := topS 7
abbrev s__law_cell : Stmt := topS 9
abbrev s__law_row : Stmt := topS 10
abbrev s__law_colour : Stmt := topS 11
abbrev s__law_part : Stmt := topS 12
abbrev s__law_joined : Stmt := topS 13
abbrev s_law : Stmt := topS 14
structure Adr where
  fover : Addr
  dover : FuncData
  fslot_colour : Addr
  dslot_colour : FuncData
  f_law_cell : Addr
  d_law_cell : FuncData
  f_law_row : Addr
  d_law_row : FuncData
  f_law_colour : Addr
  d_law_colour : FuncData
  f_law_part : Addr
  d_law_part : FuncData
  f_law_joined : Addr
  d_law_joined : FuncData
  flaw : Addr
  dlaw : FuncData
  tCLEAR : Tok
  tGROUND : Tok
  tDESK : Tok
  tOPAQUE : Tok
  a_SLOT_COLOURS : Addr
structure Txt (K : PySem.W.Frag) (mg : Str → Option Value) (A : Adr) : Prop where
  Fover : Fun K "over" "over" s_over A.fover A.dover
  bover : Binds K A.dover ["colour", "below"] []
  gover : mg "over" = some (.ref A.fover)
  kover : PySem.W.keepIn K (.ref A.fover) = true
  Fslot_colour : Fun K "slot_colour" "slot_colour" s_slot_colour A.fslot_colour A.dslot_colour
  bslot_colour : Binds K A.dslot_colour ["slot"] []
  gslot_colour : mg "slot_colour" = some (.ref A.fslot_colour)
  kslot_colour : PySem.W.keepIn K (.ref A.fslot_colour) = true
  F_law_cell : Fun K "_law_cell" "_law_cell" s__law_cell A.f_law_cell A.d_law_cell
  b_law_cell : Binds K A.d_law_cell ["script", "k"] []
  g_law_cell : mg "_law_cell" = some (.ref A.f_law_cell)
  k_law_cell : PySem.W.keepIn K (.ref A.f_law_cell) = true
  F_law_row : Fun K "_law_row" "_law_row" s__law_row A.f_law_row A.d_law_row
  b_law_row : Binds K A.d_law_row ["script", "k"] []
  g_law_row : mg "_law_row" = some (.ref A.f_law_row)
  k_law_row : PySem.W.keepIn K (.ref A.f_law_row) = true
  F_law_colour : Fun K "_law_colour" "_law_colour" s__law_colour A.f_law_colour A.d_law_colour
  b_law_colour : Binds K A.d_law_colour ["row"] []
  g_law_colour : mg "_law_colour" = some (.ref A.f_law_colour)
  k_law_colour : PySem.W.keepIn K (.ref A.f_law_colour) = true
  F_law_part : Fun K "_law_part" "_law_part" s__law_part A.f_law_part A.d_law_part
  b_law_part : Binds K A.d_law_part ["colour", "place"] []
  g_law_part : mg "_law_part" = some (.ref A.f_law_part)
  k_law_part : PySem.W.keepIn K (.ref A.f_law_part) = true
  F_law_joined : Fun K "_law_joined" "_law_joined" s__law_joined A.f_law_joined A.d_law_joined
  b_law_joined : Binds K A.d_law_joined ["red", "green", "blue"] []
  g_law_joined : mg "_law_joined" = some (.ref A.f_law_joined)
  k_law_joined : PySem.W.keepIn K (.ref A.f_law_joined) = true
  Flaw : Fun K "law" "law" s_law A.flaw A.dlaw
  blaw : Binds K A.dlaw ["script"] []
  glaw : mg "law" = some (.ref A.flaw)
  klaw : PySem.W.keepIn K (.ref A.flaw) = true
  int : mg "int" = none
  len : mg "len" = none
  min : mg "min" = none
  range : mg "range" = none
  gCLEAR : mg "CLEAR" = some (.int (0) A.tCLEAR)
  gGROUND : mg "GROUND" = some (.int (4293454056) A.tGROUND)
  gDESK : mg "DESK" = some (.int (4280295472) A.tDESK)
  gOPAQUE : mg "OPAQUE" = some (.int (4278190080) A.tOPAQUE)
  g_SLOT_COLOURS : mg "_SLOT_COLOURS" = some (.ref A.a_SLOT_COLOURS)
  w_SLOT_COLOURS : ∀ H : Hp, SqT K H A.a_SLOT_COLOURS [.int (4291312700), .int (4282158140), .int (4282145480), .int (4290019870)]
section
variable {P : Program} {w : World} {K : PySem.W.Frag} {mg : Str → Option Value} {base : Heap} {A : Adr}
/-! ### common: tests, errors, small words -/
theorem exm_self {K : PySem.W.Frag} {S : Addr} (h1 : PySem.W.subIn K (.ref S) (.type "BaseException") = some true) (h2 : PySem.W.isClsIn K S = true) (h3 : PySem.W.typeIn K (.ref S) = some (.type "type")) (h4 : PySem.W.subIn K (.ref S) (.ref S) = some true) :
    PySem.W.exmOne K (.ref S) (.ref S) = some true := by
  have g1 : (PySem.W.subIn K (.ref S) (.type "BaseException") == some true) = true := by rw [h1]; rfl
  have g0 : (PySem.W.clsIn K S).isSome = true := h2
  have g2 : ((PySem.W.clsIn K S).isSome && PySem.W.typeIn K (.ref S) == some (.type "type")) = true := by rw [g0, h3]; rfl
  show (if (PySem.W.subIn K (.ref S) (.type "BaseException") == some true) = true then (if ((PySem.W.clsIn K S).isSome && PySem.W.typeIn K (.ref S) == some (.type "type")) = true then PySem.W.subIn K (.ref S) (.ref S) else none) else none) = some true
  rw [if_pos g1, if_pos g2]
  exact h4
theorem exm_cross {K : PySem.W.Frag} {S R : Addr} {b : Bool} (h1 : PySem.W.subIn K (.ref S) (.type "BaseException") = some true) (h2 : PySem.W.isClsIn K S = true) (h3 : PySem.W.typeIn K (.ref S) = some (.type "type")) (h4 : PySem.W.subIn K (.ref R) (.ref S) = some b) :
    PySem.W.exmOne K (.ref R) (.ref S) = some b := by
  have g1 : (PySem.W.subIn K (.ref S) (.type "BaseException") == some true) = true := by rw [h1]; rfl
  have g0 : (PySem.W.clsIn K S).isSome = true := h2
  have g2 : ((PySem.W.clsIn K S).isSome && PySem.W.typeIn K (.ref S) == some (.type "type")) = true := by rw [g0, h3]; rfl
  show (if (PySem.W.subIn K (.ref S) (.type "BaseException") == some true) = true then (if ((PySem.W.clsIn K S).isSome && PySem.W.typeIn K (.ref S) == some (.type "type")) = true then PySem.W.subIn K (.ref R) (.ref S) else none) else none) = some b
  rw [if_pos g1, if_pos g2]
  exact h4
/-- the law's own promise -/
def sp_law (K : PySem.W.Frag) : Sp := fun vs H Q _ => ∃ (a : Addr) (ns : List Int), vs = [.ref a] ∧ SqL K H a (ns.map V.int) ∧ ns.length ≤ 63 ∧ ∀ H', Q (.bl true) H'
theorem iteP {p A B : Prop} [Decidable p] (h1 : p → A) (h2 : ¬ p → B) : if decide p = true then A else B := by
  by_cases h : p
  · rw [decide_eq_true h]; exact iteT (h1 h)
  · rw [decide_eq_false h]; exact iteF (h2 h)
theorem iteN {p A B : Prop} [Decidable p] (h1 : ¬ p → A) (h2 : p → B) : if (!decide p) = true then A else B := by
  by_cases h : p
  · rw [decide_eq_true h]; exact iteF (h2 h)
  · rw [decide_eq_false h]; exact iteT (h1 h)
theorem iteEq {i j : Int} {A B : Prop} (h1 : i = j → A) (h2 : i ≠ j → B) : if decide (V.int i = V.int j) = true then A else B :=
  iteP (fun h => h1 (V.int.inj h)) (fun h => h2 fun e => h (congrArg V.int e))
theorem iteNe {i j : Int} {A B : Prop} (h1 : i ≠ j → A) (h2 : i = j → B) : if (!decide (V.int i = V.int j)) = true then A else B :=
  iteN (fun h => h1 fun e => h (congrArg V.int e)) (fun h => h2 (V.int.inj h))
theorem if_t {b : Bool} {A B : Prop} (e : b = true) (h : A) : if b = true then A else B := by rw [if_pos e]; exact h
theorem if_f {b : Bool} {A B : Prop} (e : b = false) (h : B) : if b = true then A else B := by rw [e]; exact iteF h
theorem if_b {b : Bool} {A B : Prop} (h1 : b = true → A) (h2 : b = false → B) : if b = true then A else B := by
  cases b with
  | true => exact iteT (h1 rfl)
  | false => exact iteF (h2 rfl)
theorem same_upd {H : Hp} {p : Addr} {o : HO} (h : H p = none) : Same H (upd H p o) := fun b x e => by
  rw [upd_ne (ne_of_none e h)]
  exact e
theorem len_line {n : Nat} (h : n ≤ 100000) : n ≤ sizeLine := Nat.le_trans h (by decide)
theorem lt_line {n : Nat} (h : n < 100000) : n < sizeLine := Nat.lt_of_lt_of_le h (by decide)
local macro_rules | `(tactic| walk_at "rd") => `(tactic| repeat (first
  | refine ⟨_, rfl, ?_⟩
  | refine ⟨_, _, rfl, rfl, ?_⟩
  | refine ⟨rfl, ?_⟩
  | refine Or.inl ⟨_, rfl, ?_⟩
  | refine ⟨(by show (0 : Int) < _; decide), ?_⟩
  | refine ⟨(⟨by decide, by decide⟩ : CDiv _ _), ?_⟩
  | refine ⟨(Or.inl ⟨by decide, by decide⟩ : CMul _ _), ?_⟩
  | refine ⟨(Or.inr ⟨by decide, by decide⟩ : CMul _ _), ?_⟩))
/-! ### data that are compared -/
def Sh (n : Nat) (d : PyData) : Prop := d.canLay0 = true ∧ d.depth ≤ n
theorem Sh.mono {n m : Nat} {d : PyData} (h : Sh n d) (l : n ≤ m) : Sh m d := ⟨h.1, Nat.le_trans h.2 l⟩
theorem sh_all : ∀ {n : Nat} {ds : List PyData}, (∀ d ∈ ds, Sh n d) → PyData.canLayAll0 ds = true ∧ PyData.depthAll ds ≤ n
  | n, [], _ => ⟨by simp [PyData.canLayAll0], by simp [PyData.depthAll]⟩
  | n, d :: ds, h => by
    have h1 := h d List.mem_cons_self
    have h2 := sh_all fun e he => h e (List.mem_cons_of_mem _ he)
    refine ⟨?_, ?_⟩
    · simp only [PyData.canLayAll0, Bool.and_eq_true]; exact ⟨h1.1, h2.1⟩
    · simp only [PyData.depthAll]; exact Nat.max_le.mpr ⟨h1.2, h2.2⟩
theorem sh_list {n : Nat} {ds : List PyData} (h : ∀ d ∈ ds, Sh n d) : Sh (n + 1) (.list ds) := by
  have q := sh_all h
  exact ⟨by simp only [PyData.canLay0]; exact q.1, by simp only [PyData.depth]; exact Nat.succ_le_succ q.2⟩
theorem sh_tuple {n : Nat} {ds : List PyData} (h : ∀ d ∈ ds, Sh n d) : Sh (n + 1) (.tuple ds) := by
  have q := sh_all h
  exact ⟨by simp only [PyData.canLay0]; exact q.1, by simp only [PyData.depth]; exact Nat.succ_le_succ q.2⟩
theorem sh_int (i : Int) : Sh 0 (.int i) := ⟨by simp [PyData.canLay0], by simp [PyData.depth]⟩
theorem sh_bool (i : Bool) : Sh 0 (.bool i) := ⟨by simp [PyData.canLay0], by simp [PyData.depth]⟩
theorem sh_none : Sh 0 .none := ⟨by simp [PyData.canLay0], by simp [PyData.depth]⟩
theorem sh_str {s : Str} (h : PyData.strOk s = true) : Sh 0 (.str s) := ⟨by simp only [PyData.canLay0]; exact h, by simp [PyData.depth]⟩
theorem Sh.shaped {n : Nat} {d : PyData} (h : Sh n d) (l : n ≤ 64 := by decide) : SeqAt.shaped d = true := by
  show (d.canLay0 && decide (d.depth ≤ 64)) = true
  rw [h.1, decide_eq_true (Nat.le_trans h.2 l)]
  rfl
theorem Sh.self {n : Nat} {d : PyData} (h : Sh n d) : PyData.eqv d d = true := SeqAt.eqv_refl d h.1
def pInts (xs : List Int) : PyData := .list (xs.map PyData.int)
theorem sh_ints (xs : List Int) : Sh 1 (pInts xs) := sh_list fun d hd => by
  obtain ⟨i, _, rfl⟩ := List.mem_map.mp hd
  exact sh_int i
theorem dpall_ints {K : PySem.W.Frag} {H : Hp} : ∀ xs : List Int, DpAll K H (xs.map V.int) (xs.map PyData.int)
  | [] => .nil
  | x :: r => .cons (.int x) (dpall_ints r)
theorem dp_ints {K : PySem.W.Frag} {H : Hp} {p : Addr} {xs : List Int} (h : SqL K H p (xs.map V.int)) : Dp K H (.ref p) (pInts xs) := .lst h (dpall_ints xs)
/-! ### views: what is new, what stands -/
structure Ext (V H V' H' : Hp) : Prop where
  vv : Same V V'
  vh : Same V' H'
  hh : Same H H'
  nw : ∀ a, V' a ≠ none → V a ≠ none ∨ H a = none
theorem Ext.refl {V H : Hp} (h : Same V H) : Ext V H V H := ⟨Same.refl V, h, Same.refl H, fun _ h => Or.inl h⟩
theorem Ext.trans {V H V1 H1 V2 H2 : Hp} (a : Ext V H V1 H1) (b : Ext V1 H1 V2 H2) : Ext V H V2 H2 :=
  ⟨a.vv.trans b.vv, b.vh, a.hh.trans b.hh, fun x h => by
    rcases b.nw x h with q | q
    · exact a.nw x q
    · exact Or.inr (a.hh.free q)⟩
theorem none_of_same {V H : Hp} {p : Addr} (s : Same V H) (h : H p = none) : V p = none := s.free h
theorem Ext.new {V H : Hp} {p : Addr} {o : HO} (s : Same V H) (h : H p = none) : Ext V H (upd V p o) (upd H p o) :=
  ⟨same_upd (s.free h), fun b u e => by
    by_cases hb : b = p
    · subst hb; rw [upd_same] at e ⊢; exact e
    · rw [upd_ne hb] at e ⊢; exact s b u e, same_upd h, fun a e => by
    by_cases ha : a = p
    · subst ha; exact Or.inr h
    · rw [upd_ne ha] at e; exact Or.inl e⟩
/-- a new object that the view does not take in -/
theorem Ext.skip {V H : Hp} {p : Addr} {o : HO} (s : Same V H) (h : H p = none) : Ext V H V (upd H p o) :=
  ⟨Same.refl V, s.trans (same_upd h), same_upd h, fun _ e => Or.inl e⟩
theorem Ext.keepOut {V H V' H' : Hp} (x : Ext V H V' H') {D : Addr} (h : V D = none) (hd : H D ≠ none) : V' D = none := by
  cases e : V' D with
  | none => rfl
  | some o =>
    rcases x.nw D (by rw [e]; exact fun z => by cases z) with q | q
    · exact absurd h q
    · exact absurd q hd
/-- an object outside of the view changes -/
theorem Ext.poke {V H V' H' : Hp} (x : Ext V H V' H') {D : Addr} {o : HO} (hd : H D = none) (h : V' D = none) : Ext V H V' (upd H' D o) :=
  ⟨x.vv, fun b u e => by
    have hb : b ≠ D := fun z => by rw [z, h] at e; cases e
    rw [upd_ne hb]; exact x.vh b u e, fun b u e => by
    have hb : b ≠ D := ne_of_none e hd
    rw [upd_ne hb]; exact x.hh b u e, x.nw⟩
/-- the object at D, done, is taken in -/
theorem Ext.take {V H V' H' : Hp} (x : Ext V H V' H') {D : Addr} {o : HO} (hd : H D = none) (h : V' D = none) (e : H' D = some o) : Ext V H (upd V' D o) H' :=
  ⟨x.vv.trans (same_upd h), fun b u q => by
    by_cases hb : b = D
    · subst hb; rw [upd_same] at q; rw [e]; exact q
    · rw [upd_ne hb] at q; exact x.vh b u q, x.hh, fun a q => by
    by_cases ha : a = D
    · subst ha; exact Or.inr hd
    · rw [upd_ne ha] at q; exact x.nw a q⟩
theorem _root_.L2.Same.sqt {K : PySem.W.Frag} {H H' : Hp} {a : Addr} {xs : List V} (e : Same H H') (h : SqT K H a xs) : SqT K H' a xs := by
  rcases h with (h | ⟨o, h⟩) | h
  · exact .inl (.inl (e _ _ h))
  · exact .inl (.inr ⟨o, e _ _ h⟩)
  · exact .inr h
mutual
theorem dp_same {K : PySem.W.Frag} {H H' : Hp} (s : Same H H') : ∀ (d : PyData) (v : V), Dp K H v d → Dp K H' v d
  | .none, _, h => by cases h; exact .non
  | .bool b, _, h => by cases h; exact .bl b
  | .int i, _, h => by cases h; exact .int i
  | .str x, _, h => by cases h; exact .str x
  | .list ds, _, h => by
    cases h with
    | lst q r => exact .lst (s.seq q) (dpall_same s ds _ r)
  | .tuple ds, _, h => by
    cases h with
    | tup q r => exact .tup (s.sqt q) (dpall_same s ds _ r)
  | .dict _, _, h => by cases h
theorem dpall_same {K : PySem.W.Frag} {H H' : Hp} (s : Same H H') : ∀ (ds : List PyData) (vs : List V), DpAll K H vs ds → DpAll K H' vs ds
  | [], _, h => by cases h; exact .nil
  | d :: ds, _, h => by
    cases h with
    | cons q r => exact .cons (dp_same s d _ q) (dpall_same s ds _ r)
end
theorem _root_.L2.Dp.to {K : PySem.W.Frag} {H H' : Hp} {v : V} {d : PyData} (h : Dp K H v d) (s : Same H H') : Dp K H' v d := dp_same s d v h
theorem _root_.L2.DpAll.to {K : PySem.W.Frag} {H H' : Hp} {v : List V} {d : List PyData} (h : DpAll K H v d) (s : Same H H') : DpAll K H' v d := dpall_same s d v h
theorem dpall_len {K : PySem.W.Frag} {H : Hp} : ∀ {vs : List V} {ds : List PyData}, DpAll K H vs ds → vs.length = ds.length
  | _, [], h => by cases h; rfl
  | _, d :: ds, h => by
    cases h with
    | cons q r => exact congrArg (· + 1) (dpall_len r)
theorem dpall_get {K : PySem.W.Frag} {H : Hp} : ∀ {vs : List V} {ds : List PyData} {i : Nat} {v : V}, DpAll K H vs ds → vs[i]? = some v → ∃ d, ds[i]? = some d ∧ Dp K H v d
  | _, [], i, v, h, e => by cases h; cases e
  | _, d :: ds, i, v, h, e => by
    cases h with
    | cons q r =>
      match i, e with
      | 0, e => cases e; exact ⟨d, rfl, q⟩
      | i + 1, e => exact dpall_get (i := i) r e
theorem dpall_get' {K : PySem.W.Frag} {H : Hp} : ∀ {vs : List V} {ds : List PyData} {i : Nat} {d : PyData}, DpAll K H vs ds → ds[i]? = some d → ∃ v, vs[i]? = some v ∧ Dp K H v d
  | _, [], i, d, h, e => by cases e
  | _, d :: ds, i, d', h, e => by
    cases h with
    | cons q r =>
      match i, e with
      | 0, e => cases e; exact ⟨_, rfl, q⟩
      | i + 1, e => exact dpall_get' (i := i) r e
theorem dpall_app {K : PySem.W.Frag} {H : Hp} : ∀ {vs ws : List V} {ds es : List PyData}, DpAll K H vs ds → DpAll K H ws es → DpAll K H (vs ++ ws) (ds ++ es)
  | _, _, [], _, h, g => by cases h; exact g
  | _, _, d :: ds, _, h, g => by
    cases h with
    | cons q r => exact .cons q (dpall_app r g)
theorem dp_list {K : PySem.W.Frag} {H : Hp} {v : V} {ds : List PyData} (h : Dp K H v (.list ds)) : ∃ a xs, v = .ref a ∧ SqL K H a xs ∧ DpAll K H xs ds := by
  cases h with
  | lst q r => exact ⟨_, _, rfl, q, r⟩
theorem dp_tuple {K : PySem.W.Frag} {H : Hp} {v : V} {ds : List PyData} (h : Dp K H v (.tuple ds)) : ∃ a xs, v = .ref a ∧ SqT K H a xs ∧ DpAll K H xs ds := by
  cases h with
  | tup q r => exact ⟨_, _, rfl, q, r⟩
theorem dp_int {K : PySem.W.Frag} {H : Hp} {v : V} {i : Int} (h : Dp K H v (.int i)) : v = .int i := by cases h; rfl
theorem dp_str {K : PySem.W.Frag} {H : Hp} {v : V} {i : Str} (h : Dp K H v (.str i)) : v = .str i := by cases h; rfl
theorem dp_bool {K : PySem.W.Frag} {H : Hp} {v : V} {i : Bool} (h : Dp K H v (.bool i)) : v = .bl i := by cases h; rfl
/-! ### comprehensions over any walk -/
def fm {α : Type} (f : Nat → Option α) (n : Nat) : List α := (List.range n).filterMap f
theorem fm_succ {α : Type} (f : Nat → Option α) (n : Nat) : fm f (n + 1) = fm f n ++ (f n).toList := by
  unfold fm
  rw [List.range_succ, List.filterMap_append]
  congr 1
theorem fm_len {α : Type} (f : Nat → Option α) (n : Nat) : (fm f n).length ≤ n := by
  have h := List.length_filterMap_le f (List.range n)
  rw [List.length_range] at h
  exact h
structure LcInv (K : PySem.W.Frag) (V0 H0 : Hp) (D : Addr) (acc : List PyData) (H : Hp) : Prop where
  ex : ∃ V xs, Ext V0 H0 V H ∧ V D = none ∧ H D = some (.lst xs) ∧ DpAll K V xs acc
theorem LcInv.start {K : PySem.W.Frag} {V0 H0 : Hp} {D : Addr} (s : Same V0 H0) (hD : H0 D = none) : LcInv K V0 H0 D [] (upd H0 D (.lst [])) :=
  ⟨V0, [], Ext.skip s hD, s.free hD, upd_same, .nil⟩
theorem LcInv.done {K : PySem.W.Frag} {V0 H0 H : Hp} {D : Addr} {acc : List PyData} (hD : H0 D = none) (i : LcInv K V0 H0 D acc H) : ∃ U xs, Ext V0 H0 U H ∧ U D = some (.lst xs) ∧ DpAll K U xs acc ∧ Dp K U (.ref D) (.list acc) := by
  obtain ⟨V, xs, x, hv, hd, dp⟩ := i.ex
  exact ⟨_, xs, x.take hD hv hd, upd_same, dp.to (same_upd hv), .lst (SqL.of upd_same) (dp.to (same_upd hv))⟩
/-- one more item -/
theorem LcInv.push {K : PySem.W.Frag} {V0 H0 U H U' H' : Hp} {D : Addr} {acc : List PyData} {xs : List V} {y : V} {d : PyData} (hD : H0 D = none) (x : Ext V0 H0 U H) (hv : U D = none) (hd : H D = some (.lst xs)) (dp : DpAll K U xs acc)
    (x2 : Ext U H U' H') (e : Dp K U' y d) (hl : acc.length < 100000) :
    ∃ acc', H' D = some (.lst acc') ∧ acc'.length < sizeLine ∧ LcInv K V0 H0 D (acc ++ [d]) (upd H' D (.lst (acc' ++ [y]))) := by
  have hv' : U' D = none := x2.keepOut hv (by rw [hd]; exact fun z => by cases z)
  refine ⟨xs, x2.hh _ _ hd, lt_line (by rw [dpall_len dp]; exact hl), U', xs ++ [y], (x.trans x2).poke hD hv', hv', upd_same, dpall_app (dp.to x2.vv) (.cons e .nil)⟩
/-- a comprehension's reading over a walk that leaves the heap as it is: at turn i the item x, then f i: the data of what is put in, or none -/
theorem lc_dp0 {J : It} {n : Nat} {G : Hp → Prop} {Y : Nat → Hp → V → Hp → Prop} (wk : Walk J n G Y) {K : PySem.W.Frag} {V0 H0 : Hp} {D : Addr} {g : TG} {tt : TT} {te : TE} {vs : List Nat} {σ : St} {Qd : Hp → Prop} (f : Nat → Option PyData) (σ0 : St) (hσ : wipe σ vs = σ0) (s0 : Same V0 H0) (hD : H0 D = none) (hn : n < 100000)
    (hG : ∀ H, Same H0 H → G H) (hY : ∀ i H x H', Y i H x H' → H' = H)
    (hs : ∀ i x V H, i < n → Ext V0 H0 V H → Y i H x H → ∀ (Qy : VK) (Qn : Hp → Prop), (∀ d y V' H', f i = some d → Ext V H V' H' → Dp K V' y d → Qy y H') → (f i = none → ∀ V' H', Ext V H V' H' → Qn H') →
      g x σ0 H fun σ2 H2 => wipe σ2 vs = σ0 ∧ tt σ2 H2 fun b H3 => if b = true then te σ2 H3 Qy else Qn H3)
    (hd : ∀ (U H : Hp) (xs : List V), Ext V0 H0 U H → U D = none → H D = some (.lst xs) → DpAll K U xs (fm f n) → Qd H) :
    ∃ W : Nat → Nat → Hp → Prop, (∃ m, W 0 m (upd H0 D (.lst []))) ∧ ∀ i m H, W i m H →
      (J.stop i H ∧ Qd H) ∨ (J.go i H ∧ ∃ Nx : Hp → Prop, (∀ H', Nx H' → ∃ m', m' < m ∧ W (i + 1) m' H') ∧ ∀ x H', J.yld i H x H' → g x (wipe σ vs) H' fun σ2 H2 => wipe σ2 vs = wipe σ vs ∧ tt σ2 H2 fun b H3 =>
        if b = true then te σ2 H3 fun y H4 => ∃ acc, H4 D = some (.lst acc) ∧ acc.length < sizeLine ∧ Nx (upd H4 D (.lst (acc ++ [y]))) else Nx H3) := by
  subst hσ
  refine lc_it wk (fun i H => LcInv K V0 H0 D (fm f i) H) (LcInv.start s0 hD) (fun i H _ p => ?_) (fun i x H H' hi p y => ?_) (fun H p => ?_)
  · obtain ⟨V, xs, x, _⟩ := p.ex
    exact hG H x.hh
  · obtain ⟨V, xs, x0, hv, hdd, dp⟩ := p.ex
    obtain rfl := hY i H x H' y
    refine hs i x V H' hi x0 y _ _ (fun d y' V' H4 e x2 dy => ?_) (fun e V' H4 x2 => ?_)
    · have hl : (fm f i).length < 100000 := Nat.lt_of_le_of_lt (fm_len f i) (Nat.lt_trans hi hn)
      obtain ⟨acc', a1, a2, a3⟩ := LcInv.push hD x0 hv hdd dp x2 dy hl
      refine ⟨acc', a1, a2, ?_⟩
      rw [fm_succ, e]
      exact a3
    · have hv' : V' D = none := x2.keepOut hv (by rw [hdd]; exact fun z => by cases z)
      rw [fm_succ, e]
      show LcInv K V0 H0 D (fm f i ++ []) H4
      rw [List.append_nil]
      exact ⟨V', xs, x0.trans x2, hv', x2.hh _ _ hdd, dp.to x2.vv⟩
  · obtain ⟨U, xs, x, hv, hdd, dp⟩ := p.ex
    exact hd U H xs x hv hdd dp
/-- a comprehension's reading over a walk that leaves the heap as it is: at turn i the item x, then f i: the data of what is put in, or none -/
theorem lc_dp {J : It} {n : Nat} {G : Hp → Prop} {Y : Nat → Hp → V → Hp → Prop} (wk : Walk J n G Y) {K : PySem.W.Frag} {V0 H0 : Hp} {D : Addr} {g : TG} {tt : TT} {te : TE} {vs : List Nat} {σ : St} {Qd : Hp → Prop} (f : Nat → Option PyData) (σ0 : St) (hσ : wipe σ vs = σ0) (s0 : Same V0 H0) (hD : H0 D = none) (hn : n < 100000)
    (hG : ∀ H, Same H0 H → G H) (hY : ∀ i H x H', Y i H x H' → H' = H)
    (hs : ∀ i x V H, i < n → Ext V0 H0 V H → Y i H x H → ∀ (Qy : VK) (Qn : Hp → Prop), (∀ d y V' H', f i = some d → Ext V H V' H' → Dp K V' y d → Qy y H') → (f i = none → ∀ V' H', Ext V H V' H' → Qn H') →
      g x σ0 H fun σ2 H2 => wipe σ2 vs = σ0 ∧ tt σ2 H2 fun b H3 => if b = true then te σ2 H3 Qy else Qn H3)
    (hd : ∀ (U H : Hp) (xs : List V), Ext V0 H0 U H → U D = some (.lst xs) → DpAll K U xs (fm f n) → Dp K U (.ref D) (.list (fm f n)) → Qd H) :
    ∃ W : Nat → Nat → Hp → Prop, (∃ m, W 0 m (upd H0 D (.lst []))) ∧ ∀ i m H, W i m H →
      (J.stop i H ∧ Qd H) ∨ (J.go i H ∧ ∃ Nx : Hp → Prop, (∀ H', Nx H' → ∃ m', m' < m ∧ W (i + 1) m' H') ∧ ∀ x H', J.yld i H x H' → g x (wipe σ vs) H' fun σ2 H2 => wipe σ2 vs = wipe σ vs ∧ tt σ2 H2 fun b H3 =>
        if b = true then te σ2 H3 fun y H4 => ∃ acc, H4 D = some (.lst acc) ∧ acc.length < sizeLine ∧ Nx (upd H4 D (.lst (acc ++ [y]))) else Nx H3) := by
  refine lc_dp0 wk f σ0 hσ s0 hD hn hG hY hs fun U H xs x hv hdd dp => ?_
  exact hd _ H xs (x.take hD hv hdd) upd_same (dp.to (same_upd hv)) (.lst (SqL.of upd_same) (dp.to (same_upd hv)))
theorem fm_map {α β : Type} (f : α → β) : ∀ (xs : List α), fm (fun i => (xs[i]?).map f) xs.length = xs.map f := by
  intro xs
  have h : ∀ n, n ≤ xs.length → fm (fun i => (xs[i]?).map f) n = (xs.take n).map f := by
    intro n
    induction n with
    | zero => intro _; rfl
    | succ n ih =>
      intro hn
      rw [fm_succ, ih (by omega), List.getElem?_eq_getElem (by omega), List.take_succ_eq_append_getElem (by omega), List.map_append]
      rfl
  rw [h _ (Nat.le_refl _), List.take_length]

theorem lc2_outer {J : It} {n : Nat} {G : Hp → Prop} {Y : Nat → Hp → V → Hp → Prop} (wk : Walk J n G Y) {K : PySem.W.Frag} {V0 H0 : Hp} {D : Addr} {g : TG} {vs : List Nat} {σ : St} {body : St → Hp → (Hp → Prop) → Prop} {Qd : Hp → Prop} (F : Nat → List PyData) (σ0 : St) (hσ : wipe σ vs = σ0) (s0 : Same V0 H0) (hD : H0 D = none) (hF : F 0 = [])
    (hG : ∀ H, Same H0 H → G H) (hY : ∀ i H x H', Y i H x H' → H' = H)
    (hs : ∀ i x H, i < n → LcInv K V0 H0 D (F i) H → Y i H x H → ∀ Nx : Hp → Prop, (∀ H', LcInv K V0 H0 D (F (i + 1)) H' → Nx H') → g x σ0 H fun σ2 H2 => wipe σ2 vs = σ0 ∧ body σ2 H2 Nx)
    (hd : ∀ (U H : Hp) (xs : List V), Ext V0 H0 U H → U D = some (.lst xs) → DpAll K U xs (F n) → Dp K U (.ref D) (.list (F n)) → Qd H) :
    ∃ W : Nat → Nat → Hp → Prop, (∃ m, W 0 m (upd H0 D (.lst []))) ∧ ∀ i m H, W i m H →
      (J.stop i H ∧ Qd H) ∨ (J.go i H ∧ ∃ Nx : Hp → Prop, (∀ H', Nx H' → ∃ m', m' < m ∧ W (i + 1) m' H') ∧ ∀ x H', J.yld i H x H' → g x (wipe σ vs) H' fun σ2 H2 => wipe σ2 vs = wipe σ vs ∧ body σ2 H2 Nx) := by
  subst hσ
  refine ⟨fun i m H => m = n - i ∧ i ≤ n ∧ LcInv K V0 H0 D (F i) H, ⟨n, by simp, Nat.zero_le _, by rw [hF]; exact LcInv.start s0 hD⟩, ?_⟩
  rintro i m H ⟨rfl, hi, p⟩
  have sH : Same H0 H := by obtain ⟨_, _, x, _⟩ := p.ex; exact x.hh
  by_cases hlt : i < n
  · refine .inr ⟨wk.goes i H hlt (hG H sH), fun H' => LcInv K V0 H0 D (F (i + 1)) H', fun H' p' => ⟨n - (i + 1), by omega, rfl, hlt, p'⟩, fun x H' y => ?_⟩
    have y' := wk.yields i H x H' hlt (hG H sH) y
    obtain rfl := hY i H x H' y'
    exact hs i x H' hlt p y' _ fun _ h => h
  · have e : i = n := by omega
    subst e
    obtain ⟨U, xs, x, e1, e2, e3⟩ := p.done hD
    exact .inl ⟨wk.stops H (hG H sH), hd U H xs x e1 e2 e3⟩
theorem lc2_inner {J : It} {n : Nat} {G : Hp → Prop} {Y : Nat → Hp → V → Hp → Prop} (wk : Walk J n G Y) {K : PySem.W.Frag} {V0 H0 H4 : Hp} {D : Addr} {acc0 : List PyData} {g : TG} {tt : TT} {te : TE} {vs : List Nat} {σ : St} {Nx : Hp → Prop} (f : Nat → Option PyData) (σ0 : St) (hσ : wipe σ vs = σ0) (hD : H0 D = none)
    (inv : LcInv K V0 H0 D acc0 H4) (hn : acc0.length + n < 100000) (hG : ∀ H, Same H0 H → G H) (hY : ∀ i H x H', Y i H x H' → H' = H)
    (hs : ∀ i x V H, i < n → Ext V0 H0 V H → Y i H x H → ∀ (Qy : VK) (Qn : Hp → Prop), (∀ d y V' H', f i = some d → Ext V H V' H' → Dp K V' y d → Qy y H') → (f i = none → ∀ V' H', Ext V H V' H' → Qn H') →
      g x σ0 H fun σ2 H2 => wipe σ2 vs = σ0 ∧ tt σ2 H2 fun b H3 => if b = true then te σ2 H3 Qy else Qn H3)
    (hd : ∀ H, LcInv K V0 H0 D (acc0 ++ fm f n) H → Nx H) :
    ∃ W : Nat → Nat → Hp → Prop, (∃ m, W 0 m H4) ∧ ∀ i m H, W i m H →
      (J.stop i H ∧ Nx H) ∨ (J.go i H ∧ ∃ Nx1 : Hp → Prop, (∀ H', Nx1 H' → ∃ m', m' < m ∧ W (i + 1) m' H') ∧ ∀ x H', J.yld i H x H' → g x (wipe σ vs) H' fun σ2 H2 => wipe σ2 vs = wipe σ vs ∧ tt σ2 H2 fun b H3 =>
        if b = true then te σ2 H3 fun y H4 => ∃ acc, H4 D = some (.lst acc) ∧ acc.length < sizeLine ∧ Nx1 (upd H4 D (.lst (acc ++ [y]))) else Nx1 H3) := by
  subst hσ
  refine ⟨fun i m H => m = n - i ∧ i ≤ n ∧ LcInv K V0 H0 D (acc0 ++ fm f i) H, ⟨n, by simp, Nat.zero_le _, by rw [show fm f 0 = [] from rfl, List.append_nil]; exact inv⟩, ?_⟩
  rintro i m H ⟨rfl, hi, p⟩
  have sH : Same H0 H := by obtain ⟨_, _, x, _⟩ := p.ex; exact x.hh
  by_cases hlt : i < n
  · refine .inr ⟨wk.goes i H hlt (hG H sH), fun H' => LcInv K V0 H0 D (acc0 ++ fm f (i + 1)) H', fun H' p' => ⟨n - (i + 1), by omega, rfl, hlt, p'⟩, fun x H' y => ?_⟩
    have y' := wk.yields i H x H' hlt (hG H sH) y
    obtain rfl := hY i H x H' y'
    obtain ⟨V, xs, x0, hv, hdd, dp⟩ := p.ex
    refine hs i x V H' hlt x0 y' _ _ (fun d y' V' H4 e x2 dy => ?_) (fun e V' H4 x2 => ?_)
    · have hl : (acc0 ++ fm f i).length < 100000 := by have := fm_len f i; rw [List.length_append]; omega
      obtain ⟨acc', a1, a2, a3⟩ := LcInv.push hD x0 hv hdd dp x2 dy hl
      refine ⟨acc', a1, a2, ?_⟩
      rw [fm_succ, e, ← List.append_assoc]
      exact a3
    · have hv' : V' D = none := x2.keepOut hv (by rw [hdd]; exact fun z => by cases z)
      rw [fm_succ, e]
      show LcInv K V0 H0 D (acc0 ++ (fm f i ++ [])) H4
      rw [List.append_nil]
      exact ⟨V', xs, x0.trans x2, hv', x2.hh _ _ hdd, dp.to x2.vv⟩
  · have e : i = n := by omega
    subst e
    exact .inl ⟨wk.stops H (hG H sH), hd H p⟩
theorem fm_some {α : Type} (f : Nat → α) (n : Nat) : fm (fun i => some (f i)) n = (List.range n).map f := by
  induction n with
  | zero => rfl
  | succ n ih => rw [fm_succ, ih, List.range_succ, List.map_append]; rfl
theorem fl_take' {α : Type} {β : Type} (f : α → List β) : ∀ (xs : List α) (i : Nat) (x : α), xs[i]? = some x → (xs.take (i + 1)).flatMap f = (xs.take i).flatMap f ++ f x := by
  intro xs i x h
  obtain ⟨hi, e⟩ := List.getElem?_eq_some_iff.mp h
  rw [List.take_succ_eq_append_getElem hi, List.flatMap_append, e]
  show _ ++ (f x ++ []) = _
  rw [List.append_nil]
theorem fl_le' {α : Type} {β : Type} (f : α → List β) (xs : List α) (i : Nat) : ((xs.take i).flatMap f).length ≤ (xs.flatMap f).length := by
  have : xs.flatMap f = (xs.take i).flatMap f ++ (xs.drop i).flatMap f := by rw [← List.flatMap_append, List.take_append_drop]
  rw [this, List.length_append]; omega
/-! ### _law_cell, _law_row -/
def lawCell (ns : List Int) (k : Nat) : Int :=
  let c := if 0 < ns.length then ns.getD (k % ns.length) 0 else 0
  if c < 0 then 1 - 2 * c else c
theorem lawCell_nn (ns : List Int) (k : Nat) : 0 ≤ lawCell ns k := by
  unfold lawCell
  simp only
  split <;> omega
def lawOne (c : Int) (k : Nat) : Int := (c * 48271 + (k : Int) * 69621 + 12345) % 2147483647
def lawTwo (o : Int) (k : Nat) : Int := (o * o + 16807 * (k : Int) + 7) % 2147483629
def lawRow (ns : List Int) (k : Nat) : Int :=
  if k < ns.length ∧ 1000000000 ≤ lawCell ns k then lawCell ns k
  else (lawTwo (lawOne (lawCell ns k) k) k * lawTwo (lawOne (lawCell ns k) k) k + lawOne (lawCell ns k) k) % 4294967291 + 4294967296 * (lawOne (lawCell ns k) k + 1)
theorem lawOne_b (c : Int) (k : Nat) : 0 ≤ lawOne c k ∧ lawOne c k < 2147483647 := by unfold lawOne; omega
theorem lawTwo_b (c : Int) (k : Nat) : 0 ≤ lawTwo c k ∧ lawTwo c k < 2147483629 := by
  unfold lawTwo
  generalize c * c + 16807 * (k : Int) + 7 = x
  omega
theorem lawRow_nn (ns : List Int) (k : Nat) : 0 ≤ lawRow ns k := by
  unfold lawRow
  have h1 := lawOne_b (lawCell ns k) k
  split
  · exact lawCell_nn ns k
  · generalize lawTwo (lawOne (lawCell ns k) k) k * lawTwo (lawOne (lawCell ns k) k) k + lawOne (lawCell ns k) k = x
    omega
def sp__law_cell (K : PySem.W.Frag) : Sp := fun vs H Q _ => ∃ (a : Addr) (ns : List Int) (k : Nat), vs = [.ref a, .int (k : Int)] ∧ SqL K H a (ns.map V.int) ∧ Q (.int (lawCell ns k)) H
theorem sc__law_cell : FnScope ["script", "k", "cell"] ["script", "k"] (defScope s__law_cell) := ⟨rfl, rfl, rfl, by decide +kernel, rfl, by decide +kernel, by decide +kernel⟩
theorem ok__law_cell (T : Txt K mg A) : FnOk P w K mg base CX0 1 A.f_law_cell A.d_law_cell ["script", "k"] (sp__law_cell K) := by
  refine T.F_law_cell.ok sc__law_cell (fun vs H Q E h => ?_) (fun cdv Ar outer s H vs Q E hr h => ?_)
  · obtain ⟨a, ns, k, rfl, _⟩ := h
    rfl
  · obtain ⟨a, ns, k, rfl, hS, q⟩ := h
    refine ⟨_, (pss_cons (ps_set (i := 2) sc__law_cell.nd rfl (Or.inl rfl) pe_int)
      (pss_cons (ps_if (pt_cmpR op_gt (pe_callB call_len_seq (by rfl) T.len PySem.boot_len (pa_cons (pv 0) pa_nil)) pe_int (nomark _))
      (pss_one (ps_set (i := 2) sc__law_cell.nd rfl (Or.inl rfl) (pe_ix ix_list (pv 0) (pe_op op_mod (pe_callTy call_int1 (by rfl) T.int (by decide +kernel) (pa_cons (pv 1) pa_nil)) (pe_callB call_len_seq (by rfl) T.len PySem.boot_len (pa_cons (pv 0) pa_nil))) (fun _ _ => rfl))))
      pss_nil)
      (pss_cons (ps_if (pt_cmpR op_lt (pv 2) pe_int (nomark _))
      (pss_one (ps_set (i := 2) sc__law_cell.nd rfl (Or.inl rfl) (pe_op op_sub pe_int (pe_op op_mul pe_int (pv 2)))))
      pss_nil)
      (pss_one (ps_ret (pv 2)))))), ?_⟩
    have two : ∀ (c : Int), (if c < 0 then 1 - 2 * c else c) = lawCell ns k → tSeq (tIfS (tTest (tOp (rI0 fun i j => .bl (decide (i < j))) (tVar 2) (tC (.int 0)))) (tAsg (tOp (rI0 fun i j => .int (i - j)) (tC (.int 1)) (tOp (rI CMul fun i j => .int (i * j)) (tC (.int 2)) (tVar 2))) (gName 2)) tNext) (tRet (tVar 2))
        { nx := fun _ H' => Q .non H', rt := Q } [some (.ref a), some (.int (k : Int)), some (.int c)] H := by
      intro c hc
      walk_at "rd"
      refine iteP (fun h => ?_) (fun h => ?_)
      · rw [if_pos h] at hc
        walk_at "rd"
        rw [← hc] at q; exact q
      · rw [if_neg h] at hc
        walk_at "rd"
        rw [← hc] at q; exact q
    refine ⟨.ref a, rfl, a, _, rfl, .inl hS, _, _, rfl, rfl, _, rfl, iteP (fun h => ?_) (fun h => ?_)⟩
    · have h0 : 0 < ns.length := by rw [List.length_map] at h; omega
      refine ⟨_, rfl, _, rfl, Or.inl ⟨_, rfl, ?_⟩⟩
      refine ⟨_, rfl, a, _, rfl, .inl hS, _, _, rfl, rfl, by show (0 : Int) < _; omega, a, _, _, .int (ns.getD (k % ns.length) 0), rfl, rfl, hS, ?_, ?_⟩
      · refine at_of (j := k % ns.length) ?_ ?_
        · rw [List.length_map]; exact (Int.natCast_emod _ _).symm
        · rw [List.getElem?_map, List.getElem?_eq_getElem (Nat.mod_lt _ h0), List.getD_eq_getElem?_getD, List.getElem?_eq_getElem (Nat.mod_lt _ h0)]; rfl
      · refine two _ ?_
        unfold lawCell; rw [if_pos h0]
    · have h0 : ¬ 0 < ns.length := by rw [List.length_map] at h; omega
      refine two _ ?_
      unfold lawCell; rw [if_neg h0]
def sp__law_row (K : PySem.W.Frag) : Sp := fun vs H Q _ => ∃ (a : Addr) (ns : List Int) (k : Nat), vs = [.ref a, .int (k : Int)] ∧ SqL K H a (ns.map V.int) ∧ Q (.int (lawRow ns k)) H
theorem sc__law_row : FnScope ["script", "k", "cell", "one", "two"] ["script", "k"] (defScope s__law_row) := ⟨rfl, rfl, rfl, by decide +kernel, rfl, by decide +kernel, by decide +kernel⟩
theorem ok__law_row (T : Txt K mg A) : FnOk P w K mg base CX0 2 A.f_law_row A.d_law_row ["script", "k"] (sp__law_row K) := by
  refine T.F_law_row.ok sc__law_row (fun vs H Q E h => ?_) (fun cdv Ar outer s H vs Q E hr h => ?_)
  · obtain ⟨a, ns, k, rfl, _⟩ := h
    rfl
  · obtain ⟨a, ns, k, rfl, hS, q⟩ := h
    refine ⟨_, (pss_cons (ps_set (i := 2) sc__law_row.nd rfl (Or.inl rfl) (pe_call (ok__law_cell T) (hr.mono (by decide)) rfl T.g_law_cell T.k_law_cell T.b_law_cell .nil pass0 (pa_cons (pv 0) (pa_cons (pv 1) pa_nil))))
      (pss_cons (ps_if (PW.pt (pw_and (pt_cmpR op_lt (pv 1) (pe_callB call_len_seq (by rfl) T.len PySem.boot_len (pa_cons (pv 0) pa_nil)) (nomark _)) (pw_and1 (pt_cmpR op_ge (pv 2) pe_int (nomark _)))))
      (pss_one (ps_ret (pv 2)))
      pss_nil)
      (pss_cons (ps_set (i := 3) sc__law_row.nd rfl (Or.inl rfl) (pe_op op_mod (pe_callTy call_int1 (by rfl) T.int (by decide +kernel) (pa_cons (pe_op op_add (pe_op op_add (pe_op op_mul (pv 2) pe_int) (pe_op op_mul (pv 1) pe_int)) pe_int) pa_nil)) pe_int))
      (pss_cons (ps_set (i := 4) sc__law_row.nd rfl (Or.inl rfl) (pe_op op_mod (pe_callTy call_int1 (by rfl) T.int (by decide +kernel) (pa_cons (pe_op op_add (pe_op op_add (pe_op op_mul (pv 3) (pv 3)) (pe_op op_mul pe_int (pv 1))) pe_int) pa_nil)) pe_int))
      (pss_one (ps_ret (pe_op op_add (pe_op op_mod (pe_callTy call_int1 (by rfl) T.int (by decide +kernel) (pa_cons (pe_op op_add (pe_op op_mul (pv 4) (pv 4)) (pv 3)) pa_nil)) pe_int) (pe_op op_mul pe_int (pe_op op_add (pv 3) pe_int))))))))), ?_⟩
    have b1 := lawOne_b (lawCell ns k) k
    have b2 := lawTwo_b (lawOne (lawCell ns k) k) k
    have m1 : CMul (lawOne (lawCell ns k) k) (lawOne (lawCell ns k) k) := Or.inl ⟨by omega, by omega⟩
    have m2 : CMul (lawTwo (lawOne (lawCell ns k) k) k) (lawTwo (lawOne (lawCell ns k) k) k) := Or.inl ⟨by omega, by omega⟩
    refine ⟨_, rfl, _, rfl, a, ns, k, rfl, hS, ?_⟩
    refine ⟨_, rfl, _, rfl, a, _, rfl, .inl hS, _, _, rfl, rfl, _, rfl, ?_⟩
    refine iteP (fun h => ?_) (fun h => ?_)
    · refine ⟨_, rfl, _, _, rfl, rfl, _, rfl, iteP (fun h2 => ?_) (fun h2 => ?_)⟩
      · have e : lawRow ns k = lawCell ns k := by unfold lawRow; rw [if_pos ⟨by rw [List.length_map] at h; omega, h2⟩]
        rw [e] at q
        exact ⟨_, rfl, q⟩
      · unfold lawRow at q
        rw [if_neg fun z => h2 z.2] at q
        walk_at "rd"
        refine ⟨m1, ?_⟩
        walk_at "rd"
        refine ⟨m2, ?_⟩
        walk_at "rd"
        exact q
    · unfold lawRow at q
      rw [if_neg fun z => h (by rw [List.length_map]; omega)] at q
      walk_at "rd"
      refine ⟨m1, ?_⟩
      walk_at "rd"
      refine ⟨m2, ?_⟩
      walk_at "rd"
      exact q
/-! ### a word that goes on by itself -/
theorem iteVP {p A B : Prop} [Decidable p] (h1 : p → A) (h2 : ¬ p → B) : if p then A else B := by
  by_cases h : p
  · rw [if_pos h]; exact h1 h
  · rw [if_neg h]; exact h2 h
/-- a new tuple is handed back -/
def RetT (H : Hp) (Q : VK) (xs : List V) : Prop := ∀ p H', Same H H' → H' p = some (.tup xs) → Q (.ref p) H'
theorem RetT.go {H : Hp} {Q : VK} {xs : List V} (h : ∀ p H', Same H H' → H' p = some (.tup xs) → Q (.ref p) H') : RetT H Q xs := h
theorem ne_self {d e : PyData} {A B : Prop} (hs : SeqAt.shaped d = true) (h : d = e) (hB : B) : if (!PyData.eqv d e) = true then A else B := by
  subst h
  have h2 : (d.canLay0 && decide (d.depth ≤ 64)) = true := hs
  have : PyData.eqv d d = true := SeqAt.eqv_refl d (by rw [Bool.and_eq_true] at h2; exact h2.1)
  rw [this]
  exact iteF hB
theorem eq_self {d e : PyData} {A B : Prop} (hs : SeqAt.shaped d = true) (h : d = e) (hA : A) : if PyData.eqv d e = true then A else B := by
  subst h
  have h2 : (d.canLay0 && decide (d.depth ≤ 64)) = true := hs
  have : PyData.eqv d d = true := SeqAt.eqv_refl d (by rw [Bool.and_eq_true] at h2; exact h2.1)
  rw [this]
  exact iteT hA
theorem t_ne {K : PySem.W.Frag} {x y : V} {H : Hp} {Q : VK} {d e : PyData} (h1 : Dp K H x d) (h2 : Dp K H y e) (s1 : SeqAt.shaped d = true) (s2 : SeqAt.shaped e = true) (q : Q (.bl (!PyData.eqv d e)) H) : rNeD K x y H Q := ⟨d, e, h1, h2, s1, s2, q⟩
theorem t_eq {K : PySem.W.Frag} {x y : V} {H : Hp} {Q : VK} {d e : PyData} (h1 : Dp K H x d) (h2 : Dp K H y e) (s1 : SeqAt.shaped d = true) (s2 : SeqAt.shaped e = true) (q : Q (.bl (PyData.eqv d e)) H) : rEqD K x y H Q := ⟨d, e, h1, h2, s1, s2, q⟩
/-! words that go on by themselves -/
local macro_rules | `(tactic| walk_at "sq") => `(tactic| first
  | exact SqT.of upd_same
  | exact SqL.of upd_same
  | assumption
  | exact SqT.of (by assumption)
  | exact SqL.of (by assumption)
  | (apply Same.sqt (same_upd (by assumption)); walk_at "sq")
  | (apply Same.seq (same_upd (by assumption)); walk_at "sq")
  | (apply Same.sqt (by assumption); walk_at "sq")
  | (apply Same.seq (by assumption); walk_at "sq"))
local macro_rules | `(tactic| walk_at "sm") => `(tactic| first
  | exact Same.refl _
  | assumption
  | (apply Same.trans _ (same_upd (by assumption)); walk_at "sm")
  | (apply Same.trans _ (by assumption); walk_at "sm"))
local macro_rules | `(tactic| walk_at "at") => `(tactic| first
  | exact atI_nat (j := 0) rfl
  | exact atI_nat (j := 1) rfl
  | exact atI_nat (j := 2) rfl
  | exact atI_nat (j := 3) rfl
  | exact atI_nat (j := 4) rfl
  | exact atI_nat (j := 5) rfl)
local macro_rules | `(tactic| walk_at "go1") => `(tactic| first
  | refine ⟨_, rfl, ?_⟩
  | refine ⟨_, _, rfl, rfl, ?_⟩
  | refine ⟨rfl, ?_⟩
  | refine Or.inl ⟨_, rfl, ?_⟩
  | refine ⟨(by show (0 : Int) < _; decide), ?_⟩
  | refine ⟨(⟨by decide, by decide⟩ : CDiv _ _), ?_⟩
  | refine ⟨(Or.inl ⟨by decide, by decide⟩ : CMul _ _), ?_⟩
  | refine ⟨(Or.inr ⟨by decide, by decide⟩ : CMul _ _), ?_⟩
  | refine ⟨_, _, rfl, ?_⟩
  | refine ⟨_, _, _, rfl, ?_⟩
  | refine ⟨_, _, _, _, rfl, ?_⟩
  | (refine And.intro (a := (0 : Int) ≤ _) ?_ ?_; focus omega)
  | (refine And.intro (a := _ ≤ sizeLine) ?_ (fun p hp => ?_); (focus (exact len_line (Nat.le_of_ble_eq_true rfl))))
  | refine RetT.go (fun p H' s e => ?_)
  | refine if_t rfl ?_
  | refine if_f rfl ?_
  | refine ⟨_, _, rfl, (by walk_at "sq"), rfl, ?_⟩
  | refine ⟨_, _, rfl, Or.inl (by walk_at "sq"), ?_⟩
  | refine ⟨_, _, rfl, Or.inr (by walk_at "sq"), ?_⟩
  | refine ⟨_, _, _, _, rfl, rfl, (by walk_at "sq"), (by walk_at "at"), ?_⟩
  | refine ⟨_, _, rfl, (by walk_at "sq"), (by show ¬(HT.sIx 4 0 (some 2) = 0 ∧ HT.sIx 4 4 none = 4); decide), fun p hp => ?_⟩
  | refine ⟨_, _, _, _, rfl, rfl, (by walk_at "sq"), (by walk_at "sq"), (by intro h; cases h), len_line (Nat.le_of_ble_eq_true rfl), (fun h => by cases h), fun _ p hp => ?_⟩)
local macro_rules | `(tactic| walk_at "go") => `(tactic| repeat walk_at "go1")
local macro_rules | `(tactic| walk_at "dps") => `(tactic| first
  | exact DpAll.nil
  | (apply DpAll.cons; (focus (walk_at "dp")); (focus (walk_at "dps"))))
local macro_rules | `(tactic| walk_at "dp") => `(tactic| first
  | exact Dp.int _
  | exact Dp.bl _
  | exact Dp.str _
  | exact Dp.non
  | (apply Dp.tup; (focus (walk_at "sq")); (focus (walk_at "dps")))
  | (apply Dp.lst; (focus (walk_at "sq")); (focus (walk_at "dps"))))
local macro_rules | `(tactic| walk_at "sh") => `(tactic| (show (PyData.canLay0 _ && decide (PyData.depth _ ≤ 64)) = true; simp [PyData.canLay0, PyData.canLayAll0, PyData.depth, PyData.depthAll]))
/-- a deep comparison: what is left is the if -/
local macro_rules | `(tactic| walk_at "ne") => `(tactic| (apply t_ne; (focus (walk_at "dp")); (focus (walk_at "dp")); (focus (walk_at "sh")); (focus (walk_at "sh")); refine ⟨_, rfl, ?_⟩))
local macro_rules | `(tactic| walk_at "neS") => `(tactic| (walk_at "ne"; refine ne_self ?_ ?_ ?_; (focus (walk_at "sh"))))
/-! ### colours -/
def chan (c : Int) (s : Nat) : Int := c / 2 ^ s % 256
def sh4 (i : Nat) : Nat := 24 - 8 * i
def mixI (c b : Int) : Nat → Int
  | 0 => 0
  | i + 1 => mixI c b i * 256 + (if 255 < chan c (sh4 i) + (chan b (sh4 i) * (255 - c / 2 ^ 24) + 127) / 255 then 255 else chan c (sh4 i) + (chan b (sh4 i) * (255 - c / 2 ^ 24) + 127) / 255)
def overI (c b : Int) : Int := mixI c b 4
theorem bitA255 {x : Int} (h : 0 ≤ x) : Builtin.bitAnd x 255 = x % 256 := Bits.bitAnd_mask 8 h
theorem chan_and {c : Int} (h : 0 ≤ c) (s : Nat) : Builtin.bitAnd (c / 2 ^ s) 255 = chan c s := bitA255 (Int.ediv_nonneg h (Int.le_of_lt (Int.pow_pos (by decide))))
theorem chan_b (c : Int) (s : Nat) : 0 ≤ chan c s ∧ chan c s < 256 := by
  unfold chan
  generalize c / 2 ^ s = x
  omega
def dueP (c b : Int) (i : Nat) : Int := (fun x : Int => if x < 255 then x else 255) (chan c (sh4 i) + (chan b (sh4 i) * (255 - c / 16777216) + 127) / 255)
theorem over_parts (c b : Int) (hc : 0 ≤ c) (hc2 : c < 4294967296) (hb : 0 ≤ b) :
    (overI c b / 16777216 % 256 = dueP c b 0) ∧ (overI c b / 65536 % 256 = dueP c b 1) ∧ (overI c b / 256 % 256 = dueP c b 2) ∧ (overI c b / 1 % 256 = dueP c b 3) ∧ overI c b < 4294967296 := by
  have g : ∀ i, 0 ≤ dueP c b i ∧ dueP c b i ≤ 255 ∧ mixI c b (i + 1) = mixI c b i * 256 + dueP c b i := by
    intro i
    have h1 := chan_b c (sh4 i)
    have h2 := chan_b b (sh4 i)
    have h3 : 0 ≤ chan b (sh4 i) * (255 - c / 16777216) := Int.mul_nonneg h2.1 (by omega)
    have e : (2 : Int) ^ 24 = 16777216 := by decide
    have hm : mixI c b (i + 1) = mixI c b i * 256 + (if 255 < chan c (sh4 i) + (chan b (sh4 i) * (255 - c / 16777216) + 127) / 255 then 255 else chan c (sh4 i) + (chan b (sh4 i) * (255 - c / 16777216) + 127) / 255) := by rw [← e]; rfl
    rw [hm]
    unfold dueP
    dsimp only
    generalize chan b (sh4 i) * (255 - c / 16777216) = y at h3
    generalize chan c (sh4 i) = x at h1
    refine ⟨?_, ?_, ?_⟩
    · split <;> omega
    · split <;> omega
    · split <;> split <;> omega
  have g0 := g 0; have g1 := g 1; have g2 := g 2; have g3 := g 3
  have m0 : mixI c b 0 = 0 := rfl
  have e4 : overI c b = mixI c b 4 := rfl
  simp only [Nat.zero_add, Nat.reduceAdd] at g0 g1 g2 g3
  rw [e4]
  omega
theorem over_place (c b : Int) (hc : 0 ≤ c) (hc2 : c < 4294967296) (hb : 0 ≤ b) {P : Int} (hP : P = 16777216 ∨ P = 65536 ∨ P = 256 ∨ P = 1) :
    overI c b / P % 256 = if c / P % 256 + (b / P % 256 * (255 - c / 16777216) + 127) / 255 < 255 then c / P % 256 + (b / P % 256 * (255 - c / 16777216) + 127) / 255 else 255 := by
  obtain ⟨h0, h1, h2, h3, _⟩ := over_parts c b hc hc2 hb
  have e1 : (2 : Int) ^ 24 = 16777216 := by decide
  have e2 : (2 : Int) ^ 16 = 65536 := by decide
  have e3 : (2 : Int) ^ 8 = 256 := by decide
  have e4 : (2 : Int) ^ 0 = 1 := by decide
  rcases hP with rfl | rfl | rfl | rfl
  · rw [h0, ← e1]; rfl
  · rw [h1, ← e2]; rfl
  · rw [h2, ← e3]; rfl
  · rw [h3, ← e4]; rfl
theorem chan_sum (b : Int) (hb : 0 ≤ b) (hb2 : b < 4294967296) : ((chan b 24 * 256 + chan b 16) * 256 + chan b 8) * 256 + chan b 0 = b := by
  unfold chan
  have e1 : (2 : Int) ^ 24 = 16777216 := by decide
  have e2 : (2 : Int) ^ 16 = 65536 := by decide
  have e3 : (2 : Int) ^ 8 = 256 := by decide
  have e4 : (2 : Int) ^ 0 = 1 := by decide
  rw [e1, e2, e3, e4]
  omega
theorem over_clear (b : Int) (hb : 0 ≤ b) (hb2 : b < 4294967296) : overI 0 b = b := by
  have g : ∀ i, mixI 0 b (i + 1) = mixI 0 b i * 256 + chan b (sh4 i) := by
    intro i
    have h2 := chan_b b (sh4 i)
    have z : chan 0 (sh4 i) = 0 := by unfold chan; rw [Int.zero_ediv]; rfl
    have z2 : (0 : Int) / 2 ^ 24 = 0 := by decide
    show mixI 0 b i * 256 + _ = _
    rw [z, z2]
    split <;> omega
  have c := chan_sum b hb hb2
  have g0 := g 0; have g1 := g 1; have g2 := g 2; have g3 := g 3
  have m0 : mixI 0 b 0 = 0 := rfl
  simp only [Nat.zero_add, Nat.reduceAdd] at g0 g1 g2 g3
  show mixI 0 b 4 = b
  rw [g3, g2, g1, g0, m0]
  show (((0 * 256 + chan b 24) * 256 + chan b 16) * 256 + chan b 8) * 256 + chan b 0 = b
  omega
theorem over_opaque (c b : Int) (hc : 0 ≤ c) (hc2 : c < 4294967296) (ho : c / 16777216 = 255) : overI c b = c := by
  have e : (2 : Int) ^ 24 = 16777216 := by decide
  have g : ∀ i, mixI c b (i + 1) = mixI c b i * 256 + chan c (sh4 i) := by
    intro i
    have h2 := chan_b c (sh4 i)
    show mixI c b i * 256 + _ = _
    rw [e, ho]
    have z : chan b (sh4 i) * (255 - 255) = 0 := by omega
    rw [z]
    split <;> omega
  have s := chan_sum c hc hc2
  have g0 := g 0; have g1 := g 1; have g2 := g 2; have g3 := g 3
  have m0 : mixI c b 0 = 0 := rfl
  simp only [Nat.zero_add, Nat.reduceAdd] at g0 g1 g2 g3
  show mixI c b 4 = c
  rw [g3, g2, g1, g0, m0]
  show (((0 * 256 + chan c 24) * 256 + chan c 16) * 256 + chan c 8) * 256 + chan c 0 = c
  omega
def sp_over (K : PySem.W.Frag) : Sp := fun vs H Q _ => ∃ c b : Int, vs = [.int c, .int b] ∧ 0 ≤ c ∧ c < 4294967296 ∧ 0 ≤ b ∧ b < 4294967296 ∧ Q (.int (overI c b)) H
theorem or4 {o r g b : Int} (ho : 0 ≤ o) (hr : 0 ≤ r ∧ r < 256) (hg : 0 ≤ g ∧ g < 256) (hb : 0 ≤ b ∧ b < 256) :
    Builtin.bitOr (Builtin.bitOr (Builtin.bitOr (o * 2 ^ 24) (r * 2 ^ 16)) (g * 2 ^ 8)) b = ((o * 256 + r) * 256 + g) * 256 + b := by
  have e1 : (2 : Int) ^ 24 = 16777216 := by decide
  have e2 : (2 : Int) ^ 16 = 65536 := by decide
  have e3 : (2 : Int) ^ 8 = 256 := by decide
  rw [or_low (k := 24) ho (by omega) (by omega)]
  rw [show o * 2 ^ 24 + r * 2 ^ 16 = (o * 256 + r) * 2 ^ 16 from by omega]
  rw [or_low (k := 16) (by omega) (by omega) (by omega)]
  rw [show (o * 256 + r) * 2 ^ 16 + g * 2 ^ 8 = ((o * 256 + r) * 256 + g) * 2 ^ 8 from by omega]
  rw [or_low (k := 8) (by omega) (by omega) (by omega), e3]
theorem sc_over : FnScope ["colour", "below", "opacity", "open_part", "red", "green", "blue"] ["colour", "below"] (defScope s_over) := ⟨rfl, rfl, rfl, by decide +kernel, rfl, by decide +kernel, by decide +kernel⟩
theorem ok_over (T : Txt K mg A) : FnOk P w K mg base CX0 1 A.fover A.dover ["colour", "below"] (sp_over K) := by
  refine T.Fover.ok sc_over (fun vs H Q E h => ?_) (fun cdv Ar outer s H vs Q E hr h => ?_)
  · obtain ⟨c, b, rfl, _⟩ := h
    rfl
  · obtain ⟨c, b, rfl, hc, hc2, hb, hb2, q⟩ := h
    refine ⟨_, (pss_cons (ps_if (pt_cmpR op_ge (pv 0) (pe_glob (v := .int (4278190080)) rfl T.gOPAQUE ⟨_, rfl⟩) (nomark _))
      (pss_one (ps_ret (pv 0)))
      pss_nil)
      (pss_cons (ps_if (pt_cmpR op_eq (pv 0) (pe_glob (v := .int (0)) rfl T.gCLEAR ⟨_, rfl⟩) (nomark _))
      (pss_one (ps_ret (pv 1)))
      pss_nil)
      (pss_cons (ps_set (i := 2) sc_over.nd rfl (Or.inl rfl) (pe_op op_shr (pv 0) pe_int))
      (pss_cons (ps_set (i := 3) sc_over.nd rfl (Or.inl rfl) (pe_op op_sub pe_int (pv 2)))
      (pss_cons (ps_aug (i := 2) sc_over.nd rfl (Or.inl rfl) (pe_op op_fdiv (pe_op op_add (pe_op op_mul (pe_op op_shr (pv 1) pe_int) (pv 3)) pe_int) pe_int) ip_add)
      (pss_cons (ps_set (i := 4) sc_over.nd rfl (Or.inl rfl) (pe_op op_add (pe_op op_and (pe_op op_shr (pv 0) pe_int) pe_int) (pe_op op_fdiv (pe_op op_add (pe_op op_mul (pe_op op_and (pe_op op_shr (pv 1) pe_int) pe_int) (pv 3)) pe_int) pe_int)))
      (pss_cons (ps_set (i := 5) sc_over.nd rfl (Or.inl rfl) (pe_op op_add (pe_op op_and (pe_op op_shr (pv 0) pe_int) pe_int) (pe_op op_fdiv (pe_op op_add (pe_op op_mul (pe_op op_and (pe_op op_shr (pv 1) pe_int) pe_int) (pv 3)) pe_int) pe_int)))
      (pss_cons (ps_set (i := 6) sc_over.nd rfl (Or.inl rfl) (pe_op op_add (pe_op op_and (pv 0) pe_int) (pe_op op_fdiv (pe_op op_add (pe_op op_mul (pe_op op_and (pv 1) pe_int) (pv 3)) pe_int) pe_int)))
      (C8.pss_cut (ps_if (pt_cmpR op_gt (pv 4) pe_int (nomark _))
      (pss_one (ps_set (i := 4) sc_over.nd rfl (Or.inl rfl) pe_int))
      pss_nil)
      (C8.pss_cut (ps_if (pt_cmpR op_gt (pv 5) pe_int (nomark _))
      (pss_one (ps_set (i := 5) sc_over.nd rfl (Or.inl rfl) pe_int))
      pss_nil)
      (C8.pss_cut (ps_if (pt_cmpR op_gt (pv 6) pe_int (nomark _))
      (pss_one (ps_set (i := 6) sc_over.nd rfl (Or.inl rfl) pe_int))
      pss_nil)
      (pss_one (ps_ret (pe_op op_or (pe_op op_or (pe_op op_or (pe_op op_shl (pv 2) pe_int) (pe_op op_shl (pv 4) pe_int)) (pe_op op_shl (pv 5) pe_int)) (pv 6))))))))))))))), ?_⟩
    walk_at "go"
    refine iteP (fun k => ?_) (fun k => ?_)
    · walk_at "go"
      rw [over_opaque c b hc hc2 (by omega)] at q
      exact q
    walk_at "go"
    refine iteEq (fun k2 => ?_) (fun k2 => ?_)
    · subst k2
      walk_at "go"
      rw [over_clear b hb hb2] at q
      exact q
    walk_at "go"
    have oc : c / 2 ^ 24 ≤ 255 ∧ 0 ≤ c / 2 ^ 24 := by omega
    have oc' : c / 2 ^ Int.toNat 24 ≤ 255 ∧ 0 ≤ c / 2 ^ Int.toNat 24 := oc
    refine ⟨(Or.inr ⟨by omega, by omega⟩ : CMul _ _), ?_⟩
    walk_at "go"
    refine ⟨(Or.inr ⟨by omega, by omega⟩ : CMul _ _), ?_⟩
    walk_at "go"
    refine ⟨(Or.inr ⟨by omega, by omega⟩ : CMul _ _), ?_⟩
    walk_at "go"
    refine ⟨(Or.inr ⟨by omega, by omega⟩ : CMul _ _), ?_⟩
    walk_at "go"
    have eo : c / 2 ^ Int.toNat 24 = c / 2 ^ 24 := rfl
    have sum : ∀ s : Nat, ∃ z, z = chan c s + (chan b s * (255 - c / 2 ^ 24) + 127) / 255 ∧ 0 ≤ z := fun s => ⟨_, rfl, by
      have h1 := chan_b c s
      have h2 := chan_b b s
      have h3 : 0 ≤ chan b s * (255 - c / 2 ^ 24) := Int.mul_nonneg h2.1 (by omega)
      omega⟩
    obtain ⟨r, hr0, hr1⟩ := sum 16
    obtain ⟨g, hg0, hg1⟩ := sum 8
    obtain ⟨l, hl0, hl1⟩ := sum 0
    have er : Builtin.bitAnd (c / 2 ^ Int.toNat 16) 255 + (Builtin.bitAnd (b / 2 ^ Int.toNat 16) 255 * (255 - c / 2 ^ Int.toNat 24) + 127) / 255 = r := by
      rw [hr0, show Builtin.bitAnd (c / 2 ^ Int.toNat 16) 255 = chan c 16 from chan_and hc 16, show Builtin.bitAnd (b / 2 ^ Int.toNat 16) 255 = chan b 16 from chan_and hb 16]; rfl
    have eg : Builtin.bitAnd (c / 2 ^ Int.toNat 8) 255 + (Builtin.bitAnd (b / 2 ^ Int.toNat 8) 255 * (255 - c / 2 ^ Int.toNat 24) + 127) / 255 = g := by
      rw [hg0, show Builtin.bitAnd (c / 2 ^ Int.toNat 8) 255 = chan c 8 from chan_and hc 8, show Builtin.bitAnd (b / 2 ^ Int.toNat 8) 255 = chan b 8 from chan_and hb 8]; rfl
    have c0 : ∀ {x : Int}, 0 ≤ x → Builtin.bitAnd x 255 = chan x 0 := fun {x} hx => by
      have := chan_and hx 0
      rwa [Int.pow_zero, Int.ediv_one] at this
    have el : Builtin.bitAnd c 255 + (Builtin.bitAnd b 255 * (255 - c / 2 ^ Int.toNat 24) + 127) / 255 = l := by
      rw [hl0, c0 hc, c0 hb]; rfl
    have eoh : ∃ z, z = c / 2 ^ 24 + (b / 2 ^ 24 * (255 - c / 2 ^ 24) + 127) / 255 := ⟨_, rfl⟩
    obtain ⟨o, ho⟩ := eoh
    have ho1 : 0 ≤ b / 2 ^ 24 ∧ b / 2 ^ 24 ≤ 255 := by omega
    have ho2 : o = (if 255 < chan c 24 + (chan b 24 * (255 - c / 2 ^ 24) + 127) / 255 then 255 else chan c 24 + (chan b 24 * (255 - c / 2 ^ 24) + 127) / 255) ∧ 0 ≤ o := by
      have ec : chan c 24 = c / 2 ^ 24 := by unfold chan; omega
      have eb : chan b 24 = b / 2 ^ 24 := by unfold chan; omega
      rw [ec, eb, ho]
      have hm : b / 2 ^ 24 * (255 - c / 2 ^ 24) ≤ 255 * (255 - c / 2 ^ 24) := Int.mul_le_mul_of_nonneg_right ho1.2 (by omega)
      have hm0 : 0 ≤ b / 2 ^ 24 * (255 - c / 2 ^ 24) := Int.mul_nonneg ho1.1 (by omega)
      generalize b / 2 ^ 24 * (255 - c / 2 ^ 24) = m at hm hm0
      generalize c / 2 ^ 24 = k at hm oc
      refine ⟨?_, by omega⟩
      rw [if_neg (by omega)]
    have fin : overI c b = ((o * 256 + (if 255 < r then 255 else r)) * 256 + (if 255 < g then 255 else g)) * 256 + (if 255 < l then 255 else l) := by
      rw [ho2.1, hr0, hg0, hl0]
      show mixI c b 4 = _
      show (((0 * 256 + _) * 256 + _) * 256 + _) * 256 + _ = _
      rw [Int.zero_mul, Int.zero_add]; rfl
    refine ⟨fun σ' H' => σ' = [some (.int c), some (.int b), some (.int o), some (.int (255 - c / 2 ^ 24)), some (.int (if 255 < r then 255 else r)), some (.int g), some (.int l)] ∧ H' = H, ?_, ?_⟩
    · walk_at "go"
      refine iteP (fun h => ?_) (fun h => ?_)
      · refine ⟨?_, rfl⟩
        rw [if_pos (by rw [← er]; exact h), ho, ← eg, ← el]; rfl
      · refine ⟨?_, rfl⟩
        rw [if_neg (by rw [← er]; exact h), ← eg, ← el, ← er, ho]; rfl
    rintro σ' H' ⟨rfl, rfl⟩
    refine ⟨fun σ' H'' => σ' = [some (.int c), some (.int b), some (.int o), some (.int (255 - c / 2 ^ 24)), some (.int (if 255 < r then 255 else r)), some (.int (if 255 < g then 255 else g)), some (.int l)] ∧ H'' = H', ?_, ?_⟩
    · walk_at "go"
      refine iteP (fun h => ?_) (fun h => ?_)
      · exact ⟨by rw [if_pos (show 255 < g from h)]; rfl, rfl⟩
      · exact ⟨by rw [if_neg (show ¬ 255 < g from h)], rfl⟩
    rintro σ' H'' ⟨rfl, rfl⟩
    refine ⟨fun σ' H' => σ' = [some (.int c), some (.int b), some (.int o), some (.int (255 - c / 2 ^ 24)), some (.int (if 255 < r then 255 else r)), some (.int (if 255 < g then 255 else g)), some (.int (if 255 < l then 255 else l))] ∧ H' = H'', ?_, ?_⟩
    · walk_at "go"
      refine iteP (fun h => ?_) (fun h => ?_)
      · exact ⟨by rw [if_pos (show 255 < l from h)]; rfl, rfl⟩
      · exact ⟨by rw [if_neg (show ¬ 255 < l from h)], rfl⟩
    rintro σ' H' ⟨rfl, rfl⟩
    rw [fin] at q
    have b8 : ∀ x : Int, 0 ≤ x → 0 ≤ (if 255 < x then 255 else x) ∧ (if 255 < x then 255 else x) < 256 := fun x hx => by split <;> omega
    have hr2 := b8 r hr1
    have hg2 := b8 g hg1
    have hl2 := b8 l hl1
    generalize (if 255 < r then 255 else r) = r' at hr2 q ⊢
    generalize (if 255 < g then 255 else g) = g' at hg2 q ⊢
    generalize (if 255 < l then 255 else l) = l' at hl2 q ⊢
    rw [← or4 ho2.2 hr2 hg2 hl2] at q
    have op : o < 256 := by
      rw [ho2.1]
      split <;> omega
    walk_at "go"
    refine ⟨⟨by decide, by decide, by omega⟩, ?_⟩
    walk_at "go"
    refine ⟨⟨by decide, by decide, by omega⟩, ?_⟩
    walk_at "go"
    refine ⟨⟨by decide, by decide, by omega⟩, ?_⟩
    walk_at "go"
    exact q
def sp_slot_colour (K : PySem.W.Frag) : Sp := fun vs H Q _ => ∃ i : Nat, i < 4 ∧ vs = [.int (i : Int)] ∧ Q (.int ([4291312700, 4282158140, 4282145480, 4290019870].getD i 0)) H
theorem sc_slot_colour : FnScope ["slot"] ["slot"] (defScope s_slot_colour) := ⟨rfl, rfl, rfl, by decide +kernel, rfl, by decide +kernel, by decide +kernel⟩
theorem ok_slot_colour (T : Txt K mg A) : FnOk P w K mg base CX0 1 A.fslot_colour A.dslot_colour ["slot"] (sp_slot_colour K) := by
  refine T.Fslot_colour.ok sc_slot_colour (fun vs H Q E h => ?_) (fun cdv Ar outer s H vs Q E hr h => ?_)
  · obtain ⟨i, _, rfl, _⟩ := h
    rfl
  · obtain ⟨i, hi, rfl, q⟩ := h
    refine ⟨_, (pss_one (ps_ret (pe_ix (r := rIxT K) ix_tup (pe_glob (v := .ref A.a_SLOT_COLOURS) rfl T.g_SLOT_COLOURS rfl) (pv 0) (fun _ _ => rfl)))), ?_⟩
    rcases (by omega : i = 0 ∨ i = 1 ∨ i = 2 ∨ i = 3) with rfl | rfl | rfl | rfl
    all_goals
      refine ⟨_, rfl, _, _, _, _, rfl, rfl, T.w_SLOT_COLOURS H, (by walk_at "at"), ?_⟩
      exact q
def lawColour (row : Int) : Int := ([255, 0, 128, 255, 77, 1, 254, row / 8 % 256] : List Int).getD (row % 8).toNat 0 * 16777216 + row / 2048 % 16777216
theorem lawColour_b (row : Int) : 0 ≤ lawColour row ∧ lawColour row < 4294967296 := by
  have h : ∀ i : Nat, 0 ≤ ([255, 0, 128, 255, 77, 1, 254, row / 8 % 256] : List Int).getD i 0 ∧ ([255, 0, 128, 255, 77, 1, 254, row / 8 % 256] : List Int).getD i 0 ≤ 255 := by
    intro i
    match i with
    | 0 => show (0 : Int) ≤ 255 ∧ (255 : Int) ≤ 255; decide
    | 1 => show (0 : Int) ≤ 0 ∧ (0 : Int) ≤ 255; decide
    | 2 => show (0 : Int) ≤ 128 ∧ (128 : Int) ≤ 255; decide
    | 3 => show (0 : Int) ≤ 255 ∧ (255 : Int) ≤ 255; decide
    | 4 => show (0 : Int) ≤ 77 ∧ (77 : Int) ≤ 255; decide
    | 5 => show (0 : Int) ≤ 1 ∧ (1 : Int) ≤ 255; decide
    | 6 => show (0 : Int) ≤ 254 ∧ (254 : Int) ≤ 255; decide
    | 7 => show 0 ≤ row / 8 % 256 ∧ row / 8 % 256 ≤ 255; omega
    | i + 8 => show (0 : Int) ≤ 0 ∧ (0 : Int) ≤ 255; decide
  have g := h (row % 8).toNat
  unfold lawColour
  generalize ([255, 0, 128, 255, 77, 1, 254, row / 8 % 256] : List Int).getD (row % 8).toNat 0 = x at g
  omega
def sp__law_colour (K : PySem.W.Frag) : Sp := fun vs H Q _ => ∃ row : Int, vs = [.int row] ∧ ∀ H', Same H H' → Q (.int (lawColour row)) H'
theorem sc__law_colour : FnScope ["row", "opacity"] ["row"] (defScope s__law_colour) := ⟨rfl, rfl, rfl, by decide +kernel, rfl, by decide +kernel, by decide +kernel⟩
theorem ok__law_colour (T : Txt K mg A) : FnOk P w K mg base CX0 1 A.f_law_colour A.d_law_colour ["row"] (sp__law_colour K) := by
  refine T.F_law_colour.ok sc__law_colour (fun vs H Q E h => ?_) (fun cdv Ar outer s H vs Q E hr h => ?_)
  · obtain ⟨i, rfl, _⟩ := h
    rfl
  · obtain ⟨row, rfl, q⟩ := h
    refine ⟨_, (pss_cons (ps_set (i := 1) sc__law_colour.nd rfl (Or.inl rfl) (pe_ix (r := rIxL K) ix_list (pe_lst (pa_cons pe_int (pa_cons pe_int (pa_cons pe_int (pa_cons pe_int (pa_cons pe_int (pa_cons pe_int (pa_cons pe_int (pa_cons (pe_op op_mod (pe_callTy call_int1 (by rfl) T.int (by decide +kernel) (pa_cons (pe_op op_fdiv (pv 0) pe_int) pa_nil)) pe_int) pa_nil))))))))) (pe_op op_mod (pe_callTy call_int1 (by rfl) T.int (by decide +kernel) (pa_cons (pv 0) pa_nil)) pe_int) (fun _ _ => rfl)))
      (pss_one (ps_ret (pe_op op_add (pe_op op_mul (pv 1) pe_int) (pe_op op_mod (pe_callTy call_int1 (by rfl) T.int (by decide +kernel) (pa_cons (pe_op op_fdiv (pv 0) pe_int) pa_nil)) pe_int))))), ?_⟩
    walk_at "go"
    obtain ⟨k, ek, hk⟩ : ∃ k : Nat, row % 8 = k ∧ k < 8 := ⟨(row % 8).toNat, by omega, by omega⟩
    refine ⟨_, _, _, .int (([255, 0, 128, 255, 77, 1, 254, row / 8 % 256] : List Int).getD k 0), rfl, rfl, SqL.of upd_same, at_of (j := k) ek ?_, ?_⟩
    · rcases (by omega : k = 0 ∨ k = 1 ∨ k = 2 ∨ k = 3 ∨ k = 4 ∨ k = 5 ∨ k = 6 ∨ k = 7) with rfl | rfl | rfl | rfl | rfl | rfl | rfl | rfl <;> rfl
    walk_at "go"
    have e : ([255, 0, 128, 255, 77, 1, 254, row / 8 % 256] : List Int).getD k 0 * 16777216 + row / 2048 % 16777216 = lawColour row := by
      unfold lawColour; rw [ek, Int.toNat_natCast]
    rw [← e] at q
    exact q _ (same_upd (by assumption))
def sp__law_part (K : PySem.W.Frag) : Sp := fun vs H Q _ => ∃ c p : Int, vs = [.int c, .int p] ∧ 0 < p ∧ p < 1073741824 ∧ Q (.int (c / p % 256)) H
theorem sc__law_part : FnScope ["colour", "place"] ["colour", "place"] (defScope s__law_part) := ⟨rfl, rfl, rfl, by decide +kernel, rfl, by decide +kernel, by decide +kernel⟩
theorem ok__law_part (T : Txt K mg A) : FnOk P w K mg base CX0 1 A.f_law_part A.d_law_part ["colour", "place"] (sp__law_part K) := by
  refine T.F_law_part.ok sc__law_part (fun vs H Q E h => ?_) (fun cdv Ar outer s H vs Q E hr h => ?_)
  · obtain ⟨i, j, rfl, _⟩ := h
    rfl
  · obtain ⟨c, p, rfl, h1, h2, q⟩ := h
    refine ⟨_, (pss_one (ps_ret (pe_op op_mod (pe_callTy call_int1 (by rfl) T.int (by decide +kernel) (pa_cons (pe_op op_fdiv (pv 0) (pv 1)) pa_nil)) pe_int))), ?_⟩
    walk_at "go"
    refine ⟨⟨h1, h2⟩, ?_⟩
    walk_at "go"
    exact q
def sp__law_joined (K : PySem.W.Frag) : Sp := fun vs H Q _ => ∃ r g b : Int, vs = [.int r, .int g, .int b] ∧ Q (.int (255 * 16777216 + r * 65536 + g * 256 + b)) H
theorem sc__law_joined : FnScope ["red", "green", "blue"] ["red", "green", "blue"] (defScope s__law_joined) := ⟨rfl, rfl, rfl, by decide +kernel, rfl, by decide +kernel, by decide +kernel⟩
theorem ok__law_joined (T : Txt K mg A) : FnOk P w K mg base CX0 1 A.f_law_joined A.d_law_joined ["red", "green", "blue"] (sp__law_joined K) := by
  refine T.F_law_joined.ok sc__law_joined (fun vs H Q E h => ?_) (fun cdv Ar outer s H vs Q E hr h => ?_)
  · obtain ⟨r, g, b, rfl, _⟩ := h
    rfl
  · obtain ⟨r, g, b, rfl, q⟩ := h
    refine ⟨_, (pss_one (ps_ret (pe_op op_add (pe_op op_add (pe_op op_add (pe_op op_mul pe_int pe_int) (pe_op op_mul (pv 0) pe_int)) (pe_op op_mul (pv 1) pe_int)) (pv 2)))), ?_⟩
    walk_at "go"
    exact q
theorem sc_law : FnScope ["script", "k", "row", "upper", "lower", "told", "opacity", "place", "due"] ["script"] (defScope s_law) := ⟨rfl, rfl, rfl, by decide +kernel, rfl, by decide +kernel, by decide +kernel⟩
theorem ok_law (T : Txt K mg A) : FnOk P w K mg base CX0 3 A.flaw A.dlaw ["script"] (sp_law K) := by
  refine T.Flaw.ok sc_law (fun vs H Q E h => ?_) (fun cdv Ar outer s H vs Q E hr h => ?_)
  · obtain ⟨a, ns, rfl, _⟩ := h
    rfl
  · obtain ⟨a, ns, rfl, hS, hlen, q⟩ := h
    refine ⟨_, (pss_cons (ps_if (pt_cmpR (op_neD hr.units) (pe_lst (pa_cons (pe_call (ok_slot_colour T) (hr.mono (by decide)) rfl T.gslot_colour T.kslot_colour T.bslot_colour .nil pass0 (pa_cons pe_int pa_nil)) (pa_cons (pe_call (ok_slot_colour T) (hr.mono (by decide)) rfl T.gslot_colour T.kslot_colour T.bslot_colour .nil pass0 (pa_cons pe_int pa_nil)) pa_nil))) (pe_lst (pa_cons (pe_call (ok__law_joined T) (hr.mono (by decide)) rfl T.g_law_joined T.k_law_joined T.b_law_joined .nil pass0 (pa_cons pe_int (pa_cons pe_int (pa_cons pe_int pa_nil)))) (pa_cons (pe_call (ok__law_joined T) (hr.mono (by decide)) rfl T.g_law_joined T.k_law_joined T.b_law_joined .nil pass0 (pa_cons pe_int (pa_cons pe_int (pa_cons pe_int pa_nil)))) pa_nil))) (nomark _))
      (pss_one (ps_ret pe_bl))
      pss_nil)
      (pss_cons (ps_if (pt_cmpR (op_neD hr.units) (pe_lst (pa_cons (pe_call (ok_slot_colour T) (hr.mono (by decide)) rfl T.gslot_colour T.kslot_colour T.bslot_colour .nil pass0 (pa_cons pe_int pa_nil)) (pa_cons (pe_call (ok_slot_colour T) (hr.mono (by decide)) rfl T.gslot_colour T.kslot_colour T.bslot_colour .nil pass0 (pa_cons pe_int pa_nil)) pa_nil))) (pe_lst (pa_cons (pe_call (ok__law_joined T) (hr.mono (by decide)) rfl T.g_law_joined T.k_law_joined T.b_law_joined .nil pass0 (pa_cons pe_int (pa_cons pe_int (pa_cons pe_int pa_nil)))) (pa_cons (pe_call (ok__law_joined T) (hr.mono (by decide)) rfl T.g_law_joined T.k_law_joined T.b_law_joined .nil pass0 (pa_cons pe_int (pa_cons pe_int (pa_cons pe_int pa_nil)))) pa_nil))) (nomark _))
      (pss_one (ps_ret pe_bl))
      pss_nil)
      (pss_cons (ps_if (PW.pt (pw_or (pt_cmpR op_ne (pe_glob (v := .int (4293454056)) rfl T.gGROUND ⟨_, rfl⟩) (pe_call (ok__law_joined T) (hr.mono (by decide)) rfl T.g_law_joined T.k_law_joined T.b_law_joined .nil pass0 (pa_cons pe_int (pa_cons pe_int (pa_cons pe_int pa_nil)))) (nomark _)) (pw_or1 (pt_cmpR op_ne (pe_glob (v := .int (4280295472)) rfl T.gDESK ⟨_, rfl⟩) (pe_call (ok__law_joined T) (hr.mono (by decide)) rfl T.g_law_joined T.k_law_joined T.b_law_joined .nil pass0 (pa_cons pe_int (pa_cons pe_int (pa_cons pe_int pa_nil)))) (nomark _)))))
      (pss_one (ps_ret pe_bl))
      pss_nil)
      (pss_cons (ps_for PassesOwn.never rfl (pi_range1 (by rfl) T.range (pa_cons (pe_op op_add (pe_callB (call_min2 rfl) (by rfl) T.min (by decide +kernel) (pa_cons pe_int (pa_cons (pe_callB call_len_seq (by rfl) T.len PySem.boot_len (pa_cons (pv 0) pa_nil)) pa_nil))) pe_int) pa_nil)) (pg_name (i := 1) sc_law.nd rfl (Or.inl rfl))
      (pss_cons (ps_set (i := 2) sc_law.nd rfl (Or.inl rfl) (pe_call (ok__law_row T) (hr.mono (by decide)) rfl T.g_law_row T.k_law_row T.b_law_row .nil pass0 (pa_cons (pv 0) (pa_cons (pv 1) pa_nil))))
      (pss_cons (ps_set (i := 3) sc_law.nd rfl (Or.inl rfl) (pe_call (ok__law_colour T) (hr.mono (by decide)) rfl T.g_law_colour T.k_law_colour T.b_law_colour .nil pass0 (pa_cons (pv 2) pa_nil)))
      (pss_cons (ps_set (i := 4) sc_law.nd rfl (Or.inl rfl) (pe_call (ok__law_colour T) (hr.mono (by decide)) rfl T.g_law_colour T.k_law_colour T.b_law_colour .nil pass0 (pa_cons (pe_op op_add (pe_op op_fdiv (pv 2) pe_int) (pe_op op_mul pe_int (pv 1))) pa_nil)))
      (pss_cons (ps_set (i := 5) sc_law.nd rfl (Or.inl rfl) (pe_call (ok_over T) (hr.mono (by decide)) rfl T.gover T.kover T.bover .nil pass0 (pa_cons (pv 3) (pa_cons (pv 4) pa_nil))))
      (pss_cons (ps_set (i := 6) sc_law.nd rfl (Or.inl rfl) (pe_op op_fdiv (pv 3) pe_int))
      (pss_cons (ps_for PassesOwn.never rfl (pi_list (pe_lst (pa_cons pe_int (pa_cons pe_int (pa_cons pe_int (pa_cons pe_int pa_nil)))))) (pg_name (i := 7) sc_law.nd rfl (Or.inl rfl))
      (pss_cons (ps_set (i := 8) sc_law.nd rfl (Or.inl rfl) (pe_op op_add (pe_call (ok__law_part T) (hr.mono (by decide)) rfl T.g_law_part T.k_law_part T.b_law_part .nil pass0 (pa_cons (pv 3) (pa_cons (pv 7) pa_nil))) (pe_op op_fdiv (pe_op op_add (pe_op op_mul (pe_call (ok__law_part T) (hr.mono (by decide)) rfl T.g_law_part T.k_law_part T.b_law_part .nil pass0 (pa_cons (pv 4) (pa_cons (pv 7) pa_nil))) (pe_op op_sub pe_int (pv 6))) pe_int) pe_int)))
      (pss_one (ps_if (PW.pt (pw_or (pt_cmpR op_ne (pe_call (ok__law_part T) (hr.mono (by decide)) rfl T.g_law_part T.k_law_part T.b_law_part .nil pass0 (pa_cons (pv 5) (pa_cons (pv 7) pa_nil))) (pe_callB (call_min2 rfl) (by rfl) T.min (by decide +kernel) (pa_cons pe_int (pa_cons (pv 8) pa_nil))) (nomark _)) (pw_or1 (pt_cmpR op_ge (pv 5) pe_int (nomark _)))))
      (pss_one (ps_ret pe_bl))
      pss_nil))))
      (pss_one (ps_if (PW.pt (pw_or (pt_cmpR op_ne (pe_call (ok_over T) (hr.mono (by decide)) rfl T.gover T.kover T.bover .nil pass0 (pa_cons pe_int (pa_cons (pv 4) pa_nil))) (pv 4) (nomark _)) (pw_or1 (PW.pt (pw_and (pt_cmpR op_eq (pv 6) pe_int (nomark _)) (pw_and1 (pt_cmpR op_ne (pv 5) (pv 3) (nomark _))))))))
      (pss_one (ps_ret pe_bl))
      pss_nil)))))))))
      (pss_one (ps_ret pe_bl)))))), ?_⟩
    refine ⟨0, by decide, rfl, ?_⟩
    refine ⟨1, by decide, rfl, ?_⟩
    walk_at "go"
    walk_at "neS"
    · rfl
    refine ⟨2, by decide, rfl, ?_⟩
    refine ⟨3, by decide, rfl, ?_⟩
    walk_at "go"
    walk_at "neS"
    · rfl
    walk_at "go"
    refine ⟨?_, ?_, ?_⟩
    · split <;> omega
    · rw [List.length_map]; split <;> omega
    refine for_range (lo := 0) (fun i σ H' => ∃ v1 v2 v3 v4 v5 v6 v7 v8 : Option V, σ = [some (.ref a), v1, v2, v3, v4, v5, v6, v7, v8] ∧ SqL K H' a (ns.map V.int)) ?_ ?_ ?_
    · exact ⟨_, _, _, _, _, _, _, _, rfl, by walk_at "sq"⟩
    · rintro i σ H1 hi ⟨v1, v2, v3, v4, v5, v6, v7, v8, rfl, s1⟩
      refine ⟨_, rfl, _, rfl, a, ns, i, ?_, s1, ?_⟩
      · show [V.ref a, V.int (0 + (i : Int))] = [V.ref a, V.int (i : Int)]
        rw [Int.zero_add]
      generalize lawRow ns i = row
      walk_at "go"
      intro H2 s2
      walk_at "go"
      intro H3 s3
      have b1 := lawColour_b row
      have b2 := lawColour_b (row / 3 + 5 * (0 + (i : Int)))
      generalize lawColour (row / 3 + 5 * (0 + (i : Int))) = lo at b2 ⊢
      generalize lawColour row = up at b1 ⊢
      have hP := over_parts up lo b1.1 b1.2 b2.1
      walk_at "go"
      refine ⟨b1.2, b2.1, b2.2, ?_⟩
      walk_at "go"
      rename_i p3 f3
      have s4 := (same_upd (o := .lst [.int 16777216, .int 65536, .int 256, .int 1]) f3).seq (s3.seq (s2.seq s1))
      have e4 : (upd H3 p3 (.lst [.int 16777216, .int 65536, .int 256, .int 1])) p3 = _ := upd_same
      generalize upd H3 p3 (.lst [.int 16777216, .int 65536, .int 256, .int 1]) = H4 at s4 e4 ⊢
      refine ⟨⟨_, SqL.of e4⟩, for_list (K := K) (a := p3) (xs := [.int 16777216, .int 65536, .int 256, .int 1]) (fun j σ H' => ∃ v7 v8 : Option V, σ = [some (.ref a), some (.int (0 + (i : Int))), some (.int row), some (.int up), some (.int lo), some (.int (overI up lo)), some (.int (up / 16777216)), v7, v8] ∧ H' = H4) ⟨_, _, rfl, rfl⟩ (fun j σ H' _ ⟨_, _, _, h⟩ => by rw [h]; exact SqL.of e4) ?_ ?_⟩
      · rintro j x σ H' hx ⟨v7, v8, rfl, rfl⟩
        obtain ⟨Pl, rfl, hPl⟩ : ∃ Pl : Int, x = .int Pl ∧ (Pl = 16777216 ∨ Pl = 65536 ∨ Pl = 256 ∨ Pl = 1) := by
          have hm := List.mem_of_getElem? hx
          simp only [List.mem_cons, List.not_mem_nil, or_false] at hm
          rcases hm with h | h | h | h
          · exact ⟨_, h, .inl rfl⟩
          · exact ⟨_, h, .inr (.inl rfl)⟩
          · exact ⟨_, h, .inr (.inr (.inl rfl))⟩
          · exact ⟨_, h, .inr (.inr (.inr rfl))⟩
        have e9 := over_place up lo b1.1 b1.2 b2.1 hPl
        have p1 : 0 < Pl ∧ Pl < 1073741824 := by omega
        walk_at "go"
        refine ⟨p1.1, p1.2, ?_⟩
        walk_at "go"
        refine ⟨p1.1, p1.2, ?_⟩
        walk_at "go"
        refine ⟨(Or.inl ⟨by omega, by omega⟩ : CMul _ _), ?_⟩
        walk_at "go"
        refine ⟨p1.1, p1.2, ?_⟩
        walk_at "go"
        refine iteNe (fun h => absurd e9 h) fun _ => ?_
        walk_at "go"
        refine iteP (fun h => absurd h (by show ¬ 4294967296 ≤ overI up lo; omega)) fun _ => ?_
        exact ⟨_, _, rfl, rfl⟩
      · rintro σ H' ⟨v7, v8, rfl, rfl⟩
        walk_at "go"
        refine ⟨b2.2, ?_⟩
        rw [over_clear lo b2.1 b2.2]
        walk_at "go"
        refine iteNe (fun h => absurd rfl h) fun _ => ?_
        walk_at "go"
        refine iteEq (fun h => ?_) (fun h => ?_)
        · walk_at "go"
          refine iteNe (fun z => absurd (over_opaque up lo b1.1 b1.2 h) z) fun _ => ?_
          exact ⟨_, _, _, _, _, _, _, _, rfl, s4⟩
        · exact ⟨_, _, _, _, _, _, _, _, rfl, s4⟩
    · rintro σ H' ⟨v1, v2, v3, v4, v5, v6, v7, v8, rfl, s1⟩
      exact q _
end
theorem all_mk {K : PySem.W.Frag} {h : Heap} {mg : Str → Option Value} {fa : Addr} (X : K.In h) (G : h.Ns mainGlobals mg) (hfa : mg "law" = some (.ref fa))
    {fover : Addr} {od1 an1 : Option Addr} {sl1 : Array (Option Value)} {oc1 kV1 dc1 pm1 cd1 ct1 : Value}
    {fslot_colour : Addr} {od2 an2 : Option Addr} {sl2 : Array (Option Value)} {oc2 kV2 dc2 pm2 cd2 ct2 : Value}
    {f_law_cell : Addr} {od3 an3 : Option Addr} {sl3 : Array (Option Value)} {oc3 kV3 dc3 pm3 cd3 ct3 : Value}
    {f_law_row : Addr} {od4 an4 : Option Addr} {sl4 : Array (Option Value)} {oc4 kV4 dc4 pm4 cd4 ct4 : Value}
    {f_law_colour : Addr} {od5 an5 : Option Addr} {sl5 : Array (Option Value)} {oc5 kV5 dc5 pm5 cd5 ct5 : Value}
    {f_law_part : Addr} {od6 an6 : Option Addr} {sl6 : Array (Option Value)} {oc6 kV6 dc6 pm6 cd6 ct6 : Value}
    {f_law_joined : Addr} {od7 an7 : Option Addr} {sl7 : Array (Option Value)} {oc7 kV7 dc7 pm7 cd7 ct7 : Value}
    {flaw : Addr} {od8 an8 : Option Addr} {sl8 : Array (Option Value)} {oc8 kV8 dc8 pm8 cd8 ct8 : Value}
    {tCLEAR : Tok}
    {tGROUND : Tok}
    {tDESK : Tok}
    {tOPAQUE : Tok}
    {a_SLOT_COLOURS : Addr}
    {tk_SLOT_COLOURS_0 tk_SLOT_COLOURS_1 tk_SLOT_COLOURS_2 tk_SLOT_COLOURS_3 : Tok}
    {ow_SLOT_COLOURS : Option Addr} {nw_SLOT_COLOURS : Nat} {sw_SLOT_COLOURS : Array (Option Value)}
    (a1 : PySem.W.nsIn K mainGlobals "over" = some (some (.ref fover)))
    (l1 : K.lookup fover = some ⟨oc1, od1, .func (PySem.W.fnOf "over" "over" (defArgs s_over) (defBody s_over) (defScope s_over) .none kV1 dc1 pm1 an1 cd1 ct1), sl1⟩) (c1 : PySem.W.codeIn K cd1 "over" = true) (k1 : PySem.W.keepIn K (.ref fover) = true)
    (a2 : PySem.W.nsIn K mainGlobals "slot_colour" = some (some (.ref fslot_colour)))
    (l2 : K.lookup fslot_colour = some ⟨oc2, od2, .func (PySem.W.fnOf "slot_colour" "slot_colour" (defArgs s_slot_colour) (defBody s_slot_colour) (defScope s_slot_colour) .none kV2 dc2 pm2 an2 cd2 ct2), sl2⟩) (c2 : PySem.W.codeIn K cd2 "slot_colour" = true) (k2 : PySem.W.keepIn K (.ref fslot_colour) = true)
    (a3 : PySem.W.nsIn K mainGlobals "_law_cell" = some (some (.ref f_law_cell)))
    (l3 : K.lookup f_law_cell = some ⟨oc3, od3, .func (PySem.W.fnOf "_law_cell" "_law_cell" (defArgs s__law_cell) (defBody s__law_cell) (defScope s__law_cell) .none kV3 dc3 pm3 an3 cd3 ct3), sl3⟩) (c3 : PySem.W.codeIn K cd3 "_law_cell" = true) (k3 : PySem.W.keepIn K (.ref f_law_cell) = true)
    (a4 : PySem.W.nsIn K mainGlobals "_law_row" = some (some (.ref f_law_row)))
    (l4 : K.lookup f_law_row = some ⟨oc4, od4, .func (PySem.W.fnOf "_law_row" "_law_row" (defArgs s__law_row) (defBody s__law_row) (defScope s__law_row) .none kV4 dc4 pm4 an4 cd4 ct4), sl4⟩) (c4 : PySem.W.codeIn K cd4 "_law_row" = true) (k4 : PySem.W.keepIn K (.ref f_law_row) = true)
    (a5 : PySem.W.nsIn K mainGlobals "_law_colour" = some (some (.ref f_law_colour)))
    (l5 : K.lookup f_law_colour = some ⟨oc5, od5, .func (PySem.W.fnOf "_law_colour" "_law_colour" (defArgs s__law_colour) (defBody s__law_colour) (defScope s__law_colour) .none kV5 dc5 pm5 an5 cd5 ct5), sl5⟩) (c5 : PySem.W.codeIn K cd5 "_law_colour" = true) (k5 : PySem.W.keepIn K (.ref f_law_colour) = true)
    (a6 : PySem.W.nsIn K mainGlobals "_law_part" = some (some (.ref f_law_part)))
    (l6 : K.lookup f_law_part = some ⟨oc6, od6, .func (PySem.W.fnOf "_law_part" "_law_part" (defArgs s__law_part) (defBody s__law_part) (defScope s__law_part) .none kV6 dc6 pm6 an6 cd6 ct6), sl6⟩) (c6 : PySem.W.codeIn K cd6 "_law_part" = true) (k6 : PySem.W.keepIn K (.ref f_law_part) = true)
    (a7 : PySem.W.nsIn K mainGlobals "_law_joined" = some (some (.ref f_law_joined)))
    (l7 : K.lookup f_law_joined = some ⟨oc7, od7, .func (PySem.W.fnOf "_law_joined" "_law_joined" (defArgs s__law_joined) (defBody s__law_joined) (defScope s__law_joined) .none kV7 dc7 pm7 an7 cd7 ct7), sl7⟩) (c7 : PySem.W.codeIn K cd7 "_law_joined" = true) (k7 : PySem.W.keepIn K (.ref f_law_joined) = true)
    (a8 : PySem.W.nsIn K mainGlobals "law" = some (some (.ref flaw)))
    (l8 : K.lookup flaw = some ⟨oc8, od8, .func (PySem.W.fnOf "law" "law" (defArgs s_law) (defBody s_law) (defScope s_law) .none kV8 dc8 pm8 an8 cd8 ct8), sl8⟩) (c8 : PySem.W.codeIn K cd8 "law" = true) (k8 : PySem.W.keepIn K (.ref flaw) = true)
    (z_int : PySem.W.nsIn K mainGlobals "int" = some none)
    (z_len : PySem.W.nsIn K mainGlobals "len" = some none)
    (z_min : PySem.W.nsIn K mainGlobals "min" = some none)
    (z_range : PySem.W.nsIn K mainGlobals "range" = some none)
    (q_CLEAR : PySem.W.nsIn K mainGlobals "CLEAR" = some (some (.int (0) tCLEAR)))
    (q_GROUND : PySem.W.nsIn K mainGlobals "GROUND" = some (some (.int (4293454056) tGROUND)))
    (q_DESK : PySem.W.nsIn K mainGlobals "DESK" = some (some (.int (4280295472) tDESK)))
    (q_OPAQUE : PySem.W.nsIn K mainGlobals "OPAQUE" = some (some (.int (4278190080) tOPAQUE)))
    (q__SLOT_COLOURS : PySem.W.nsIn K mainGlobals "_SLOT_COLOURS" = some (some (.ref a_SLOT_COLOURS)))
    (w_SLOT_COLOURS : K.lookup a_SLOT_COLOURS = some ⟨.type "tuple", ow_SLOT_COLOURS, .seq #[.int (4291312700) tk_SLOT_COLOURS_0, .int (4282158140) tk_SLOT_COLOURS_1, .int (4282145480) tk_SLOT_COLOURS_2, .int (4290019870) tk_SLOT_COLOURS_3] nw_SLOT_COLOURS, sw_SLOT_COLOURS⟩)
    : ∃ A : Adr, A.flaw = fa ∧ Txt K mg A ∧ (∀ (s : Shared) (v : Value), BindsTo s A.dlaw ⟨[v], []⟩ [("script", v)]) := by
  have e := hfa.symm.trans (PySem.W.mg_of X G a8)
  cases e
  have F1 := fun_mk (st := s_over) l1 c1 k1
  have b1 := F1.binds (ps := ["colour", "below"]) fun _ _ _ _ _ _ us hl => match us, hl with | [_, _], _ => rfl
  have F2 := fun_mk (st := s_slot_colour) l2 c2 k2
  have b2 := F2.binds (ps := ["slot"]) fun _ _ _ _ _ _ us hl => match us, hl with | [_], _ => rfl
  have F3 := fun_mk (st := s__law_cell) l3 c3 k3
  have b3 := F3.binds (ps := ["script", "k"]) fun _ _ _ _ _ _ us hl => match us, hl with | [_, _], _ => rfl
  have F4 := fun_mk (st := s__law_row) l4 c4 k4
  have b4 := F4.binds (ps := ["script", "k"]) fun _ _ _ _ _ _ us hl => match us, hl with | [_, _], _ => rfl
  have F5 := fun_mk (st := s__law_colour) l5 c5 k5
  have b5 := F5.binds (ps := ["row"]) fun _ _ _ _ _ _ us hl => match us, hl with | [_], _ => rfl
  have F6 := fun_mk (st := s__law_part) l6 c6 k6
  have b6 := F6.binds (ps := ["colour", "place"]) fun _ _ _ _ _ _ us hl => match us, hl with | [_, _], _ => rfl
  have F7 := fun_mk (st := s__law_joined) l7 c7 k7
  have b7 := F7.binds (ps := ["red", "green", "blue"]) fun _ _ _ _ _ _ us hl => match us, hl with | [_, _, _], _ => rfl
  have F8 := fun_mk (st := s_law) l8 c8 k8
  have b8 := F8.binds (ps := ["script"]) fun _ _ _ _ _ _ us hl => match us, hl with | [_], _ => rfl
  refine ⟨{ fover := fover, dover := (PySem.W.fnOf "over" "over" (defArgs s_over) (defBody s_over) (defScope s_over) .none kV1 dc1 pm1 an1 cd1 ct1), fslot_colour := fslot_colour, dslot_colour := (PySem.W.fnOf "slot_colour" "slot_colour" (defArgs s_slot_colour) (defBody s_slot_colour) (defScope s_slot_colour) .none kV2 dc2 pm2 an2 cd2 ct2), f_law_cell := f_law_cell, d_law_cell := (PySem.W.fnOf "_law_cell" "_law_cell" (defArgs s__law_cell) (defBody s__law_cell) (defScope s__law_cell) .none kV3 dc3 pm3 an3 cd3 ct3), f_law_row := f_law_row, d_law_row := (PySem.W.fnOf "_law_row" "_law_row" (defArgs s__law_row) (defBody s__law_row) (defScope s__law_row) .none kV4 dc4 pm4 an4 cd4 ct4), f_law_colour := f_law_colour, d_law_colour := (PySem.W.fnOf "_law_colour" "_law_colour" (defArgs s__law_colour) (defBody s__law_colour) (defScope s__law_colour) .none kV5 dc5 pm5 an5 cd5 ct5), f_law_part := f_law_part, d_law_part := (PySem.W.fnOf "_law_part" "_law_part" (defArgs s__law_part) (defBody s__law_part) (defScope s__law_part) .none kV6 dc6 pm6 an6 cd6 ct6), f_law_joined := f_law_joined, d_law_joined := (PySem.W.fnOf "_law_joined" "_law_joined" (defArgs s__law_joined) (defBody s__law_joined) (defScope s__law_joined) .none kV7 dc7 pm7 an7 cd7 ct7), flaw := fa, dlaw := (PySem.W.fnOf "law" "law" (defArgs s_law) (defBody s_law) (defScope s_law) .none kV8 dc8 pm8 an8 cd8 ct8), tCLEAR := tCLEAR, tGROUND := tGROUND, tDESK := tDESK, tOPAQUE := tOPAQUE, a_SLOT_COLOURS := a_SLOT_COLOURS }, rfl, { Fover := F1, bover := b1, gover := PySem.W.mg_of X G a1, kover := k1, Fslot_colour := F2, bslot_colour := b2, gslot_colour := PySem.W.mg_of X G a2, kslot_colour := k2, F_law_cell := F3, b_law_cell := b3, g_law_cell := PySem.W.mg_of X G a3, k_law_cell := k3, F_law_row := F4, b_law_row := b4, g_law_row := PySem.W.mg_of X G a4, k_law_row := k4, F_law_colour := F5, b_law_colour := b5, g_law_colour := PySem.W.mg_of X G a5, k_law_colour := k5, F_law_part := F6, b_law_part := b6, g_law_part := PySem.W.mg_of X G a6, k_law_part := k6, F_law_joined := F7, b_law_joined := b7, g_law_joined := PySem.W.mg_of X G a7, k_law_joined := k7, Flaw := F8, blaw := b8, glaw := PySem.W.mg_of X G a8, klaw := k8, int := PySem.W.mg_none_of X G z_int, len := PySem.W.mg_none_of X G z_len, min := PySem.W.mg_none_of X G z_min, range := PySem.W.mg_none_of X G z_range, gCLEAR := PySem.W.mg_of X G q_CLEAR, gGROUND := PySem.W.mg_of X G q_GROUND, gDESK := PySem.W.mg_of X G q_DESK, gOPAQUE := PySem.W.mg_of X G q_OPAQUE, g_SLOT_COLOURS := PySem.W.mg_of X G q__SLOT_COLOURS, w_SLOT_COLOURS := fun _ => .inr ⟨_, _, _, w_SLOT_COLOURS, rfl, rfl, len_line (Nat.le_of_ble_eq_true rfl), (.cons ⟨_, rfl⟩ (.cons ⟨_, rfl⟩ (.cons ⟨_, rfl⟩ (.cons ⟨_, rfl⟩ .nil))))⟩ }, fun s v => .of_eq rfl⟩
theorem walk {l : PySem.W.OpenLaw} {q : Program} {loose : List Str} {XP : (Str → Option Value) → Heap → Prop} {YP : World → Heap → Prop} {d : DefRec} {K : Params → PySem.W.Frag} (hn : l.most = some 63) (hdf : d.params.defaults = [])
    (hY : ∀ (w : World) (h : Heap), YP w h → (K w.params).In h)
    (F : ∀ (w : World) (mg : Str → Option Value) (fa : Addr) (h : Heap), (K w.params).In h → h.Ns mainGlobals mg → mg d.name = some (.ref fa) →
      ∃ A : Adr, A.flaw = fa ∧ Txt (K w.params) mg A ∧ (∀ (s : Shared) (v : Value), BindsTo s A.dlaw ⟨[v], []⟩ [("script", v)])) :
    PySem.W.WalkO q loose XP YP l.row.toRowW d [] (fun f vs => PySem.call f vs) :=
  L2.walk_of (n := 63) (k := 3) (x := "script") (CX := fun _ => CX0) (sp := fun w => sp_law (K w.params)) hn (by decide) hdf ⟨rfl, by decide, by decide⟩ hY (fun w mg fa h X G hfa => by
    obtain ⟨A, rfl, T, b⟩ := F w mg fa h X G hfa
    exact ⟨A.dlaw, b, fun base _ _ => ok_law T⟩) (fun _ _ a ns hl _ hS => ⟨a, ns, rfl, hS, hl, fun _ => rfl⟩) fun _ _ _ _ _ z => z
end My
open PySem PySem.W PyProof.Rows
set_option maxRecDepth 100000 in
set_option maxHeartbeats 0 in
theorem PySem.Challenge.cw_sillwatch_k76_colours_over_holds : PySem.Challenge.rw_sillwatch_k76_colours_over.Holds := by
  w_on; o_law; k_head; (case hw => w_witness2)
  k_fill
  refine My.walk (l := PySem.Challenge.rw_sillwatch_k76_colours_over) rfl rfl (fun w h Y => PySem.W.kIn_of Y) ?F
  case F =>
    intro w mg fa h KX G hmg
    refine' My.all_mk KX G hmg ?a1 ?l1 ?c1 ?k1 ?a2 ?l2 ?c2 ?k2 ?a3 ?l3 ?c3 ?k3 ?a4 ?l4 ?c4 ?k4 ?a5 ?l5 ?c5 ?k5 ?a6 ?l6 ?c6 ?k6 ?a7 ?l7 ?c7 ?k7 ?a8 ?l8 ?c8 ?k8 ?z_int ?z_len ?z_min ?z_range ?q_CLEAR ?q_GROUND ?q_DESK ?q_OPAQUE ?q__SLOT_COLOURS ?w_SLOT_COLOURS
    (case a1 => k_is)
    (case l1 => k_is)
    (case c1 => k_is)
    (case k1 => k_is)
    (case a2 => k_is)
    (case l2 => k_is)
    (case c2 => k_is)
    (case k2 => k_is)
    (case a3 => k_is)
    (case l3 => k_is)
    (case c3 => k_is)
    (case k3 => k_is)
    (case a4 => k_is)
    (case l4 => k_is)
    (case c4 => k_is)
    (case k4 => k_is)
    (case a5 => k_is)
    (case l5 => k_is)
    (case c5 => k_is)
    (case k5 => k_is)
    (case a6 => k_is)
    (case l6 => k_is)
    (case c6 => k_is)
    (case k6 => k_is)
    (case a7 => k_is)
    (case l7 => k_is)
    (case c7 => k_is)
    (case k7 => k_is)
    (case a8 => k_is)
    (case l8 => k_is)
    (case c8 => k_is)
    (case k8 => k_is)
    (case z_int => k_is)
    (case z_len => k_is)
    (case z_min => k_is)
    (case z_range => k_is)
    (case q_CLEAR => k_is)
    (case q_GROUND => k_is)
    (case q_DESK => k_is)
    (case q_OPAQUE => k_is)
    (case q__SLOT_COLOURS => k_is)
    (case w_SLOT_COLOURS => k_is)
