import PyProof.Rows.All
import Wide.All
import OpenK.AllK
import Wide.FinOn
import PySem.Challenge.RW_lanescounted_k00_lane_of_a_mark
import HandS.ForMost
import HandS.ForExc
import HandS.Wide
import HandS.IsInst
import HandS.EndBits
import HandS.Small
import HandS.FStr
set_option Elab.async false
set_option linter.all false
set_option maxRecDepth 100000
set_option maxHeartbeats 4000000
namespace Lc
open PySem PySem.Spec PyProof.Rows L2
/-! ### great ints -/
/-- two factors of together less than a hundred million bits -/
def CMulX (i j : Int) : Prop := i.natAbs.log2 + j.natAbs.log2 < 100000000
theorem CMulX.ok {i j : Int} (h : CMulX i j) : IntMulOk i j := by
  have b : ∀ x : Int, Builtin.Int.intBits x ≤ x.natAbs.log2 + 1 := fun x => by
    unfold Builtin.Int.intBits
    split <;> omega
  have h1 := b i
  have h2 := b j
  have h3 : i.natAbs.log2 + j.natAbs.log2 < 100000000 := h
  have e : bitsLine = 134217728 := by decide
  unfold IntMulOk
  intro z
  rw [Bool.and_eq_true] at z
  have z2 := z.2
  unfold Builtin.Int.intTooBig at z2
  have z3 := of_decide_eq_true z2
  rw [e] at z3
  omega
theorem op_mulX {X : Cx} : OpR X (binaryOp .Mult) (rI CMulX fun i j => .int (i * j)) := opI fun _ _ _ _ _ _ _ hc q => mul_int q hc.ok
/-- few bits -/
def Few (i : Int) : Prop := i.natAbs.log2 ≤ 2000000
theorem few_of {i : Int} (h : i.natAbs < 2 ^ 240) : Few i := by
  have := PySem.Flt.log2_lt_of (n := i.natAbs) (k := 240) (by omega) h
  unfold Few; omega
theorem few_le {i : Int} {b : Int} (h0 : 0 ≤ i) (h : i ≤ b) (hb : b.natAbs < 2 ^ 240) : Few i := few_of (Nat.lt_of_le_of_lt (by omega) hb)
theorem mulX {i j : Int} (h : Few i) (h' : Few j) : CMulX i j := by unfold CMulX; unfold Few at h h'; omega
theorem divX {i j : Int} (h : 0 < j) (hb : j.natAbs < 2 ^ 240) : CDivW i j := wide_div (b := 240) h hb (by decide) (by decide)
theorem log2_mono {a b : Nat} (h : a ≤ b) : a.log2 ≤ b.log2 := by
  rcases Nat.eq_zero_or_pos a with h0 | h0
  · subst h0; simp
  · have hb : b ≠ 0 := by omega
    have h1 : 2 ^ a.log2 ≤ a := Nat.log2_self_le (by omega)
    exact (Nat.le_log2 hb).mpr (by omega)
theorem bits_log {z : Int} (h : Builtin.Int.intBits z ≤ 1048576) : z.natAbs.log2 ≤ 1048576 := by
  unfold Builtin.Int.intBits at h
  split at h
  · rename_i h0; simp_all
  · omega
/-! ### heaps -/
/-- all that was tracked, but for a, is as it was -/
def But (a : Addr) (H H' : Hp) : Prop := ∀ b o, b ≠ a → H b = some o → H' b = some o
theorem But.refl (a : Addr) (H : Hp) : But a H H := fun _ _ _ h => h
theorem But.trans {a : Addr} {H H1 H2 : Hp} (x : But a H H1) (y : But a H1 H2) : But a H H2 := fun b o n h => y b o n (x b o n h)
theorem But.same {a : Addr} {H H1 H2 : Hp} (x : But a H H1) (y : Same H1 H2) : But a H H2 := fun b o n h => y b o (x b o n h)
theorem Same.but {a : Addr} {H H1 : Hp} (y : Same H H1) : But a H H1 := fun b o _ h => y b o h
theorem But.new {a : Addr} {H H1 H2 : Hp} (y : Same H H1) (x : But a H1 H2) : But a H H2 := fun b o n h => x b o n (y b o h)
theorem same_upd {H : Hp} {p : Addr} {o : HO} (h : H p = none) : Same H (upd H p o) := fun b x e => by
  rw [upd_ne (ne_of_none e h)]
  exact e
theorem But.upd {a : Addr} {H H' : Hp} {o : HO} (x : But a H H') : But a H (upd H' a o) := fun b u n h => by
  rw [upd_ne n]
  exact x b u n h
/-! ### statements joined behind an if -/
theorem seq_cut {t u : TS} {D : Ends} {σ : L2.St} {H : Hp} (M : L2.St → Hp → Prop) (h2 : ∀ σ' H', M σ' H' → u D σ' H') (h1 : (∀ σ' H', M σ' H' → u D σ' H') → t { D with nx := u D } σ H) : tSeq t u D σ H := h1 h2
theorem if_cut {c : TT} {t1 t2 u : TS} {D : Ends} {σ : L2.St} {H : Hp} (M : L2.St → Hp → Prop) (h2 : ∀ σ' H', M σ' H' → u D σ' H') (h1 : (∀ σ' H', M σ' H' → u D σ' H') → tIfS c t1 t2 { D with nx := u D } σ H) : tSeq (tIfS c t1 t2) u D σ H := h1 h2
/-! ### the source of draws -/
structure Src (H : Hp) (a : Addr) (n : Nat) : Prop where
  ex : ∃ (l : Addr) (ns : List Int) (x y z : Int), H a = some (.lst [.ref l, .int x, .int y, .int z]) ∧ H l = some (.lst (ns.map V.int)) ∧ (∀ k ∈ ns, k.natAbs.log2 ≤ 1048576) ∧ ns.length ≤ 63 ∧
    0 ≤ x ∧ x.natAbs.log2 ≤ 1048576 ∧ 0 ≤ y ∧ y < 2147483647 ∧ 0 ≤ z ∧ z ≤ (n : Int)
def spDraw : Sp := fun vs H Q _ => ∃ (a : Addr) (n : Nat) (lim : Int), vs = [.ref a, .int lim] ∧ Src H a n ∧ n < 1000000 ∧ 1 ≤ lim ∧ lim ≤ 1000000000000 ∧
  ∀ d H', 0 ≤ d → d < lim → Src H' a (n + 1) → But a H H' → Q (.int d) H'
def spSource (K : PySem.W.Frag) : Sp := fun vs H Q _ => ∃ (a : Addr) (ns : List Int), vs = [.ref a] ∧ SqL K H a (ns.map V.int) ∧ ns.length ≤ 63 ∧ (∀ z ∈ ns, Builtin.Int.intBits z ≤ 1048576) ∧
  ∀ p H', H p = none → Src H' p 0 → Same H H' → Q (.ref p) H'
def spGreat : Sp := fun vs H Q _ => ∃ (a : Addr) (n : Nat) (lim : Int), vs = [.ref a, .int lim] ∧ Src H a n ∧ n + 5 < 1000000 ∧ 1 ≤ lim ∧ lim ≤ 10 ^ 60 ∧
  ∀ d H', 0 ≤ d → d < lim → Src H' a (n + 5) → But a H H' → Q (.int d) H'
/-- what is behind the first if of a draw -/
structure Mid (H0 : Hp) (a : Addr) (n : Nat) (H : Hp) : Prop where
  src : Src H a n
  but : But a H0 H
theorem src_ne {H : Hp} {a b : Addr} {n : Nat} (S : Src H a n) (h : H b = none) : b ≠ a := by
  obtain ⟨l, ns, x, y, z, h1, _⟩ := S.ex
  intro e; subst e; rw [h] at h1; cases h1
theorem Src.le {H : Hp} {a : Addr} {n m : Nat} (S : Src H a n) (h : n ≤ m) : Src H a m := by
  obtain ⟨l, ns, x, y, z, h1, h2, h3, h4, h5, h6, h7, h8, h9, h10⟩ := S.ex
  exact ⟨l, ns, x, y, z, h1, h2, h3, h4, h5, h6, h7, h8, h9, by omega⟩
theorem Src.same {H H' : Hp} {a : Addr} {n : Nat} (S : Src H a n) (k : Same H H') : Src H' a n := by
  obtain ⟨l, ns, x, y, z, h1, h2, h3⟩ := S.ex
  exact ⟨l, ns, x, y, z, k _ _ h1, k _ _ h2, h3⟩
theorem cut1 (xs : List V) : cutV xs (some 1) none = xs.drop 1 := by
  unfold cutV
  rw [show HT.sIx xs.length 0 (some 1) = min 1 xs.length from HT.sIx_nat xs.length 0 1, HT.sIx_none]
  cases xs with
  | nil => rfl
  | cons x r =>
    rw [show min 1 (x :: r).length = 1 by
      rw [List.length_cons]
      omega]
    show (List.take ((x :: r).length - 1) r) = r
    rw [List.length_cons, Nat.add_sub_cancel]
    exact List.take_length
theorem idiv_log {x j : Int} (h0 : 0 ≤ x) (hj : 1 ≤ j) {k : Nat} (h : x.natAbs.log2 ≤ k) : (x / j).natAbs.log2 ≤ k := by
  have h1 : 0 ≤ x / j := Int.ediv_nonneg h0 (by omega)
  have h2 : x / j ≤ x := Int.ediv_le_self j h0
  have h3 : (x / j).natAbs ≤ x.natAbs := by omega
  exact Nat.le_trans (log2_mono h3) h
def pw9 : Nat → Int
  | 0 => 1
  | n + 1 => pw9 n * 1000000000
theorem pw9_le {i : Nat} (h : i ≤ 5) : pw9 i ≤ 1000000000000000000000000000000000000000000000 := by
  match i, h with
  | 0, _ => decide
  | 1, _ => decide
  | 2, _ => decide
  | 3, _ => decide
  | 4, _ => decide
  | 5, _ => decide
theorem few_bits {k : Int} (h : k.natAbs.log2 ≤ 1048576) : Few k := by unfold Few; omega
theorem ends_true {Q : VK} {b : Bool} {H : Hp} (q : ∀ H', Q (.bl true) H') (h : b = true) : Q (.bl b) H := h ▸ q H
/-! ### what an object is -/
inductive Arg (K : PySem.W.Frag) (H : Hp) : V → String → Prop where
  | non : Arg K H .non "NoneType"
  | bl (b : Bool) : Arg K H (.bl b) "bool"
  | int (i : Int) : Arg K H (.int i) "int"
  | str (x : Str) : Arg K H (.str x) "str"
  | lst {a : Addr} {xs : List V} (e : H a = some (.lst xs)) : Arg K H (.ref a) "list"
  | tup {a : Addr} {xs : List V} (e : H a = some (.tup xs)) : Arg K H (.ref a) "tuple"
  | dK {a : Addr} {kvs : List (Key × V)} (e : H a = some (.dK kvs)) : Arg K H (.ref a) "dict"
def isI : V → Bool
  | .int _ => true | .bl _ => true | _ => false
def isB : V → Bool
  | .bl _ => true | _ => false
def isS : V → Bool
  | .str _ => true | _ => false
section
variable {K : PySem.W.Frag} {H : Hp} {x : V} {n : String}
theorem Arg.ty (h : Arg K H x n) : TyX K H x (.type n) := by
  cases h with
  | non => exact .base .non
  | bl b => exact .base (.bl b)
  | int i => exact .base (.int i)
  | str s => exact .base (.str s)
  | lst e => exact .base (.lst e)
  | tup e => exact .base (.tup e)
  | dK e => exact .base (.dK e)
theorem Arg.int? (h : Arg K H x n) : PySem.W.kitOne K (.type n) (.type "int") = some (isI x) := by
  cases h <;> first | exact kit_ty (r := true) (by decide +kernel) | exact kit_ty (r := false) (by decide +kernel)
theorem Arg.bool? (h : Arg K H x n) : PySem.W.kitOne K (.type n) (.type "bool") = some (isB x) := by
  cases h <;> first | exact kit_ty (r := true) (by decide +kernel) | exact kit_ty (r := false) (by decide +kernel)
theorem Arg.str? (h : Arg K H x n) : PySem.W.kitOne K (.type n) (.type "str") = some (isS x) := by
  cases h <;> first | exact kit_ty (r := true) (by decide +kernel) | exact kit_ty (r := false) (by decide +kernel)
end
/-- an integer from lo to hi, no bool -/
def wholeV (x : V) (lo hi : Int) : Bool := match x with
  | .int i => decide (lo ≤ i) && decide (i ≤ hi)
  | _ => false
def wordV (x : V) (ws : List Str) : Bool := match x with
  | .str s => decide (s ∈ ws)
  | _ => false
theorem inV_str (s : Str) (ws : List Str) : inV (.str s) (ws.map V.str) = decide (s ∈ ws) := by
  unfold inV
  induction ws with
  | nil => rfl
  | cons w r ih =>
    rw [List.map_cons, List.any_cons, ih]
    show ((w == s) || decide (s ∈ r)) = decide (s ∈ w :: r)
    by_cases e : w = s
    · subst e; simp
    · have e2 : (w == s) = false := beq_eq_false_iff_ne.mpr e
      have e3 : ¬ s = w := fun z => e z.symm
      rw [e2, Bool.false_or]
      simp [e3]
theorem all_flat_str (ws : List Str) : (ws.map V.str).all flatV = true := by
  induction ws with
  | nil => rfl
  | cons w r ih => rw [List.map_cons, List.all_cons, ih]; rfl
theorem atI_two {α : Type} {x y : α} {d : Int} (h0 : 0 ≤ d) (h1 : d < 2) : atI [x, y] d = some (if d = 0 then x else y) := by
  have h : d = 0 ∨ d = 1 := by omega
  rcases h with rfl | rfl <;> rfl
theorem atI_three {α : Type} {x y z : α} {d : Int} (h0 : 0 ≤ d) (h1 : d < 3) : atI [x, y, z] d = some (if d = 0 then x else if d = 1 then y else z) := by
  have h : d = 0 ∨ d = 1 ∨ d = 2 := by omega
  rcases h with rfl | rfl | rfl <;> rfl
def spWhole (K : PySem.W.Frag) : Sp := fun vs H Q _ => ∃ (x : V) (lo hi : Int) (n : String), vs = [x, .int lo, .int hi] ∧ Arg K H x n ∧ Q (.bl (wholeV x lo hi)) H
def spWord (K : PySem.W.Frag) : Sp := fun vs H Q _ => ∃ (x : V) (t : Addr) (ws : List Str) (n : String), vs = [x, .ref t] ∧ SqT K H t (ws.map V.str) ∧ Arg K H x n ∧ Q (.bl (wordV x ws)) H
def spIsInt (K : PySem.W.Frag) : Sp := fun vs H Q _ => ∃ (x : V) (n : String), vs = [x] ∧ Arg K H x n ∧ Q (.bl (isI x && !isB x)) H
/-- what a def hands back or raises, nothing written -/
def spRes (exc : String → Addr) (r : Except String V) (H : Hp) (Q : VK) (E : XK) : Prop := match r with
  | .ok v => Q v H
  | .error n => E (.ref (exc n)) none H
theorem ite_of {c : Prop} [Decidable c] {α : Type} {a b : α} (h : c) : (if c then a else b) = a := if_pos h
/-! ### tables: what its defs hand back or raise -/
def kindV (x : V) : Bool := wordV x ["rest", "ranges"]
def laneAt (k : V) (c m s : Int) : Int := if k = .str "rest" then m % c else m * c / s
def laneOf (k c m s : V) : Except String V :=
  if kindV k = false then .error "BadKind" else if wholeV c 1 (10 ^ 20) = false then .error "BadCount" else if wholeV m 0 (10 ^ 40) = false then .error "BadMark" else
  if wholeV s 1 (10 ^ 40) = false then .error "BadSize" else match c, m, s with
    | .int c, .int m, .int s => if s ≤ m then .error "BadMark" else .ok (.int (laneAt k c m s))
    | _, _, _ => .ok .non
def spChk (K : PySem.W.Frag) (exc : String → Addr) (good : V → Bool) (n : String) : Sp := fun vs H Q E => ∃ (x : V) (tn : String), vs = [x] ∧ Arg K H x tn ∧ spRes exc (if good x = false then .error n else .ok .non) H Q E
def spChkC (K : PySem.W.Frag) (exc : String → Addr) : Sp := fun vs H Q E => ∃ (x : V) (g : Int) (tn : String), vs = [x, .int g] ∧ (g = 10 ^ 20 ∨ g = 1000) ∧ Arg K H x tn ∧ spRes exc (if wholeV x 1 g = false then .error "BadCount" else .ok .non) H Q E
def spLaneAt : Sp := fun vs H Q _ => ∃ (k : Str) (c m s : Int), vs = [.str k, .int c, .int m, .int s] ∧ 1 ≤ c ∧ c ≤ 10 ^ 20 ∧ 0 ≤ m ∧ m < s ∧ s ≤ 10 ^ 40 ∧ Q (.int (laneAt (.str k) c m s)) H
def spLaneOf (K : PySem.W.Frag) (exc : String → Addr) : Sp := fun vs H Q E => ∃ (k c m s : V) (tk tc tm ts : String), vs = [k, c, m, s] ∧ Arg K H k tk ∧ Arg K H c tc ∧ Arg K H m tm ∧ Arg K H s ts ∧ spRes exc (laneOf k c m s) H Q E
theorem whole_int {x : V} {lo hi : Int} (h : wholeV x lo hi = true) : ∃ i, x = .int i ∧ lo ≤ i ∧ i ≤ hi := by
  cases x with
  | int i =>
    have h2 : (decide (lo ≤ i) && decide (i ≤ hi)) = true := h
    rw [Bool.and_eq_true] at h2
    exact ⟨i, rfl, of_decide_eq_true h2.1, of_decide_eq_true h2.2⟩
  | _ => exact nomatch h
theorem word_str {x : V} {ws : List Str} (h : wordV x ws = true) : ∃ s, x = .str s ∧ s ∈ ws := by
  cases x with
  | str s => exact ⟨s, rfl, of_decide_eq_true h⟩
  | _ => exact nomatch h
theorem whole_of {i lo hi : Int} (h : lo ≤ i) (h' : i ≤ hi) : wholeV (.int i) lo hi = true := by
  show (decide (lo ≤ i) && decide (i ≤ hi)) = true
  rw [decide_eq_true h, decide_eq_true h']; rfl
theorem fmt20 : (toString ((10 : Int) ^ 20) : Str).length = 21 := by decide +kernel
end Lc
namespace K00
open PySem PySem.Spec PyProof.Rows L2 Lc
def topS (i : Nat) : Stmt := PySem.Challenge.pw_lanescounted_k00_lane_of_a_mark.main.body.getD i (.Pass ⟨0, 0, 0, 0⟩)
abbrev s_is_whole : Stmt := topS 1
theorem sc_is_whole : FnScope ["thing", "low", "high"] ["thing", "low", "high"] (defScope s_is_whole) := ⟨rfl, rfl, rfl, by decide +kernel, rfl, by decide +kernel, by decide +kernel⟩
abbrev s_is_word : Stmt := topS 2
theorem sc_is_word : FnScope ["thing", "words"] ["thing", "words"] (defScope s_is_word) := ⟨rfl, rfl, rfl, by decide +kernel, rfl, by decide +kernel, by decide +kernel⟩
abbrev s_lane_of : Stmt := topS 14
theorem sc_lane_of : FnScope ["kind", "count", "mark", "size"] ["kind", "count", "mark", "size"] (defScope s_lane_of) := ⟨rfl, rfl, rfl, by decide +kernel, rfl, by decide +kernel, by decide +kernel⟩
abbrev s_check_kind : Stmt := topS 15
theorem sc_check_kind : FnScope ["kind"] ["kind"] (defScope s_check_kind) := ⟨rfl, rfl, rfl, by decide +kernel, rfl, by decide +kernel, by decide +kernel⟩
abbrev s_check_count : Stmt := topS 16
theorem sc_check_count : FnScope ["count", "greatest"] ["count", "greatest"] (defScope s_check_count) := ⟨rfl, rfl, rfl, by decide +kernel, rfl, by decide +kernel, by decide +kernel⟩
abbrev s_check_size : Stmt := topS 17
theorem sc_check_size : FnScope ["size"] ["size"] (defScope s_check_size) := ⟨rfl, rfl, rfl, by decide +kernel, rfl, by decide +kernel, by decide +kernel⟩
abbrev s_lane_at : Stmt := topS 18
theorem sc_lane_at : FnScope ["kind", "count", "mark", "size"] ["kind", "count", "mark", "size"] (defScope s_lane_at) := ⟨rfl, rfl, rfl, by decide +kernel, rfl, by decide +kernel, by decide +kernel⟩
abbrev s_law_source : Stmt := topS 20
theorem sc_law_source : FnScope ["_law_script"] ["_law_script"] (defScope s_law_source) := ⟨rfl, rfl, rfl, by decide +kernel, rfl, by decide +kernel, by decide +kernel⟩
abbrev s_law_draw : Stmt := topS 21
theorem sc_law_draw : FnScope ["_law_source_here", "_law_limit", "_law_cell", "_law_digit", "_law_mixed"] ["_law_source_here", "_law_limit"] (defScope s_law_draw) := ⟨rfl, rfl, rfl, by decide +kernel, rfl, by decide +kernel, by decide +kernel⟩
abbrev s_law_great : Stmt := topS 22
theorem sc_law_great : FnScope ["_law_source_here", "_law_limit", "_law_total", "_law_k"] ["_law_source_here", "_law_limit"] (defScope s_law_great) := ⟨rfl, rfl, rfl, by decide +kernel, rfl, by decide +kernel, by decide +kernel⟩
abbrev s_law_integer : Stmt := topS 23
theorem sc_law_integer : FnScope ["_law_found"] ["_law_found"] (defScope s_law_integer) := ⟨rfl, rfl, rfl, by decide +kernel, rfl, by decide +kernel, by decide +kernel⟩
abbrev s_law : Stmt := topS 24
theorem sc_law : FnScope ["_law_script", "_law_source_here", "_law_kind", "_law_edge", "_law_count", "_law_size", "_law_mark", "_law_lane", "_law_found"] ["_law_script"] (defScope s_law) := ⟨rfl, rfl, rfl, by decide +kernel, rfl, by decide +kernel, by decide +kernel⟩
structure Txt (K : PySem.W.Frag) (mg : Str → Option Value) where
  a_is_whole : Addr
  d_is_whole : FuncData
  F_is_whole : Fun K "is_whole" "is_whole" s_is_whole a_is_whole d_is_whole
  g_is_whole : mg "is_whole" = some (.ref a_is_whole)
  b_is_whole : Binds K d_is_whole ["thing", "low", "high"] []
  a_is_word : Addr
  d_is_word : FuncData
  F_is_word : Fun K "is_word" "is_word" s_is_word a_is_word d_is_word
  g_is_word : mg "is_word" = some (.ref a_is_word)
  b_is_word : Binds K d_is_word ["thing", "words"] []
  a_lane_of : Addr
  d_lane_of : FuncData
  F_lane_of : Fun K "lane_of" "lane_of" s_lane_of a_lane_of d_lane_of
  g_lane_of : mg "lane_of" = some (.ref a_lane_of)
  b_lane_of : Binds K d_lane_of ["kind", "count", "mark", "size"] []
  a_check_kind : Addr
  d_check_kind : FuncData
  F_check_kind : Fun K "check_kind" "check_kind" s_check_kind a_check_kind d_check_kind
  g_check_kind : mg "check_kind" = some (.ref a_check_kind)
  b_check_kind : Binds K d_check_kind ["kind"] []
  a_check_count : Addr
  d_check_count : FuncData
  F_check_count : Fun K "check_count" "check_count" s_check_count a_check_count d_check_count
  g_check_count : mg "check_count" = some (.ref a_check_count)
  b_check_count : Binds K d_check_count ["count", "greatest"] []
  a_check_size : Addr
  d_check_size : FuncData
  F_check_size : Fun K "check_size" "check_size" s_check_size a_check_size d_check_size
  g_check_size : mg "check_size" = some (.ref a_check_size)
  b_check_size : Binds K d_check_size ["size"] []
  a_lane_at : Addr
  d_lane_at : FuncData
  F_lane_at : Fun K "lane_at" "lane_at" s_lane_at a_lane_at d_lane_at
  g_lane_at : mg "lane_at" = some (.ref a_lane_at)
  b_lane_at : Binds K d_lane_at ["kind", "count", "mark", "size"] []
  a_law_source : Addr
  d_law_source : FuncData
  F_law_source : Fun K "_law_source" "_law_source" s_law_source a_law_source d_law_source
  g_law_source : mg "_law_source" = some (.ref a_law_source)
  b_law_source : Binds K d_law_source ["_law_script"] []
  a_law_draw : Addr
  d_law_draw : FuncData
  F_law_draw : Fun K "_law_draw" "_law_draw" s_law_draw a_law_draw d_law_draw
  g_law_draw : mg "_law_draw" = some (.ref a_law_draw)
  b_law_draw : Binds K d_law_draw ["_law_source_here", "_law_limit"] []
  a_law_great : Addr
  d_law_great : FuncData
  F_law_great : Fun K "_law_great" "_law_great" s_law_great a_law_great d_law_great
  g_law_great : mg "_law_great" = some (.ref a_law_great)
  b_law_great : Binds K d_law_great ["_law_source_here", "_law_limit"] []
  a_law_integer : Addr
  d_law_integer : FuncData
  F_law_integer : Fun K "_law_integer" "_law_integer" s_law_integer a_law_integer d_law_integer
  g_law_integer : mg "_law_integer" = some (.ref a_law_integer)
  b_law_integer : Binds K d_law_integer ["_law_found"] []
  a_law : Addr
  d_law : FuncData
  F_law : Fun K "law" "law" s_law a_law d_law
  g_law : mg "law" = some (.ref a_law)
  b_law : Binds K d_law ["_law_script"] []
  z_bool : mg "bool" = none
  z_int : mg "int" = none
  z_isinstance : mg "isinstance" = none
  z_list : mg "list" = none
  z_max : mg "max" = none
  z_range : mg "range" = none
  z_str : mg "str" = none
  c_KINDS : Addr
  g_KINDS : mg "KINDS" = some (.ref c_KINDS)
  r_KINDS : RelV (.ref c_KINDS) (.ref c_KINDS)
  q_KINDS : ∀ H, SqT K H c_KINDS [.str "rest", .str "ranges"]
  u_GREATEST_COUNT : Value
  g_GREATEST_COUNT : mg "GREATEST_COUNT" = some u_GREATEST_COUNT
  r_GREATEST_COUNT : RelV (.int 100000000000000000000) u_GREATEST_COUNT
  u_GREATEST_MARK : Value
  g_GREATEST_MARK : mg "GREATEST_MARK" = some u_GREATEST_MARK
  r_GREATEST_MARK : RelV (.int 10000000000000000000000000000000000000000) u_GREATEST_MARK
  u_GREATEST_SIZE : Value
  g_GREATEST_SIZE : mg "GREATEST_SIZE" = some u_GREATEST_SIZE
  r_GREATEST_SIZE : RelV (.int 10000000000000000000000000000000000000000) u_GREATEST_SIZE
  C_LaneError : Addr
  g_LaneError : mg "LaneError" = some (.ref C_LaneError)
  x_LaneError : PySem.W.excIn K C_LaneError [.type "ValueError", .type "Exception", .type "BaseException", .type "object"] "ValueError.__new__" = true
  k_LaneError : PySem.W.keepIn K (.ref C_LaneError) = true
  p_LaneError : PySem.W.subIn K (.ref C_LaneError) (.type "BaseException") = some true
  t_LaneError : PySem.W.typeIn K (.ref C_LaneError) = some (.type "type")
  i_LaneError : PySem.W.isClsIn K C_LaneError = true
  C_BadKind : Addr
  g_BadKind : mg "BadKind" = some (.ref C_BadKind)
  x_BadKind : PySem.W.excIn K C_BadKind [.type "ValueError", .type "Exception", .type "BaseException", .type "object"] "ValueError.__new__" = true
  k_BadKind : PySem.W.keepIn K (.ref C_BadKind) = true
  p_BadKind : PySem.W.subIn K (.ref C_BadKind) (.type "BaseException") = some true
  t_BadKind : PySem.W.typeIn K (.ref C_BadKind) = some (.type "type")
  i_BadKind : PySem.W.isClsIn K C_BadKind = true
  C_BadCount : Addr
  g_BadCount : mg "BadCount" = some (.ref C_BadCount)
  x_BadCount : PySem.W.excIn K C_BadCount [.type "ValueError", .type "Exception", .type "BaseException", .type "object"] "ValueError.__new__" = true
  k_BadCount : PySem.W.keepIn K (.ref C_BadCount) = true
  p_BadCount : PySem.W.subIn K (.ref C_BadCount) (.type "BaseException") = some true
  t_BadCount : PySem.W.typeIn K (.ref C_BadCount) = some (.type "type")
  i_BadCount : PySem.W.isClsIn K C_BadCount = true
  C_BadMark : Addr
  g_BadMark : mg "BadMark" = some (.ref C_BadMark)
  x_BadMark : PySem.W.excIn K C_BadMark [.type "ValueError", .type "Exception", .type "BaseException", .type "object"] "ValueError.__new__" = true
  k_BadMark : PySem.W.keepIn K (.ref C_BadMark) = true
  p_BadMark : PySem.W.subIn K (.ref C_BadMark) (.type "BaseException") = some true
  t_BadMark : PySem.W.typeIn K (.ref C_BadMark) = some (.type "type")
  i_BadMark : PySem.W.isClsIn K C_BadMark = true
  C_BadSize : Addr
  g_BadSize : mg "BadSize" = some (.ref C_BadSize)
  x_BadSize : PySem.W.excIn K C_BadSize [.type "ValueError", .type "Exception", .type "BaseException", .type "object"] "ValueError.__new__" = true
  k_BadSize : PySem.W.keepIn K (.ref C_BadSize) = true
  p_BadSize : PySem.W.subIn K (.ref C_BadSize) (.type "BaseException") = some true
  t_BadSize : PySem.W.typeIn K (.ref C_BadSize) = some (.type "type")
  i_BadSize : PySem.W.isClsIn K C_BadSize = true
def Txt.exc {K : PySem.W.Frag} {mg : Str → Option Value} (T : Txt K mg) (n : String) : Addr := if n = "LaneError" then T.C_LaneError else if n = "BadKind" then T.C_BadKind else if n = "BadCount" then T.C_BadCount else if n = "BadMark" then T.C_BadMark else if n = "BadSize" then T.C_BadSize else 0
section
variable {P : Program} {w : World} {K : PySem.W.Frag} {mg : Str → Option Value} {base : Heap}
theorem ok_law_source (T : Txt K mg) : FnOk P w K mg base CX0 1 T.a_law_source T.d_law_source ["_law_script"] (spSource K) := by
  refine T.F_law_source.ok sc_law_source (fun vs H Q E h => ?_) (fun cdv A outer s H vs Q E hr h => ?_)
  · obtain ⟨a, ns, rfl, _⟩ := h
    rfl
  · obtain ⟨a, ns, rfl, hS, hlen, hb, q⟩ := h
    refine ⟨_, (pss_one (ps_ret (pe_lst (pa_cons (pe_callTy call_list_of (by rfl) T.z_list (by decide +kernel) (pa_cons (pv 0) pa_nil)) (pa_cons pe_int (pa_cons pe_int (pa_cons pe_int pa_nil))))))), ?_⟩
    refine ⟨.ref a, rfl, a, _, rfl, .inl hS, fun l hl => ⟨(by show 4 ≤ sizeLine; decide), fun p hp => ?_⟩⟩
    have hpl : l ≠ p := ne_of_none upd_same hp
    have hp0 : H p = none := by rw [← upd_ne (H := H) (o := .lst (ns.map V.int)) hpl.symm]; exact hp
    refine q p _ hp0 ⟨l, ns, 0, 1, 0, upd_same, (by rw [upd_ne hpl]; exact upd_same), fun k hk => bits_log (hb k hk), hlen, by decide, by decide, by decide, by decide, by decide, by decide⟩ ((same_upd hl).trans (same_upd hp))
theorem ok_law_draw (T : Txt K mg) : FnOk P w K mg base CX0 1 T.a_law_draw T.d_law_draw ["_law_source_here", "_law_limit"] spDraw := by
  refine T.F_law_draw.ok sc_law_draw (fun vs H Q E h => ?_) (fun cdv A outer s H vs Q E hr h => ?_)
  · obtain ⟨a, n, lim, rfl, _⟩ := h
    rfl
  · obtain ⟨a, n, lim, rfl, S, hn, l1, l2, q⟩ := h
    refine ⟨_, (pss_cons (ps_if (PW.pt (pw_and (pt_cmpR op_lt (pe_ix ix_list (pv 0) pe_int (fun _ _ => rfl)) (pv 1) (nomark _)) (pw_and1 (pt_truth (pe_ix ix_list (pv 0) pe_int (fun _ _ => rfl)) (by intro _; rfl)))))
      (pss_cons (ps_set (i := 2) sc_law_draw.nd rfl (Or.inl rfl) (pe_ix ix_list (pe_ix ix_list (pv 0) pe_int (fun _ _ => rfl)) pe_int (fun _ _ => rfl)))
      (pss_cons (ps_asg (pe_slice sl_list (pe_ix ix_list (pv 0) pe_int (fun _ _ => rfl)) (po_some pe_int) po_none) (pg_sub (pv 0) pe_int set_list))
      (pss_one (ps_if (pt_cmpR op_ge (pv 2) (pe_op op_pow pe_int pe_int) (nomark _))
      (pss_one (ps_asg (pv 2) (pg_sub (pv 0) pe_int set_list)))
      (pss_one (ps_asg (pe_op op_mod (pe_callTy call_int1 (by rfl) T.z_int (by decide +kernel) (pa_cons (pe_op op_add (pe_op op_add (pe_op Lc.op_mulX (pe_ix ix_list (pv 0) pe_int (fun _ _ => rfl)) pe_int) (pe_op Lc.op_mulX (pv 2) pe_int)) pe_int) pa_nil)) pe_int) (pg_sub (pv 0) pe_int set_list)))))))
      pss_nil)
      (pss_cons (ps_if (pt_cmpR op_ge (pe_ix ix_list (pv 0) pe_int (fun _ _ => rfl)) (pv 1) (nomark _))
      (pss_cons (ps_set (i := 3) sc_law_draw.nd rfl (Or.inl rfl) (pe_op op_mod (pe_callTy call_int1 (by rfl) T.z_int (by decide +kernel) (pa_cons (pe_ix ix_list (pv 0) pe_int (fun _ _ => rfl)) pa_nil)) (pv 1)))
      (pss_cons (ps_asg (pe_op op_fdivW (pe_ix ix_list (pv 0) pe_int (fun _ _ => rfl)) (pv 1)) (pg_sub (pv 0) pe_int set_list))
      (pss_one (ps_ret (pv 3)))))
      pss_nil)
      (pss_cons (ps_asg (pe_op op_add (pe_ix ix_list (pv 0) pe_int (fun _ _ => rfl)) pe_int) (pg_sub (pv 0) pe_int set_list))
      (pss_cons (ps_set (i := 4) sc_law_draw.nd rfl (Or.inl rfl) (pe_op op_mod (pe_callTy call_int1 (by rfl) T.z_int (by decide +kernel) (pa_cons (pe_op op_add (pe_ix ix_list (pv 0) pe_int (fun _ _ => rfl)) (pe_op Lc.op_mulX (pe_ix ix_list (pv 0) pe_int (fun _ _ => rfl)) pe_int)) pa_nil)) pe_int))
      (pss_one (ps_ret (pe_op op_mod (pe_op op_mod (pe_callTy call_int1 (by rfl) T.z_int (by decide +kernel) (pa_cons (pe_op op_add (pe_op op_add (pe_op Lc.op_mulX (pv 4) (pv 4)) (pe_op Lc.op_mulX (pe_ix ix_list (pv 0) pe_int (fun _ _ => rfl)) pe_int)) (pe_ix ix_list (pv 0) pe_int (fun _ _ => rfl))) pa_nil)) pe_int) (pv 1)))))))), ?_⟩
    refine seq_cut (fun σ' H' => ∃ c, σ' = [some (.ref a), some (.int lim), c, none, none] ∧ Src H' a n ∧ But a H H') ?_ (fun K1 => ?_)
    · rintro σ' H' ⟨c, rfl, S', B'⟩
      obtain ⟨l, ns, x, y, z, ha, hl, hb, hlen, x0, xb, y0, y1, z0, z1⟩ := S'.ex
      have nla : l ≠ a := fun e => by
        subst e; rw [ha] at hl
        have e2 := HO.lst.inj (Option.some.inj hl)
        cases ns with
        | nil => exact nomatch e2
        | cons k r => exact nomatch (List.cons.inj e2).1
      refine ⟨.ref a, rfl, a, _, 1, .int x, rfl, rfl, SqL.of ha, atI_nat (j := 1) rfl, .int lim, rfl, x, lim, rfl, rfl, _, rfl, ite2 (fun e => ?_) (fun e => ?_)⟩
      · have e1 : lim ≤ x := of_decide_eq_true e
        refine ⟨.ref a, rfl, a, _, 1, .int x, rfl, rfl, SqL.of ha, atI_nat (j := 1) rfl, .inl ⟨x, rfl, .int lim, rfl, x, lim, rfl, rfl, (by show 0 < lim; omega), ?_⟩⟩
        refine ⟨.ref a, rfl, a, _, 1, .int x, rfl, rfl, SqL.of ha, atI_nat (j := 1) rfl, .int lim, rfl, x, lim, rfl, rfl, divX (by omega) (Nat.lt_of_lt_of_le (by omega : lim.natAbs < 2 ^ 64) (Nat.pow_le_pow_right (by decide) (by decide))), .ref a, rfl, a, _, 1, 1, rfl, rfl, ha, rfl, ?_⟩
        refine ⟨.int (x % lim), rfl, q _ _ (Int.emod_nonneg x (by omega)) (Int.emod_lt_of_pos x (by omega)) ?_ B'.upd⟩
        exact ⟨l, ns, x / lim, y, z, upd_same, (by rw [upd_ne nla]; exact hl), hb, hlen, Int.ediv_nonneg x0 (by omega), idiv_log x0 l1 xb, y0, y1, z0, by omega⟩
      · refine ⟨.ref a, rfl, a, _, 3, .int z, rfl, rfl, SqL.of ha, atI_nat (j := 3) rfl, z, 1, rfl, rfl, .ref a, rfl, a, _, 3, 3, rfl, rfl, ha, rfl, ?_⟩
        have ha2 : (upd H' a (.lst [.ref l, .int x, .int y, .int (z + 1)])) a = some (.lst [.ref l, .int x, .int y, .int (z + 1)]) := upd_same
        have fz : Few (z + 1) := few_le (b := 1000000) (by omega) (by omega) (by decide)
        refine ⟨.ref a, rfl, a, _, 2, .int y, rfl, rfl, SqL.of ha2, atI_nat (j := 2) rfl, .ref a, rfl, a, _, 3, .int (z + 1), rfl, rfl, SqL.of ha2, atI_nat (j := 3) rfl, z + 1, 40692, rfl, rfl, mulX fz (few_le (b := 40692) (by decide) (by decide) (by decide)), y, _, rfl, rfl, .inl ⟨_, rfl, _, _, rfl, rfl, (by show (0 : Int) < 2147483399; decide), ?_⟩⟩
        have m0 : 0 ≤ (y + (z + 1) * 40692) % 2147483399 := Int.emod_nonneg _ (by decide)
        have m1 : (y + (z + 1) * 40692) % 2147483399 < 2147483399 := Int.emod_lt_of_pos _ (by decide)
        have fm := few_le (b := 2147483399) m0 (Int.le_of_lt m1) (by decide)
        refine ⟨_, rfl, _, rfl, _, _, rfl, rfl, mulX fm fm, .ref a, rfl, a, _, 3, .int (z + 1), rfl, rfl, SqL.of ha2, atI_nat (j := 3) rfl, z + 1, 3791, rfl, rfl, mulX fz (few_le (b := 3791) (by decide) (by decide) (by decide)), _, _, rfl, rfl, .ref a, rfl, a, _, 2, .int y, rfl, rfl, SqL.of ha2, atI_nat (j := 2) rfl, _, y, rfl, rfl, .inl ⟨_, rfl, _, _, rfl, rfl, (by show (0 : Int) < 2147483647; decide), .int lim, rfl, _, lim, rfl, rfl, (by show 0 < lim; omega), ?_⟩⟩
        refine q _ _ (Int.emod_nonneg _ (by omega)) (Int.emod_lt_of_pos _ (by omega)) ?_ B'.upd
        exact ⟨l, ns, x, y, z + 1, upd_same, (by rw [upd_ne nla]; exact hl), hb, hlen, x0, xb, y0, y1, by omega, by omega⟩
    · obtain ⟨l, ns, x, y, z, ha, hl, hb, hlen, x0, xb, y0, y1, z0, z1⟩ := S.ex
      refine ⟨.ref a, rfl, a, _, 1, .int x, rfl, rfl, SqL.of ha, atI_nat (j := 1) rfl, .int lim, rfl, x, lim, rfl, rfl, _, rfl, ite2 (fun e => ?_) (fun e => ?_)⟩
      · refine ⟨.ref a, rfl, a, _, 0, .ref l, rfl, rfl, SqL.of ha, atI_nat (j := 0) rfl, _, .inl ⟨_, SqL.of hl, rfl⟩, ?_⟩
        cases ns with
        | nil => exact iteF (K1 _ _ ⟨none, rfl, S, But.refl _ _⟩)
        | cons k r =>
          refine iteT ?_
          refine ⟨.ref a, rfl, a, _, 0, .ref l, rfl, rfl, SqL.of ha, atI_nat (j := 0) rfl, l, _, 0, .int k, rfl, rfl, SqL.of hl, atI_nat (j := 0) rfl, ?_⟩
          refine ⟨.ref a, rfl, a, _, 0, .ref l, rfl, rfl, SqL.of ha, atI_nat (j := 0) rfl, 1, rfl, l, _, rfl, SqL.of hl, fun p hp => ?_⟩
          have npa : a ≠ p := ne_of_none ha hp
          have ha1 : (upd H p (.lst (cutV ((k :: r).map V.int) (some 1) none))) a = some (.lst [.ref l, .int x, .int y, .int z]) := by
            rw [upd_ne npa]; exact ha
          refine ⟨.ref a, rfl, a, _, 0, 0, rfl, rfl, ha1, rfl, ?_⟩
          have ec : cutV ((k :: r).map V.int) (some 1) none = r.map V.int := by rw [cut1]; rfl
          rw [ec]
          have ha2 : (upd (upd H p (.lst (r.map V.int))) a (.lst [.ref p, .int x, .int y, .int z])) a = some (.lst [.ref p, .int x, .int y, .int z]) := upd_same
          have hp2 : (upd (upd H p (.lst (r.map V.int))) a (.lst [.ref p, .int x, .int y, .int z])) p = some (.lst (r.map V.int)) := by
            rw [upd_ne npa.symm]; exact upd_same
          have B2 : But a H (upd (upd H p (.lst (r.map V.int))) a (.lst [.ref p, .int x, .int y, .int z])) := (Same.but (same_upd hp)).upd
          have hk : k.natAbs.log2 ≤ 1048576 := hb k List.mem_cons_self
          have hr' : ∀ j ∈ r, j.natAbs.log2 ≤ 1048576 := fun j hj => hb j (List.mem_cons_of_mem _ hj)
          have hlr : r.length ≤ 63 := by rw [List.length_cons] at hlen; omega
          refine ⟨.int k, rfl, 10, 18, rfl, rfl, ⟨by decide, by decide, by decide⟩, k, _, rfl, rfl, _, rfl, ite2 (fun e => ?_) (fun e => ?_)⟩
          · have e1 : (10 : Int) ^ 18 ≤ k := of_decide_eq_true e
            refine ⟨.int k, rfl, .ref a, rfl, a, _, 1, 1, rfl, rfl, ha2, rfl, ?_⟩
            refine K1 _ _ ⟨some (.int k), rfl, ⟨p, r, k, y, z, upd_same, ?_, hr', hlr, by omega, hk, y0, y1, z0, z1⟩, B2.upd⟩
            rw [upd_ne npa.symm]; exact hp2
          · refine ⟨.ref a, rfl, a, _, 2, .int y, rfl, rfl, SqL.of ha2, atI_nat (j := 2) rfl, y, 48271, rfl, rfl, mulX (few_le (b := 2147483647) y0 (by omega) (by decide)) (few_le (b := 48271) (by decide) (by decide) (by decide)), .int k, rfl, k, 69621, rfl, rfl, mulX (few_bits hk) (few_le (b := 69621) (by decide) (by decide) (by decide)), _, _, rfl, rfl, _, 7, rfl, rfl, .inl ⟨_, rfl, _, _, rfl, rfl, (by show (0 : Int) < 2147483647; decide), .ref a, rfl, a, _, 2, 2, rfl, rfl, ha2, rfl, ?_⟩⟩
            refine K1 _ _ ⟨some (.int k), rfl, ⟨p, r, x, _, z, upd_same, ?_, hr', hlr, x0, xb, Int.emod_nonneg _ (by decide), Int.emod_lt_of_pos _ (by decide), z0, z1⟩, B2.upd⟩
            rw [upd_ne npa.symm]; exact hp2
      · exact iteF (K1 _ _ ⟨none, rfl, S, But.refl _ _⟩)
end

section
variable {P : Program} {w : World} {K : PySem.W.Frag} {mg : Str → Option Value} {base : Heap}
theorem ok_law_great (T : Txt K mg) : FnOk P w K mg base CX0 2 T.a_law_great T.d_law_great ["_law_source_here", "_law_limit"] spGreat := by
  refine T.F_law_great.ok sc_law_great (fun vs H Q E h => ?_) (fun cdv A outer s H vs Q E hr h => ?_)
  · obtain ⟨a, n, lim, rfl, _⟩ := h
    rfl
  · obtain ⟨a, n, lim, rfl, S, hn, l1, l2, q⟩ := h
    refine ⟨_, (pss_cons (ps_set (i := 2) sc_law_great.nd rfl (Or.inl rfl) pe_int)
      (pss_cons (ps_for PassesOwn.never rfl (pi_range1 rfl T.z_range (pa_cons pe_int pa_nil)) (pg_name (i := 3) sc_law_great.nd rfl (Or.inl rfl))
      (pss_one (ps_set (i := 2) sc_law_great.nd rfl (Or.inl rfl) (pe_op op_add (pe_op Lc.op_mulX (pv 2) (pe_op op_pow pe_int pe_int)) (pe_call (ok_law_draw T) (hr.mono (by decide)) rfl T.g_law_draw T.F_law_draw.kp T.b_law_draw .nil pass0 (pa_cons (pv 0) (pa_cons (pe_op op_pow pe_int pe_int) pa_nil)))))))
      (pss_one (ps_ret (pe_op op_mod (pe_callTy call_int1 (by rfl) T.z_int (by decide +kernel) (pa_cons (pv 2) pa_nil)) (pv 1)))))), ?_⟩
    refine ⟨5, rfl, by decide, by decide, for_range (n := 5) (fun i σ' H' => ∃ t c, σ' = [some (.ref a), some (.int lim), some (.int t), c] ∧ 0 ≤ t ∧ t < pw9 i ∧ Src H' a (n + i) ∧ But a H H') ⟨0, none, rfl, by decide, by decide, S, But.refl _ _⟩ ?_ ?_⟩
    · rintro i σ' H' hi ⟨t, c, rfl, t0, t1, S', B'⟩
      have hp := pw9_le (Nat.le_of_lt hi)
      have ft : Few t := few_le (b := 10 ^ 60) t0 (by omega) (by decide)
      refine ⟨.int t, rfl, 10, 9, rfl, rfl, ⟨by decide, by decide, by decide⟩, t, _, rfl, rfl, mulX ft (few_of (by decide)), .ref a, rfl, 10, 9, rfl, rfl, ⟨by decide, by decide, by decide⟩, a, n + i, _, rfl, S', by omega, by decide, by decide, fun d H2 d0 d1 S2 B2 => ?_⟩
      have d1' : d < 1000000000 := d1
      refine ⟨_, d, rfl, rfl, t * 10 ^ (9 : Int).toNat + d, _, rfl, ?_, ?_, S2, B'.trans B2⟩
      · have : t * 10 ^ (9 : Int).toNat = t * 1000000000 := rfl
        omega
      · have e : t * 10 ^ (9 : Int).toNat = t * 1000000000 := rfl
        have e2 : pw9 (i + 1) = pw9 i * 1000000000 := rfl
        omega
    · rintro σ' H' ⟨t, c, rfl, t0, t1, S', B'⟩
      refine ⟨.int t, rfl, .inl ⟨t, rfl, .int lim, rfl, t, lim, rfl, rfl, (by show 0 < lim; omega), ?_⟩⟩
      exact q _ _ (Int.emod_nonneg _ (by omega)) (Int.emod_lt_of_pos _ (by omega)) S' B'
end

section
variable {P : Program} {w : World} {K : PySem.W.Frag} {mg : Str → Option Value} {base : Heap}
theorem ok_is_whole (T : Txt K mg) : FnOk P w K mg base CX0 1 T.a_is_whole T.d_is_whole ["thing", "low", "high"] (spWhole K) := by
  refine T.F_is_whole.ok sc_is_whole (fun vs H Q E h => ?_) (fun cdv A outer s H vs Q E hr h => ?_)
  · obtain ⟨x, lo, hi, n, rfl, _⟩ := h
    rfl
  · obtain ⟨x, lo, hi, n, rfl, hx, q⟩ := h
    refine ⟨_, (pss_one (ps_ret (pe_and (pe_callB call_isi (by rfl) T.z_isinstance (by decide +kernel) (pa_cons (pv 0) (pa_cons (pe_bltn (v := .ty "int") (by rfl) T.z_int (by decide +kernel) rfl) pa_nil))) (pe_and (pe_not (pe_callB call_isi (by rfl) T.z_isinstance (by decide +kernel) (pa_cons (pv 0) (pa_cons (pe_bltn (v := .ty "bool") (by rfl) T.z_bool (by decide +kernel) rfl) pa_nil)))) (pe_one (pe_chain op_le op_le (pv 1) (pv 0) (pv 2))))))), ?_⟩
    refine ⟨x, rfl, x, _, _, _, _, rfl, .ty _, hx.ty, hx.int?, _, rfl, ?_⟩
    cases x with
    | int i =>
      refine iteT ⟨_, rfl, _, _, _, _, _, rfl, .ty _, hx.ty, hx.bool?, _, rfl, _, rfl, iteT ?_⟩
      refine ⟨_, rfl, _, rfl, lo, i, rfl, rfl, _, rfl, ite2 (fun e => ?_) (fun e => ?_)⟩
      · refine ⟨_, rfl, i, hi, rfl, rfl, ?_⟩
        have e2 : wholeV (.int i) lo hi = decide (i ≤ hi) := by
          show (decide (lo ≤ i) && decide (i ≤ hi)) = _
          rw [e, Bool.true_and]
        rw [e2] at q
        exact q
      · have e2 : wholeV (.int i) lo hi = false := by
          show (decide (lo ≤ i) && decide (i ≤ hi)) = _
          rw [Bool.eq_false_iff.mpr e, Bool.false_and]
        rw [e2] at q
        exact q
    | bl b => exact iteT ⟨_, rfl, _, _, _, _, _, rfl, .ty _, hx.ty, hx.bool?, _, rfl, _, rfl, iteF q⟩
    | non => exact iteF q
    | str z => exact iteF q
    | byt z => cases hx
    | flt z => cases hx
    | ref z => exact iteF q
    | ty z => cases hx
theorem ok_is_word (T : Txt K mg) : FnOk P w K mg base CX0 1 T.a_is_word T.d_is_word ["thing", "words"] (spWord K) := by
  refine T.F_is_word.ok sc_is_word (fun vs H Q E h => ?_) (fun cdv A outer s H vs Q E hr h => ?_)
  · obtain ⟨x, t, ws, n, rfl, _⟩ := h
    rfl
  · obtain ⟨x, t, ws, n, rfl, ht, hx, q⟩ := h
    refine ⟨_, (pss_one (ps_ret (pe_and (pe_callB call_isi (by rfl) T.z_isinstance (by decide +kernel) (pa_cons (pv 0) (pa_cons (pe_bltn (v := .ty "str") (by rfl) T.z_str (by decide +kernel) rfl) pa_nil))) (pe_one (pe_cmpR op_in_seq (pv 0) (pv 1) rfl))))), ?_⟩
    refine ⟨x, rfl, x, _, _, _, _, rfl, .ty _, hx.ty, hx.str?, _, rfl, ?_⟩
    cases x with
    | str z =>
      refine iteT ⟨_, rfl, _, rfl, t, _, rfl, .inr ht, rfl, all_flat_str ws, ?_⟩
      rw [show (if false = true then !inV (V.str z) (ws.map V.str) else inV (V.str z) (ws.map V.str)) = decide (z ∈ ws) from inV_str z ws]
      exact q
    | int i => exact iteF q
    | bl b => exact iteF q
    | non => exact iteF q
    | byt z => cases hx
    | flt z => cases hx
    | ref z => exact iteF q
    | ty z => cases hx
end

section
variable {P : Program} {w : World} {K : PySem.W.Frag} {mg : Str → Option Value} {base : Heap}
theorem ok_law_integer (T : Txt K mg) : FnOk P w K mg base CX0 1 T.a_law_integer T.d_law_integer ["_law_found"] (spIsInt K) := by
  refine T.F_law_integer.ok sc_law_integer (fun vs H Q E h => ?_) (fun cdv A outer s H vs Q E hr h => ?_)
  · obtain ⟨x, n, rfl, _⟩ := h
    rfl
  · obtain ⟨x, n, rfl, hx, q⟩ := h
    refine ⟨_, (pss_one (ps_ret (pe_and (pe_callB call_isi (by rfl) T.z_isinstance (by decide +kernel) (pa_cons (pv 0) (pa_cons (pe_bltn (v := .ty "int") (by rfl) T.z_int (by decide +kernel) rfl) pa_nil))) (pe_one (pe_not (pe_callB call_isi (by rfl) T.z_isinstance (by decide +kernel) (pa_cons (pv 0) (pa_cons (pe_bltn (v := .ty "bool") (by rfl) T.z_bool (by decide +kernel) rfl) pa_nil)))))))), ?_⟩
    refine ⟨x, rfl, x, _, _, _, _, rfl, .ty _, hx.ty, hx.int?, _, rfl, ?_⟩
    cases e : isI x with
    | true =>
      rw [e, Bool.true_and] at q
      exact iteT ⟨_, rfl, _, _, _, _, _, rfl, .ty _, hx.ty, hx.bool?, _, rfl, q⟩
    | false =>
      rw [e, Bool.false_and] at q
      exact iteF q
end

section
variable {P : Program} {w : World} {K : PySem.W.Frag} {mg : Str → Option Value} {base : Heap}
theorem ok_check_kind (T : Txt K mg) : FnOk P w K mg base (L2.CX P w) 2 T.a_check_kind T.d_check_kind ["kind"] (spChk K T.exc kindV "BadKind") := by
  refine T.F_check_kind.okX sc_check_kind (fun vs H Q E h => ?_) (fun cdv A outer s H vs Q E hr h => ?_)
  · obtain ⟨x, n, rfl, _⟩ := h
    rfl
  · obtain ⟨x, n, rfl, hx, q⟩ := h
    refine ⟨_, (pss_one (ps_if (pt_not (pt_val (pe_call (ok_is_word T) (hr.mono (by decide)) rfl T.g_is_word T.F_is_word.kp T.b_is_word .nil pass0 (pa_cons (pv 0) (pa_cons (pe_glob rfl T.g_KINDS T.r_KINDS) pa_nil)))))
      (pss_one (ps_raise rfl (takes_of rfl rfl rfl rfl) (pmk_own PySem.F.excBase_ValueError T.x_BadKind T.g_BadKind T.k_BadKind (raises_own T.p_BadKind T.t_BadKind) rfl)))
      pss_nil)), ?_⟩
    refine ⟨x, rfl, x, T.c_KINDS, ["rest", "ranges"], n, rfl, T.q_KINDS H, hx, _, rfl, ?_⟩
    cases e : kindV x with
    | false =>
      rw [e] at q
      exact if_pos (show (!kindV x) = true by rw [e]; rfl) ▸ q
    | true =>
      rw [e] at q
      exact if_neg (show ¬ (!kindV x) = true by rw [e]; decide) ▸ q
theorem ok_check_size (T : Txt K mg) : FnOk P w K mg base (L2.CX P w) 2 T.a_check_size T.d_check_size ["size"] (spChk K T.exc (fun x => wholeV x 1 (10 ^ 40)) "BadSize") := by
  refine T.F_check_size.okX sc_check_size (fun vs H Q E h => ?_) (fun cdv A outer s H vs Q E hr h => ?_)
  · obtain ⟨x, n, rfl, _⟩ := h
    rfl
  · obtain ⟨x, n, rfl, hx, q⟩ := h
    refine ⟨_, (pss_one (ps_if (pt_not (pt_val (pe_call (ok_is_whole T) (hr.mono (by decide)) rfl T.g_is_whole T.F_is_whole.kp T.b_is_whole .nil pass0 (pa_cons (pv 0) (pa_cons pe_int (pa_cons (pe_glob rfl T.g_GREATEST_SIZE T.r_GREATEST_SIZE) pa_nil))))))
      (pss_one (ps_raise rfl (takes_of rfl rfl rfl rfl) (pmk_own PySem.F.excBase_ValueError T.x_BadSize T.g_BadSize T.k_BadSize (raises_own T.p_BadSize T.t_BadSize) rfl)))
      pss_nil)), ?_⟩
    refine ⟨x, rfl, x, 1, 10 ^ 40, n, rfl, hx, _, rfl, ?_⟩
    cases e : wholeV x 1 (10 ^ 40) with
    | false =>
      simp only [e] at q
      exact q
    | true =>
      simp only [e] at q
      exact q
theorem ok_check_count (T : Txt K mg) : FnOk P w K mg base (L2.CX P w) 2 T.a_check_count T.d_check_count ["count", "greatest"] (spChkC K T.exc) := by
  refine T.F_check_count.okX sc_check_count (fun vs H Q E h => ?_) (fun cdv A outer s H vs Q E hr h => ?_)
  · obtain ⟨x, g, n, rfl, _⟩ := h
    rfl
  · obtain ⟨x, g, n, rfl, hg, hx, q⟩ := h
    refine ⟨_, (pss_one (ps_if (pt_not (pt_val (pe_call (ok_is_whole T) (hr.mono (by decide)) rfl T.g_is_whole T.F_is_whole.kp T.b_is_whole .nil pass0 (pa_cons (pv 0) (pa_cons pe_int (pa_cons (pv 1) pa_nil))))))
      (pss_one (ps_raise rfl (takes_of rfl rfl rfl rfl) (pmk_ownA PySem.F.excBase_ValueError T.x_BadCount T.g_BadCount T.k_BadCount (raises_own T.p_BadCount T.t_BadCount) rfl (pa_cons (pe_joined (.cons pe_str (.cons (pe_fmt (pv 1)) (.cons pe_str .nil)))) pa_nil))))
      pss_nil)), ?_⟩
    refine ⟨x, rfl, .int g, rfl, x, 1, g, n, rfl, hx, _, rfl, ?_⟩
    cases e : wholeV x 1 g with
    | false =>
      simp only [e] at q
      refine iteT ?_
      rcases hg with rfl | rfl
      · exact ⟨_, rfl, by decide +kernel, .int _, rfl, .inr ⟨_, rfl, by decide +kernel, _, rfl, by decide +kernel, _, rfl, by decide +kernel, by decide +kernel, q⟩⟩
      · exact ⟨_, rfl, by decide +kernel, .int _, rfl, .inr ⟨_, rfl, by decide +kernel, _, rfl, by decide +kernel, _, rfl, by decide +kernel, by decide +kernel, q⟩⟩
    | true =>
      simp only [e] at q
      exact iteF q
theorem ok_lane_at (T : Txt K mg) : FnOk P w K mg base CX0 1 T.a_lane_at T.d_lane_at ["kind", "count", "mark", "size"] spLaneAt := by
  refine T.F_lane_at.ok sc_lane_at (fun vs H Q E h => ?_) (fun cdv A outer s H vs Q E hr h => ?_)
  · obtain ⟨k, c, m, s, rfl, _⟩ := h
    rfl
  · obtain ⟨k, c, m, s, rfl, c1, c2, m0, ms, s1, q⟩ := h
    refine ⟨_, (pss_one (ps_ret (pe_ifExp (pt_cmpR op_eq (pv 0) pe_str (nomark _)) (pe_op op_mod (pv 2) (pv 1)) (pe_op op_fdivW (pe_op Lc.op_mulX (pv 2) (pv 1)) (pv 3))))), ?_⟩
    refine ⟨_, rfl, rfl, _, rfl, ite2 (fun e => ?_) (fun e => ?_)⟩
    · have e2 : V.str k = .str "rest" := of_decide_eq_true e
      refine ⟨_, rfl, _, rfl, _, _, rfl, rfl, (by show 0 < c; omega), ?_⟩
      unfold laneAt at q
      rw [if_pos e2] at q
      exact q
    · have e2 : ¬ V.str k = .str "rest" := fun z => e (decide_eq_true z)
      have fm : Few m := few_le (b := 10 ^ 40) m0 (by omega) (by decide)
      have fc : Few c := few_le (b := 10 ^ 20) (by omega) c2 (by decide)
      have hs : s.natAbs < 2 ^ 240 := Nat.lt_of_le_of_lt (by omega : s.natAbs ≤ 10 ^ 40) (by decide)
      refine ⟨_, rfl, _, rfl, _, _, rfl, rfl, mulX fm fc, _, rfl, _, _, rfl, rfl, divX (by omega) hs, ?_⟩
      unfold laneAt at q
      rw [if_neg e2] at q
      exact q
theorem ok_lane_of (T : Txt K mg) : FnOk P w K mg base (L2.CX P w) 3 T.a_lane_of T.d_lane_of ["kind", "count", "mark", "size"] (spLaneOf K T.exc) := by
  refine T.F_lane_of.okX sc_lane_of (fun vs H Q E h => ?_) (fun cdv A outer s₀ H vs Q E hr h => ?_)
  · obtain ⟨k, c, m, s, _, _, _, _, rfl, _⟩ := h
    rfl
  · obtain ⟨k, c, m, s, tk, tc, tm, ts, rfl, hk, hc, hm, hs, q⟩ := h
    refine ⟨_, (pss_cons (ps_expr (pe_call (ok_check_kind T) (hr.mono (by decide)) rfl T.g_check_kind T.F_check_kind.kp T.b_check_kind .nil (passes_call (takes_of rfl rfl rfl rfl) (fun _ _ _ _ h => h)) (pa_cons (pv 0) pa_nil)))
      (pss_cons (ps_expr (pe_call (ok_check_count T) (hr.mono (by decide)) rfl T.g_check_count T.F_check_count.kp T.b_check_count .nil (passes_call (takes_of rfl rfl rfl rfl) (fun _ _ _ _ h => h)) (pa_cons (pv 1) (pa_cons (pe_glob rfl T.g_GREATEST_COUNT T.r_GREATEST_COUNT) pa_nil))))
      (pss_cons (ps_if (pt_not (pt_val (pe_call (ok_is_whole T) (hr.mono (by decide)) rfl T.g_is_whole T.F_is_whole.kp T.b_is_whole .nil pass0 (pa_cons (pv 2) (pa_cons pe_int (pa_cons (pe_glob rfl T.g_GREATEST_MARK T.r_GREATEST_MARK) pa_nil))))))
      (pss_one (ps_raise rfl (takes_of rfl rfl rfl rfl) (pmk_own PySem.F.excBase_ValueError T.x_BadMark T.g_BadMark T.k_BadMark (raises_own T.p_BadMark T.t_BadMark) rfl)))
      pss_nil)
      (pss_cons (ps_expr (pe_call (ok_check_size T) (hr.mono (by decide)) rfl T.g_check_size T.F_check_size.kp T.b_check_size .nil (passes_call (takes_of rfl rfl rfl rfl) (fun _ _ _ _ h => h)) (pa_cons (pv 3) pa_nil)))
      (pss_cons (ps_if (pt_cmpR op_ge (pv 2) (pv 3) (nomark _))
      (pss_one (ps_raise rfl (takes_of rfl rfl rfl rfl) (pmk_own PySem.F.excBase_ValueError T.x_BadMark T.g_BadMark T.k_BadMark (raises_own T.p_BadMark T.t_BadMark) rfl)))
      pss_nil)
      (pss_one (ps_ret (pe_call (ok_lane_at T) (hr.mono (by decide)) rfl T.g_lane_at T.F_lane_at.kp T.b_lane_at .nil pass0 (pa_cons (pv 0) (pa_cons (pv 1) (pa_cons (pv 2) (pa_cons (pv 3) pa_nil)))))))))))), ?_⟩
    unfold laneOf at q
    refine ⟨k, rfl, k, tk, rfl, hk, ?_⟩
    cases e1 : kindV k with
    | false => rw [if_pos e1] at q; exact q
    | true =>
    rw [if_neg (by rw [e1]; decide)] at q
    refine ⟨c, rfl, c, 10 ^ 20, tc, rfl, .inl rfl, hc, ?_⟩
    cases e2 : wholeV c 1 (10 ^ 20) with
    | false => rw [if_pos e2] at q; exact q
    | true =>
    rw [if_neg (by rw [e2]; decide)] at q
    refine ⟨m, rfl, m, 0, 10 ^ 40, tm, rfl, hm, _, rfl, ?_⟩
    cases e3 : wholeV m 0 (10 ^ 40) with
    | false => rw [if_pos e3] at q; exact iteT q
    | true =>
    rw [if_neg (by rw [e3]; decide)] at q
    refine iteF ⟨s, rfl, s, ts, rfl, hs, ?_⟩
    cases e4 : wholeV s 1 (10 ^ 40) with
    | false =>
      rw [if_pos e4] at q
      show spRes T.exc (if wholeV s 1 (10 ^ 40) = false then _ else _) _ _ _
      rw [if_pos e4]; exact q
    | true =>
    rw [if_neg (by rw [e4]; decide)] at q
    show spRes T.exc (if wholeV s 1 (10 ^ 40) = false then _ else _) _ _ _
    rw [if_neg (by rw [e4]; decide)]
    obtain ⟨ci, rfl, c1, c2⟩ := whole_int e2
    obtain ⟨mi, rfl, m1, m2⟩ := whole_int e3
    obtain ⟨si, rfl, s1, s2⟩ := whole_int e4
    obtain ⟨ks, rfl, _⟩ := word_str e1
    refine ⟨_, rfl, _, rfl, _, _, rfl, rfl, _, rfl, ite2 (fun e => ?_) (fun e => ?_)⟩
    · have e5 : si ≤ mi := of_decide_eq_true e
      have q2 : spRes T.exc (if si ≤ mi then .error "BadMark" else .ok (.int (laneAt (.str ks) ci mi si))) H Q E := q
      rw [if_pos e5] at q2
      exact q2
    · have e5 : ¬ si ≤ mi := fun z => e (decide_eq_true z)
      have q2 : spRes T.exc (if si ≤ mi then .error "BadMark" else .ok (.int (laneAt (.str ks) ci mi si))) H Q E := q
      rw [if_neg e5] at q2
      exact ⟨_, rfl, _, rfl, _, rfl, _, rfl, ks, ci, mi, si, rfl, c1, c2, m1, by omega, s2, q2⟩
end

def spLaw (K : PySem.W.Frag) : Sp := fun vs H Q _ => ∃ (a : Addr) (ns : List Int), vs = [.ref a] ∧ SqL K H a (ns.map V.int) ∧ ns.length ≤ 63 ∧ (∀ z ∈ ns, Builtin.Int.intBits z ≤ 1048576) ∧ ∀ H', Q (.bl true) H'
/-! ### the mathematics -/
theorem lane_rest {c m s : Int} (c1 : 1 ≤ c) (m0 : 0 ≤ m) : 0 ≤ laneAt (.str "rest") c m s ∧ laneAt (.str "rest") c m s < c ∧ laneAt (.str "rest") c m s ≤ m ∧ (m - laneAt (.str "rest") c m s) % c = 0 := by
  have e : laneAt (.str "rest") c m s = m % c := if_pos rfl
  rw [e]
  refine ⟨Int.emod_nonneg m (by omega), Int.emod_lt_of_pos m (by omega), ?_, ?_⟩
  · have h1 := Int.mul_ediv_add_emod m c
    have h2 : 0 ≤ m / c := Int.ediv_nonneg m0 (by omega)
    have h3 : 0 ≤ c * (m / c) := Int.mul_nonneg (by omega) h2
    omega
  · have h1 := Int.mul_ediv_add_emod m c
    have h2 : m - m % c = c * (m / c) := by omega
    rw [h2]
    exact Int.mul_emod_right c (m / c)
theorem lane_ranges {c m s : Int} (c1 : 1 ≤ c) (m0 : 0 ≤ m) (hm : m < s) : 0 ≤ laneAt (.str "ranges") c m s ∧ laneAt (.str "ranges") c m s < c ∧
    laneAt (.str "ranges") c m s * s ≤ m * c ∧ m * c < (laneAt (.str "ranges") c m s + 1) * s := by
  have e : laneAt (.str "ranges") c m s = m * c / s := if_neg (by decide)
  rw [e]
  have hmc : 0 ≤ m * c := Int.mul_nonneg m0 (by omega)
  refine ⟨Int.ediv_nonneg hmc (by omega), ?_, Int.ediv_mul_le _ (by omega), Int.lt_ediv_add_one_mul_self _ (by omega)⟩
  refine Int.ediv_lt_of_lt_mul (by omega) ?_
  rw [Int.mul_comm c s]
  exact Int.mul_lt_mul_of_pos_right hm (by omega)
/-- the mark ahead of the end of a lane is a mark -/
theorem edge_mark {c m s : Int} (c1 : 1 ≤ c) (m0 : 0 ≤ m) (hm : m < s) :
    0 ≤ (if (m * c / s * s + c - 1) / c - 1 > 0 then (m * c / s * s + c - 1) / c - 1 else 0) ∧ (if (m * c / s * s + c - 1) / c - 1 > 0 then (m * c / s * s + c - 1) / c - 1 else 0) < s := by
  have h1 : m * c / s * s ≤ m * c := Int.ediv_mul_le _ (by omega)
  have h2 : (m * c / s * s + c - 1) / c - 1 < s := by
    have : (m * c / s * s + c - 1) / c < s + 1 := by
      refine Int.ediv_lt_of_lt_mul (by omega) ?_
      have h3 : m * c < s * c := Int.mul_lt_mul_of_pos_right hm (by omega)
      rw [Int.add_mul, Int.one_mul]
      omega
    omega
  split <;> omega
section
variable {P : Program} {w : World} {K : PySem.W.Frag} {mg : Str → Option Value} {base : Heap}
def Kd (v : V) : Prop := v = .str "rest" ∨ v = .str "ranges"
theorem kd_two {d : Int} (h0 : 0 ≤ d) (h1 : d < 2) : ∃ v, atI [V.str "rest", V.str "ranges"] d = some v ∧ Kd v := ⟨_, atI_two h0 h1, by
  split
  · exact .inl rfl
  · exact .inr rfl⟩
theorem ok_law (T : Txt K mg) : FnOk P w K mg base CX0 4 T.a_law T.d_law ["_law_script"] (spLaw K) := by
  refine T.F_law.ok sc_law (fun vs H Q E h => ?_) (fun cdv A outer s H vs Q E hr h => ?_)
  · obtain ⟨a, ns, rfl, _⟩ := h
    rfl
  · obtain ⟨a, ns, rfl, hS, hlen, hb, q⟩ := h
    refine ⟨_, (pss_cons (ps_set (i := 1) sc_law.nd rfl (Or.inl rfl) (pe_call (ok_law_source T) (hr.mono (by decide)) rfl T.g_law_source T.F_law_source.kp T.b_law_source .nil pass0 (pa_cons (pv 0) pa_nil)))
      (pss_cons (ps_set (i := 2) sc_law.nd rfl (Or.inl rfl) (pe_ix ix_list (pe_lst (pa_cons pe_str (pa_cons pe_str pa_nil))) (pe_call (ok_law_draw T) (hr.mono (by decide)) rfl T.g_law_draw T.F_law_draw.kp T.b_law_draw .nil pass0 (pa_cons (pv 1) (pa_cons pe_int pa_nil))) (fun _ _ => rfl)))
      (pss_cons (ps_set (i := 3) sc_law.nd rfl (Or.inl rfl) (pe_call (ok_law_draw T) (hr.mono (by decide)) rfl T.g_law_draw T.F_law_draw.kp T.b_law_draw .nil pass0 (pa_cons (pv 1) (pa_cons pe_int pa_nil))))
      (pss_cons (ps_set (i := 4) sc_law.nd rfl (Or.inl rfl) (pe_op op_add pe_int (pe_call (ok_law_draw T) (hr.mono (by decide)) rfl T.g_law_draw T.F_law_draw.kp T.b_law_draw .nil pass0 (pa_cons (pv 1) (pa_cons pe_int pa_nil)))))
      (pss_cons (ps_if (pt_cmpR op_eq (pe_call (ok_law_draw T) (hr.mono (by decide)) rfl T.g_law_draw T.F_law_draw.kp T.b_law_draw .nil pass0 (pa_cons (pv 1) (pa_cons pe_int pa_nil))) pe_int (nomark _))
      (pss_one (ps_set (i := 4) sc_law.nd rfl (Or.inl rfl) (pe_op op_add pe_int (pe_call (ok_law_great T) (hr.mono (by decide)) rfl T.g_law_great T.F_law_great.kp T.b_law_great .nil pass0 (pa_cons (pv 1) (pa_cons (pe_op op_pow pe_int pe_int) pa_nil))))))
      pss_nil)
      (pss_cons (ps_set (i := 5) sc_law.nd rfl (Or.inl rfl) (pe_op op_add pe_int (pe_call (ok_law_draw T) (hr.mono (by decide)) rfl T.g_law_draw T.F_law_draw.kp T.b_law_draw .nil pass0 (pa_cons (pv 1) (pa_cons pe_int pa_nil)))))
      (pss_cons (ps_if (pt_cmpR op_eq (pe_call (ok_law_draw T) (hr.mono (by decide)) rfl T.g_law_draw T.F_law_draw.kp T.b_law_draw .nil pass0 (pa_cons (pv 1) (pa_cons pe_int pa_nil))) pe_int (nomark _))
      (pss_one (ps_set (i := 5) sc_law.nd rfl (Or.inl rfl) (pe_op op_add pe_int (pe_call (ok_law_great T) (hr.mono (by decide)) rfl T.g_law_great T.F_law_great.kp T.b_law_great .nil pass0 (pa_cons (pv 1) (pa_cons (pe_op op_pow pe_int pe_int) pa_nil))))))
      pss_nil)
      (pss_cons (ps_set (i := 6) sc_law.nd rfl (Or.inl rfl) (pe_call (ok_law_great T) (hr.mono (by decide)) rfl T.g_law_great T.F_law_great.kp T.b_law_great .nil pass0 (pa_cons (pv 1) (pa_cons (pv 5) pa_nil))))
      (pss_cons (ps_if (pt_cmpR op_eq (pv 3) pe_int (nomark _))
      (pss_one (ps_set (i := 6) sc_law.nd rfl (Or.inl rfl) pe_int))
      pss_nil)
      (pss_cons (ps_if (pt_cmpR op_eq (pv 3) pe_int (nomark _))
      (pss_one (ps_set (i := 6) sc_law.nd rfl (Or.inl rfl) (pe_op op_sub (pv 5) pe_int)))
      pss_nil)
      (pss_cons (ps_if (pt_cmpR op_eq (pv 3) pe_int (nomark _))
      (pss_cons (ps_set (i := 7) sc_law.nd rfl (Or.inl rfl) (pe_op op_fdivW (pe_op Lc.op_mulX (pv 6) (pv 4)) (pv 5)))
      (pss_one (ps_set (i := 6) sc_law.nd rfl (Or.inl rfl) (pe_callB (call_max2 rfl) (by rfl) T.z_max (by decide +kernel) (pa_cons pe_int (pa_cons (pe_op op_sub (pe_op op_fdivW (pe_op op_sub (pe_op op_add (pe_op Lc.op_mulX (pv 7) (pv 5)) (pv 4)) pe_int) (pv 4)) pe_int) pa_nil))))))
      pss_nil)
      (pss_cons (ps_set (i := 8) sc_law.nd rfl (Or.inl rfl) (pe_call (ok_lane_of T) (hr.mono (by decide)) rfl T.g_lane_of T.F_lane_of.kp T.b_lane_of .nil passL (pa_cons (pv 2) (pa_cons (pv 4) (pa_cons (pv 6) (pa_cons (pv 5) pa_nil))))))
      (pss_cons (ps_if (PW.pt (pw_or (pt_not (pt_val (pe_call (ok_law_integer T) (hr.mono (by decide)) rfl T.g_law_integer T.F_law_integer.kp T.b_law_integer .nil pass0 (pa_cons (pv 8) pa_nil)))) (pw_or1 (pt_not (pt_chain op_le op_lt pe_int (pv 8) (pv 4))))))
      (pss_one (ps_ret pe_bl))
      pss_nil)
      (pss_cons (ps_if (pt_cmpR op_eq (pv 2) pe_str (nomark _))
      (pss_one (ps_ret (pe_and (pe_cmpR op_le (pv 8) (pv 6) (nomark _)) (pe_one (pe_cmpR op_eq (pe_op op_mod (pe_callTy call_int1 (by rfl) T.z_int (by decide +kernel) (pa_cons (pe_op op_sub (pv 6) (pv 8)) pa_nil)) (pv 4)) pe_int (nomark _))))))
      pss_nil)
      (pss_one (ps_ret (pe_and (pe_cmpR op_le (pe_op Lc.op_mulX (pv 8) (pv 5)) (pe_op Lc.op_mulX (pv 6) (pv 4)) (nomark _)) (pe_one (pe_cmpR op_lt (pe_op Lc.op_mulX (pv 6) (pv 4)) (pe_op Lc.op_mulX (pe_op op_add (pv 8) pe_int) (pv 5)) (nomark _)))))))))))))))))))), ?_⟩
    -- the source, the kind
    refine ⟨.ref a, rfl, a, ns, rfl, hS, hlen, hb, fun p H1 hp S1 k1 => ?_⟩
    refine ⟨(by show 2 ≤ sizeLine; decide), fun t ht => ⟨.ref p, rfl, p, 0, 2, rfl, S1.same (same_upd ht), by decide, by decide, by decide, fun d H2 d0 d1 S2 B2 => ?_⟩⟩
    obtain ⟨kd, ek, hkd⟩ := kd_two d0 d1
    refine ⟨t, _, d, kd, rfl, rfl, SqL.of (B2 _ _ (src_ne S1 ht) upd_same), ek, ?_⟩
    -- edge, count
    refine ⟨.ref p, rfl, p, 1, 5, rfl, S2, by decide, by decide, by decide, fun ed H3 e0 e1 S3 _ => ?_⟩
    refine ⟨.ref p, rfl, p, 2, 9, rfl, S3, by decide, by decide, by decide, fun c H4 c0 c1 S4 _ => ⟨_, _, rfl, rfl, ?_⟩⟩
    try dsimp only [gName]
    refine if_cut (fun σ' H' => ∃ cc : Int, σ' = [some (.ref a), some (.ref p), some kd, some (.int ed), some (.int cc), none, none, none, none] ∧ 1 ≤ cc ∧ cc ≤ 10 ^ 20 ∧ Src H' p 20) ?_ (fun K1 => ?_)
    rotate_left
    · refine ⟨.ref p, rfl, p, 3, 3, rfl, S4, by decide, by decide, by decide, fun d' H5 _ _ S5 _ => ⟨rfl, _, rfl, ite2 (fun _ => ?_) (fun _ => ?_)⟩⟩
      · refine ⟨.ref p, rfl, 10, 20, rfl, rfl, ⟨by decide, by decide, by decide⟩, p, 4, _, rfl, S5, by decide, by decide, by decide, fun g H6 g0 g1 S6 _ => ⟨_, _, rfl, rfl, ?_⟩⟩
        have g1' : g < 100000000000000000000 := g1
        exact K1 _ _ ⟨1 + g, rfl, by omega, (by show 1 + g ≤ 100000000000000000000; omega), S6.le (by decide)⟩
      · exact K1 _ _ ⟨1 + c, rfl, by omega, (by show 1 + c ≤ 100000000000000000000; omega), S5.le (by decide)⟩
    rintro σ' H5 ⟨cc, rfl, cc1, cc2, S5⟩
    -- size
    refine ⟨.ref p, rfl, p, 20, 60, rfl, S5, by decide, by decide, by decide, fun z H6 z0 z1 S6 _ => ⟨_, _, rfl, rfl, ?_⟩⟩
    try dsimp only [gName]
    refine if_cut (fun σ' H' => ∃ ss : Int, σ' = [some (.ref a), some (.ref p), some kd, some (.int ed), some (.int cc), some (.int ss), none, none, none] ∧ 1 ≤ ss ∧ ss ≤ 10 ^ 40 ∧ Src H' p 40) ?_ (fun K1 => ?_)
    rotate_left
    · refine ⟨.ref p, rfl, p, 21, 3, rfl, S6, by decide, by decide, by decide, fun d' H7 _ _ S7 _ => ⟨rfl, _, rfl, ite2 (fun _ => ?_) (fun _ => ?_)⟩⟩
      · refine ⟨.ref p, rfl, 10, 40, rfl, rfl, ⟨by decide, by decide, by decide⟩, p, 22, _, rfl, S7, by decide, by decide, by decide, fun g H8 g0 g1 S8 _ => ⟨_, _, rfl, rfl, ?_⟩⟩
        have g1' : g < 10 ^ 40 := g1
        exact K1 _ _ ⟨1 + g, rfl, by omega, by omega, S8.le (by decide)⟩
      · exact K1 _ _ ⟨1 + z, rfl, by omega, by omega, S7.le (by decide)⟩
    rintro σ' H7 ⟨ss, rfl, ss1, ss2, S7⟩
    -- mark
    refine ⟨.ref p, rfl, .int ss, rfl, p, 40, ss, rfl, S7, by decide, ss1, by omega, fun m H8 m0 m1 S8 _ => ?_⟩
    have fcc : Few cc := few_le (b := 10 ^ 20) (by omega) cc2 (by decide)
    have fss : Few ss := few_le (b := 10 ^ 40) (by omega) ss2 (by decide)
    have dss : ss.natAbs < 2 ^ 240 := Nat.lt_of_le_of_lt (by omega : ss.natAbs ≤ 10 ^ 40) (by decide)
    have dcc : cc.natAbs < 2 ^ 240 := Nat.lt_of_le_of_lt (by omega : cc.natAbs ≤ 10 ^ 20) (by decide)
    try dsimp only [gName]
    refine if_cut (fun σ' H' => ∃ mm : Int, σ' = [some (.ref a), some (.ref p), some kd, some (.int ed), some (.int cc), some (.int ss), some (.int mm), none, none] ∧ 0 ≤ mm ∧ mm < ss) ?_ (fun K1 => ?_)
    rotate_left
    · refine ⟨_, rfl, rfl, _, rfl, ite2 (fun _ => ?_) (fun _ => ?_)⟩
      · exact K1 _ _ ⟨0, rfl, by omega, by omega⟩
      · exact K1 _ _ ⟨m, rfl, m0, m1⟩
    rintro σ' H9 ⟨m', rfl, m'0, m'1⟩
    try dsimp only [gName]
    refine if_cut (fun σ' H' => ∃ mm : Int, σ' = [some (.ref a), some (.ref p), some kd, some (.int ed), some (.int cc), some (.int ss), some (.int mm), none, none] ∧ 0 ≤ mm ∧ mm < ss) ?_ (fun K1 => ?_)
    rotate_left
    · refine ⟨_, rfl, rfl, _, rfl, ite2 (fun _ => ?_) (fun _ => ?_)⟩
      · exact ⟨_, rfl, _, _, rfl, rfl, K1 _ _ ⟨ss - 1, rfl, by omega, by omega⟩⟩
      · exact K1 _ _ ⟨m', rfl, m'0, m'1⟩
    rintro σ' H10 ⟨n, rfl, n0, n1⟩
    try dsimp only [gName]
    refine if_cut (fun σ' H' => ∃ (mm : Int) (l : Option V), σ' = [some (.ref a), some (.ref p), some kd, some (.int ed), some (.int cc), some (.int ss), some (.int mm), l, none] ∧ 0 ≤ mm ∧ mm < ss) ?_ (fun K1 => ?_)
    rotate_left
    · refine ⟨_, rfl, rfl, _, rfl, ite2 (fun _ => ?_) (fun _ => ?_)⟩
      · have fn : Few n := few_le (b := 10 ^ 40) n0 (by omega) (by decide)
        have l0 : 0 ≤ n * cc / ss := Int.ediv_nonneg (Int.mul_nonneg n0 (by omega)) (by omega)
        have lr := (lane_ranges (c := cc) (m := n) (s := ss) cc1 n0 n1).2.1
        have er : laneAt (.str "ranges") cc n ss = n * cc / ss := if_neg (by decide)
        rw [er] at lr
        have fl : Few (n * cc / ss) := few_le (b := 10 ^ 20) l0 (by omega) (by decide)
        refine ⟨_, rfl, _, rfl, _, _, rfl, rfl, mulX fn fcc, _, rfl, _, _, rfl, rfl, divX (by omega) dss, ?_⟩
        refine ⟨_, rfl, _, rfl, _, _, rfl, rfl, mulX fl fss, _, rfl, _, _, rfl, rfl, _, _, rfl, rfl, _, rfl, _, _, rfl, rfl, divX (by omega) dcc, _, _, rfl, rfl, _, _, rfl, ?_⟩
        have hm := edge_mark cc1 n0 n1
        exact K1 _ _ ⟨_, _, rfl, hm.1, hm.2⟩
      · exact K1 _ _ ⟨n, _, rfl, n0, n1⟩
    rintro σ' H11 ⟨mm, l, rfl, mm0, mm1⟩
    have fm : Few mm := few_le (b := 10 ^ 40) mm0 (by omega) (by decide)
    -- lane_of
    have ks : ∃ ks, kd = .str ks ∧ kindV kd = true := by
      rcases hkd with rfl | rfl
      · exact ⟨_, rfl, rfl⟩
      · exact ⟨_, rfl, rfl⟩
    obtain ⟨ks, rfl, hk1⟩ := ks
    have el : laneOf (.str ks) (.int cc) (.int mm) (.int ss) = .ok (.int (laneAt (.str ks) cc mm ss)) := by
      unfold laneOf
      rw [if_neg (by rw [hk1]; decide), if_neg (by rw [whole_of cc1 cc2]; decide), if_neg (by rw [whole_of mm0 (by omega)]; decide), if_neg (by rw [whole_of ss1 ss2]; decide)]
      show (if ss ≤ mm then _ else _) = _
      rw [if_neg (by omega)]
    refine ⟨_, rfl, _, rfl, _, rfl, _, rfl, .str ks, .int cc, .int mm, .int ss, _, _, _, _, rfl, .str _, .int _, .int _, .int _, ?_⟩
    rw [el]
    show _
    have hf0 : 0 ≤ laneAt (.str ks) cc mm ss ∧ laneAt (.str ks) cc mm ss < cc := by
      rcases hkd with e | e
      · rw [e]; exact ⟨(lane_rest cc1 mm0).1, (lane_rest cc1 mm0).2.1⟩
      · rw [e]; exact ⟨(lane_ranges cc1 mm0 mm1).1, (lane_ranges cc1 mm0 mm1).2.1⟩
    -- the tests
    refine ⟨_, rfl, _, _, rfl, .int _, _, rfl, iteF ?_⟩
    refine ⟨_, rfl, _, _, rfl, rfl, _, rfl, ?_⟩
    rw [decide_eq_true hf0.1]
    refine iteT ⟨_, rfl, _, _, rfl, rfl, _, rfl, ?_⟩
    rw [decide_eq_true hf0.2]
    refine iteF ?_
    refine ⟨_, rfl, rfl, _, rfl, ite2 (fun e => ?_) (fun e => ?_)⟩
    · have e2 : V.str ks = .str "rest" := of_decide_eq_true e
      obtain ⟨_, _, h3, h4⟩ := lane_rest (c := cc) (m := mm) (s := ss) cc1 mm0
      rw [← e2] at h3 h4
      refine ⟨_, rfl, _, rfl, _, _, rfl, rfl, _, rfl, ?_⟩
      rw [decide_eq_true h3]
      refine iteT ⟨_, rfl, _, rfl, _, _, rfl, rfl, .inl ⟨_, rfl, _, rfl, _, _, rfl, rfl, (by show 0 < cc; omega), rfl, ?_⟩⟩
      exact ends_true q (decide_eq_true (congrArg V.int h4))
    · have e2 : V.str ks = .str "ranges" := by
        rcases hkd with z | z
        · exact absurd (decide_eq_true z) e
        · exact z
      obtain ⟨_, _, h3, h4⟩ := lane_ranges (c := cc) (m := mm) (s := ss) cc1 mm0 mm1
      rw [← e2] at h3 h4
      have ff : Few (laneAt (.str ks) cc mm ss) := few_le (b := 10 ^ 20) hf0.1 (by omega) (by decide)
      have ff1 : Few (laneAt (.str ks) cc mm ss + 1) := few_le (b := 10 ^ 20) (by omega) (by omega) (by decide)
      refine ⟨_, rfl, _, rfl, _, _, rfl, rfl, mulX ff fss, _, rfl, _, rfl, _, _, rfl, rfl, mulX fm fcc, _, _, rfl, rfl, _, rfl, ?_⟩
      rw [decide_eq_true h3]
      refine iteT ⟨_, rfl, _, rfl, _, _, rfl, rfl, mulX fm fcc, _, rfl, _, _, rfl, rfl, _, rfl, _, _, rfl, rfl, mulX ff1 fss, _, _, rfl, rfl, ?_⟩
      exact ends_true q (decide_eq_true h4)
end

theorem all_mk {P : Program} {w : World} {K : PySem.W.Frag} {h : Heap} {mg : Str → Option Value} {fa f_is_whole f_is_word f_lane_of f_check_kind f_check_count f_check_size f_lane_at f_law_source f_law_draw f_law_great f_law_integer C_LaneError C_BadKind C_BadCount C_BadMark C_BadSize c_KINDS : Addr}
    (X : K.In h) (G : h.Ns mainGlobals mg) (hfa : mg "law" = some (.ref fa))
    {oc_is_whole kV_is_whole dc_is_whole pm_is_whole cd_is_whole ct_is_whole : Value} {od_is_whole an_is_whole : Option Addr} {sl_is_whole : Array (Option Value)}
    (a_is_whole : PySem.W.nsIn K mainGlobals "is_whole" = some (some (.ref f_is_whole)))
    (l_is_whole : K.lookup f_is_whole = some ⟨oc_is_whole, od_is_whole, .func (PySem.W.fnOf "is_whole" "is_whole" (defArgs s_is_whole) (defBody s_is_whole) (defScope s_is_whole) .none kV_is_whole dc_is_whole pm_is_whole an_is_whole cd_is_whole ct_is_whole), sl_is_whole⟩)
    (c_is_whole : PySem.W.codeIn K cd_is_whole "is_whole" = true) (k_is_whole : PySem.W.keepIn K (.ref f_is_whole) = true)
    {oc_is_word kV_is_word dc_is_word pm_is_word cd_is_word ct_is_word : Value} {od_is_word an_is_word : Option Addr} {sl_is_word : Array (Option Value)}
    (a_is_word : PySem.W.nsIn K mainGlobals "is_word" = some (some (.ref f_is_word)))
    (l_is_word : K.lookup f_is_word = some ⟨oc_is_word, od_is_word, .func (PySem.W.fnOf "is_word" "is_word" (defArgs s_is_word) (defBody s_is_word) (defScope s_is_word) .none kV_is_word dc_is_word pm_is_word an_is_word cd_is_word ct_is_word), sl_is_word⟩)
    (c_is_word : PySem.W.codeIn K cd_is_word "is_word" = true) (k_is_word : PySem.W.keepIn K (.ref f_is_word) = true)
    {oc_lane_of kV_lane_of dc_lane_of pm_lane_of cd_lane_of ct_lane_of : Value} {od_lane_of an_lane_of : Option Addr} {sl_lane_of : Array (Option Value)}
    (a_lane_of : PySem.W.nsIn K mainGlobals "lane_of" = some (some (.ref f_lane_of)))
    (l_lane_of : K.lookup f_lane_of = some ⟨oc_lane_of, od_lane_of, .func (PySem.W.fnOf "lane_of" "lane_of" (defArgs s_lane_of) (defBody s_lane_of) (defScope s_lane_of) .none kV_lane_of dc_lane_of pm_lane_of an_lane_of cd_lane_of ct_lane_of), sl_lane_of⟩)
    (c_lane_of : PySem.W.codeIn K cd_lane_of "lane_of" = true) (k_lane_of : PySem.W.keepIn K (.ref f_lane_of) = true)
    {oc_check_kind kV_check_kind dc_check_kind pm_check_kind cd_check_kind ct_check_kind : Value} {od_check_kind an_check_kind : Option Addr} {sl_check_kind : Array (Option Value)}
    (a_check_kind : PySem.W.nsIn K mainGlobals "check_kind" = some (some (.ref f_check_kind)))
    (l_check_kind : K.lookup f_check_kind = some ⟨oc_check_kind, od_check_kind, .func (PySem.W.fnOf "check_kind" "check_kind" (defArgs s_check_kind) (defBody s_check_kind) (defScope s_check_kind) .none kV_check_kind dc_check_kind pm_check_kind an_check_kind cd_check_kind ct_check_kind), sl_check_kind⟩)
    (c_check_kind : PySem.W.codeIn K cd_check_kind "check_kind" = true) (k_check_kind : PySem.W.keepIn K (.ref f_check_kind) = true)
    {oc_check_count kV_check_count dc_check_count pm_check_count cd_check_count ct_check_count : Value} {od_check_count an_check_count : Option Addr} {sl_check_count : Array (Option Value)}
    (a_check_count : PySem.W.nsIn K mainGlobals "check_count" = some (some (.ref f_check_count)))
    (l_check_count : K.lookup f_check_count = some ⟨oc_check_count, od_check_count, .func (PySem.W.fnOf "check_count" "check_count" (defArgs s_check_count) (defBody s_check_count) (defScope s_check_count) .none kV_check_count dc_check_count pm_check_count an_check_count cd_check_count ct_check_count), sl_check_count⟩)
    (c_check_count : PySem.W.codeIn K cd_check_count "check_count" = true) (k_check_count : PySem.W.keepIn K (.ref f_check_count) = true)
    {oc_check_size kV_check_size dc_check_size pm_check_size cd_check_size ct_check_size : Value} {od_check_size an_check_size : Option Addr} {sl_check_size : Array (Option Value)}
    (a_check_size : PySem.W.nsIn K mainGlobals "check_size" = some (some (.ref f_check_size)))
    (l_check_size : K.lookup f_check_size = some ⟨oc_check_size, od_check_size, .func (PySem.W.fnOf "check_size" "check_size" (defArgs s_check_size) (defBody s_check_size) (defScope s_check_size) .none kV_check_size dc_check_size pm_check_size an_check_size cd_check_size ct_check_size), sl_check_size⟩)
    (c_check_size : PySem.W.codeIn K cd_check_size "check_size" = true) (k_check_size : PySem.W.keepIn K (.ref f_check_size) = true)
    {oc_lane_at kV_lane_at dc_lane_at pm_lane_at cd_lane_at ct_lane_at : Value} {od_lane_at an_lane_at : Option Addr} {sl_lane_at : Array (Option Value)}
    (a_lane_at : PySem.W.nsIn K mainGlobals "lane_at" = some (some (.ref f_lane_at)))
    (l_lane_at : K.lookup f_lane_at = some ⟨oc_lane_at, od_lane_at, .func (PySem.W.fnOf "lane_at" "lane_at" (defArgs s_lane_at) (defBody s_lane_at) (defScope s_lane_at) .none kV_lane_at dc_lane_at pm_lane_at an_lane_at cd_lane_at ct_lane_at), sl_lane_at⟩)
    (c_lane_at : PySem.W.codeIn K cd_lane_at "lane_at" = true) (k_lane_at : PySem.W.keepIn K (.ref f_lane_at) = true)
    {oc_law_source kV_law_source dc_law_source pm_law_source cd_law_source ct_law_source : Value} {od_law_source an_law_source : Option Addr} {sl_law_source : Array (Option Value)}
    (a_law_source : PySem.W.nsIn K mainGlobals "_law_source" = some (some (.ref f_law_source)))
    (l_law_source : K.lookup f_law_source = some ⟨oc_law_source, od_law_source, .func (PySem.W.fnOf "_law_source" "_law_source" (defArgs s_law_source) (defBody s_law_source) (defScope s_law_source) .none kV_law_source dc_law_source pm_law_source an_law_source cd_law_source ct_law_source), sl_law_source⟩)
    (c_law_source : PySem.W.codeIn K cd_law_source "_law_source" = true) (k_law_source : PySem.W.keepIn K (.ref f_law_source) = true)
    {oc_law_draw kV_law_draw dc_law_draw pm_law_draw cd_law_draw ct_law_draw : Value} {od_law_draw an_law_draw : Option Addr} {sl_law_draw : Array (Option Value)}
    (a_law_draw : PySem.W.nsIn K mainGlobals "_law_draw" = some (some (.ref f_law_draw)))
    (l_law_draw : K.lookup f_law_draw = some ⟨oc_law_draw, od_law_draw, .func (PySem.W.fnOf "_law_draw" "_law_draw" (defArgs s_law_draw) (defBody s_law_draw) (defScope s_law_draw) .none kV_law_draw dc_law_draw pm_law_draw an_law_draw cd_law_draw ct_law_draw), sl_law_draw⟩)
    (c_law_draw : PySem.W.codeIn K cd_law_draw "_law_draw" = true) (k_law_draw : PySem.W.keepIn K (.ref f_law_draw) = true)
    {oc_law_great kV_law_great dc_law_great pm_law_great cd_law_great ct_law_great : Value} {od_law_great an_law_great : Option Addr} {sl_law_great : Array (Option Value)}
    (a_law_great : PySem.W.nsIn K mainGlobals "_law_great" = some (some (.ref f_law_great)))
    (l_law_great : K.lookup f_law_great = some ⟨oc_law_great, od_law_great, .func (PySem.W.fnOf "_law_great" "_law_great" (defArgs s_law_great) (defBody s_law_great) (defScope s_law_great) .none kV_law_great dc_law_great pm_law_great an_law_great cd_law_great ct_law_great), sl_law_great⟩)
    (c_law_great : PySem.W.codeIn K cd_law_great "_law_great" = true) (k_law_great : PySem.W.keepIn K (.ref f_law_great) = true)
    {oc_law_integer kV_law_integer dc_law_integer pm_law_integer cd_law_integer ct_law_integer : Value} {od_law_integer an_law_integer : Option Addr} {sl_law_integer : Array (Option Value)}
    (a_law_integer : PySem.W.nsIn K mainGlobals "_law_integer" = some (some (.ref f_law_integer)))
    (l_law_integer : K.lookup f_law_integer = some ⟨oc_law_integer, od_law_integer, .func (PySem.W.fnOf "_law_integer" "_law_integer" (defArgs s_law_integer) (defBody s_law_integer) (defScope s_law_integer) .none kV_law_integer dc_law_integer pm_law_integer an_law_integer cd_law_integer ct_law_integer), sl_law_integer⟩)
    (c_law_integer : PySem.W.codeIn K cd_law_integer "_law_integer" = true) (k_law_integer : PySem.W.keepIn K (.ref f_law_integer) = true)
    {f_law : Addr}
    {oc_law kV_law dc_law pm_law cd_law ct_law : Value} {od_law an_law : Option Addr} {sl_law : Array (Option Value)}
    (a_law : PySem.W.nsIn K mainGlobals "law" = some (some (.ref f_law)))
    (l_law : K.lookup f_law = some ⟨oc_law, od_law, .func (PySem.W.fnOf "law" "law" (defArgs s_law) (defBody s_law) (defScope s_law) .none kV_law dc_law pm_law an_law cd_law ct_law), sl_law⟩)
    (c_law : PySem.W.codeIn K cd_law "law" = true) (k_law : PySem.W.keepIn K (.ref f_law) = true)
    (z_bool : PySem.W.nsIn K mainGlobals "bool" = some none)
    (z_int : PySem.W.nsIn K mainGlobals "int" = some none)
    (z_isinstance : PySem.W.nsIn K mainGlobals "isinstance" = some none)
    (z_list : PySem.W.nsIn K mainGlobals "list" = some none)
    (z_max : PySem.W.nsIn K mainGlobals "max" = some none)
    (z_range : PySem.W.nsIn K mainGlobals "range" = some none)
    (z_str : PySem.W.nsIn K mainGlobals "str" = some none)
    {od_KINDS : Option Addr} {ns_KINDS : Nat} {sl_KINDS : Array (Option Value)} {t0_KINDS : Tok} {t1_KINDS : Tok}
    (a_KINDS : PySem.W.nsIn K mainGlobals "KINDS" = some (some (.ref c_KINDS)))
    (l_KINDS : K.lookup c_KINDS = some ⟨.type "tuple", od_KINDS, .seq #[.str "rest" t0_KINDS, .str "ranges" t1_KINDS] ns_KINDS, sl_KINDS⟩)
    {t_GREATEST_COUNT : Tok} (a_GREATEST_COUNT : PySem.W.nsIn K mainGlobals "GREATEST_COUNT" = some (some (.int 100000000000000000000 t_GREATEST_COUNT)))
    {t_GREATEST_MARK : Tok} (a_GREATEST_MARK : PySem.W.nsIn K mainGlobals "GREATEST_MARK" = some (some (.int 10000000000000000000000000000000000000000 t_GREATEST_MARK)))
    {t_GREATEST_SIZE : Tok} (a_GREATEST_SIZE : PySem.W.nsIn K mainGlobals "GREATEST_SIZE" = some (some (.int 10000000000000000000000000000000000000000 t_GREATEST_SIZE)))
    (ag_LaneError : PySem.W.nsIn K mainGlobals "LaneError" = some (some (.ref C_LaneError)))
    (ax_LaneError : PySem.W.excIn K C_LaneError [.type "ValueError", .type "Exception", .type "BaseException", .type "object"] "ValueError.__new__" = true)
    (ak_LaneError : PySem.W.keepIn K (.ref C_LaneError) = true) (ap_LaneError : PySem.W.subIn K (.ref C_LaneError) (.type "BaseException") = some true) (at_LaneError : PySem.W.typeIn K (.ref C_LaneError) = some (.type "type")) (ai_LaneError : PySem.W.isClsIn K C_LaneError = true)
    (ag_BadKind : PySem.W.nsIn K mainGlobals "BadKind" = some (some (.ref C_BadKind)))
    (ax_BadKind : PySem.W.excIn K C_BadKind [.type "ValueError", .type "Exception", .type "BaseException", .type "object"] "ValueError.__new__" = true)
    (ak_BadKind : PySem.W.keepIn K (.ref C_BadKind) = true) (ap_BadKind : PySem.W.subIn K (.ref C_BadKind) (.type "BaseException") = some true) (at_BadKind : PySem.W.typeIn K (.ref C_BadKind) = some (.type "type")) (ai_BadKind : PySem.W.isClsIn K C_BadKind = true)
    (ag_BadCount : PySem.W.nsIn K mainGlobals "BadCount" = some (some (.ref C_BadCount)))
    (ax_BadCount : PySem.W.excIn K C_BadCount [.type "ValueError", .type "Exception", .type "BaseException", .type "object"] "ValueError.__new__" = true)
    (ak_BadCount : PySem.W.keepIn K (.ref C_BadCount) = true) (ap_BadCount : PySem.W.subIn K (.ref C_BadCount) (.type "BaseException") = some true) (at_BadCount : PySem.W.typeIn K (.ref C_BadCount) = some (.type "type")) (ai_BadCount : PySem.W.isClsIn K C_BadCount = true)
    (ag_BadMark : PySem.W.nsIn K mainGlobals "BadMark" = some (some (.ref C_BadMark)))
    (ax_BadMark : PySem.W.excIn K C_BadMark [.type "ValueError", .type "Exception", .type "BaseException", .type "object"] "ValueError.__new__" = true)
    (ak_BadMark : PySem.W.keepIn K (.ref C_BadMark) = true) (ap_BadMark : PySem.W.subIn K (.ref C_BadMark) (.type "BaseException") = some true) (at_BadMark : PySem.W.typeIn K (.ref C_BadMark) = some (.type "type")) (ai_BadMark : PySem.W.isClsIn K C_BadMark = true)
    (ag_BadSize : PySem.W.nsIn K mainGlobals "BadSize" = some (some (.ref C_BadSize)))
    (ax_BadSize : PySem.W.excIn K C_BadSize [.type "ValueError", .type "Exception", .type "BaseException", .type "object"] "ValueError.__new__" = true)
    (ak_BadSize : PySem.W.keepIn K (.ref C_BadSize) = true) (ap_BadSize : PySem.W.subIn K (.ref C_BadSize) (.type "BaseException") = some true) (at_BadSize : PySem.W.typeIn K (.ref C_BadSize) = some (.type "type")) (ai_BadSize : PySem.W.isClsIn K C_BadSize = true) :
    ∃ fd : FuncData, (∀ (s : Shared) (v : Value), BindsTo s fd ⟨[v], []⟩ [("_law_script", v)]) ∧ ∀ base : Heap, K.In base → base.Ns mainGlobals mg → FnOk P w K mg base CX0 4 fa fd ["_law_script"] (spLaw K) := by
  have e := hfa.symm.trans (PySem.W.mg_of X G a_law)
  cases e
  have F_is_whole := fun_mk (st := s_is_whole) l_is_whole c_is_whole k_is_whole
  have b_is_whole := F_is_whole.binds (ps := ["thing", "low", "high"]) fun _ _ _ _ _ _ us hl => match us, hl with | [_, _, _], _ => rfl
  have F_is_word := fun_mk (st := s_is_word) l_is_word c_is_word k_is_word
  have b_is_word := F_is_word.binds (ps := ["thing", "words"]) fun _ _ _ _ _ _ us hl => match us, hl with | [_, _], _ => rfl
  have F_lane_of := fun_mk (st := s_lane_of) l_lane_of c_lane_of k_lane_of
  have b_lane_of := F_lane_of.binds (ps := ["kind", "count", "mark", "size"]) fun _ _ _ _ _ _ us hl => match us, hl with | [_, _, _, _], _ => rfl
  have F_check_kind := fun_mk (st := s_check_kind) l_check_kind c_check_kind k_check_kind
  have b_check_kind := F_check_kind.binds (ps := ["kind"]) fun _ _ _ _ _ _ us hl => match us, hl with | [_], _ => rfl
  have F_check_count := fun_mk (st := s_check_count) l_check_count c_check_count k_check_count
  have b_check_count := F_check_count.binds (ps := ["count", "greatest"]) fun _ _ _ _ _ _ us hl => match us, hl with | [_, _], _ => rfl
  have F_check_size := fun_mk (st := s_check_size) l_check_size c_check_size k_check_size
  have b_check_size := F_check_size.binds (ps := ["size"]) fun _ _ _ _ _ _ us hl => match us, hl with | [_], _ => rfl
  have F_lane_at := fun_mk (st := s_lane_at) l_lane_at c_lane_at k_lane_at
  have b_lane_at := F_lane_at.binds (ps := ["kind", "count", "mark", "size"]) fun _ _ _ _ _ _ us hl => match us, hl with | [_, _, _, _], _ => rfl
  have F_law_source := fun_mk (st := s_law_source) l_law_source c_law_source k_law_source
  have b_law_source := F_law_source.binds (ps := ["_law_script"]) fun _ _ _ _ _ _ us hl => match us, hl with | [_], _ => rfl
  have F_law_draw := fun_mk (st := s_law_draw) l_law_draw c_law_draw k_law_draw
  have b_law_draw := F_law_draw.binds (ps := ["_law_source_here", "_law_limit"]) fun _ _ _ _ _ _ us hl => match us, hl with | [_, _], _ => rfl
  have F_law_great := fun_mk (st := s_law_great) l_law_great c_law_great k_law_great
  have b_law_great := F_law_great.binds (ps := ["_law_source_here", "_law_limit"]) fun _ _ _ _ _ _ us hl => match us, hl with | [_, _], _ => rfl
  have F_law_integer := fun_mk (st := s_law_integer) l_law_integer c_law_integer k_law_integer
  have b_law_integer := F_law_integer.binds (ps := ["_law_found"]) fun _ _ _ _ _ _ us hl => match us, hl with | [_], _ => rfl
  have F_law := fun_mk (st := s_law) l_law c_law k_law
  have b_law := F_law.binds (ps := ["_law_script"]) fun _ _ _ _ _ _ us hl => match us, hl with | [_], _ => rfl
  exact ⟨PySem.W.fnOf "law" "law" (defArgs s_law) (defBody s_law) (defScope s_law) .none kV_law dc_law pm_law an_law cd_law ct_law, fun s v => .of_eq rfl, fun base _ _ => ok_law (P := P) (w := w) (mg := mg) (base := base) ({ a_is_whole := _, d_is_whole := _, F_is_whole := F_is_whole, g_is_whole := PySem.W.mg_of X G a_is_whole, b_is_whole := b_is_whole, a_is_word := _, d_is_word := _, F_is_word := F_is_word, g_is_word := PySem.W.mg_of X G a_is_word, b_is_word := b_is_word, a_lane_of := _, d_lane_of := _, F_lane_of := F_lane_of, g_lane_of := PySem.W.mg_of X G a_lane_of, b_lane_of := b_lane_of, a_check_kind := _, d_check_kind := _, F_check_kind := F_check_kind, g_check_kind := PySem.W.mg_of X G a_check_kind, b_check_kind := b_check_kind, a_check_count := _, d_check_count := _, F_check_count := F_check_count, g_check_count := PySem.W.mg_of X G a_check_count, b_check_count := b_check_count, a_check_size := _, d_check_size := _, F_check_size := F_check_size, g_check_size := PySem.W.mg_of X G a_check_size, b_check_size := b_check_size, a_lane_at := _, d_lane_at := _, F_lane_at := F_lane_at, g_lane_at := PySem.W.mg_of X G a_lane_at, b_lane_at := b_lane_at, a_law_source := _, d_law_source := _, F_law_source := F_law_source, g_law_source := PySem.W.mg_of X G a_law_source, b_law_source := b_law_source, a_law_draw := _, d_law_draw := _, F_law_draw := F_law_draw, g_law_draw := PySem.W.mg_of X G a_law_draw, b_law_draw := b_law_draw, a_law_great := _, d_law_great := _, F_law_great := F_law_great, g_law_great := PySem.W.mg_of X G a_law_great, b_law_great := b_law_great, a_law_integer := _, d_law_integer := _, F_law_integer := F_law_integer, g_law_integer := PySem.W.mg_of X G a_law_integer, b_law_integer := b_law_integer, a_law := _, d_law := _, F_law := F_law, g_law := PySem.W.mg_of X G a_law, b_law := b_law, z_bool := PySem.W.mg_none_of X G z_bool, z_int := PySem.W.mg_none_of X G z_int, z_isinstance := PySem.W.mg_none_of X G z_isinstance, z_list := PySem.W.mg_none_of X G z_list, z_max := PySem.W.mg_none_of X G z_max, z_range := PySem.W.mg_none_of X G z_range, z_str := PySem.W.mg_none_of X G z_str, c_KINDS := _, g_KINDS := PySem.W.mg_of X G a_KINDS, r_KINDS := rfl, q_KINDS := fun _ => .inr ⟨_, _, _, l_KINDS, rfl, rfl, by show 2 ≤ sizeLine; decide, .cons ⟨_, rfl⟩ (.cons ⟨_, rfl⟩ (.nil))⟩, u_GREATEST_COUNT := _, g_GREATEST_COUNT := PySem.W.mg_of X G a_GREATEST_COUNT, r_GREATEST_COUNT := ⟨_, rfl⟩, u_GREATEST_MARK := _, g_GREATEST_MARK := PySem.W.mg_of X G a_GREATEST_MARK, r_GREATEST_MARK := ⟨_, rfl⟩, u_GREATEST_SIZE := _, g_GREATEST_SIZE := PySem.W.mg_of X G a_GREATEST_SIZE, r_GREATEST_SIZE := ⟨_, rfl⟩, C_LaneError := _, g_LaneError := PySem.W.mg_of X G ag_LaneError, x_LaneError := ax_LaneError, k_LaneError := ak_LaneError, p_LaneError := ap_LaneError, t_LaneError := at_LaneError, i_LaneError := ai_LaneError, C_BadKind := _, g_BadKind := PySem.W.mg_of X G ag_BadKind, x_BadKind := ax_BadKind, k_BadKind := ak_BadKind, p_BadKind := ap_BadKind, t_BadKind := at_BadKind, i_BadKind := ai_BadKind, C_BadCount := _, g_BadCount := PySem.W.mg_of X G ag_BadCount, x_BadCount := ax_BadCount, k_BadCount := ak_BadCount, p_BadCount := ap_BadCount, t_BadCount := at_BadCount, i_BadCount := ai_BadCount, C_BadMark := _, g_BadMark := PySem.W.mg_of X G ag_BadMark, x_BadMark := ax_BadMark, k_BadMark := ak_BadMark, p_BadMark := ap_BadMark, t_BadMark := at_BadMark, i_BadMark := ai_BadMark, C_BadSize := _, g_BadSize := PySem.W.mg_of X G ag_BadSize, x_BadSize := ax_BadSize, k_BadSize := ak_BadSize, p_BadSize := ap_BadSize, t_BadSize := at_BadSize, i_BadSize := ai_BadSize } : Txt K mg)⟩
end K00
open PySem PySem.W PyProof.Rows
set_option maxRecDepth 100000 in
set_option maxHeartbeats 0 in
theorem PySem.Challenge.cw_lanescounted_k00_lane_of_a_mark_holds : PySem.Challenge.rw_lanescounted_k00_lane_of_a_mark.Holds := by
  w_on; o_law; k_head; (case hw => w_witness2)
  k_fill
  refine L2.walk_ofB (l := PySem.Challenge.rw_lanescounted_k00_lane_of_a_mark) (n := 63) (k := 4) (x := "_law_script") (CX := fun w => L2.CX0) (sp := fun w => K00.spLaw _) rfl (by decide) rfl ⟨rfl, by decide, by decide⟩ (fun w h Y => PySem.W.kIn_of Y) ?F (fun _ _ a ns hl hb _ hS => ⟨a, ns, rfl, hS, hl, hb, fun _ => rfl⟩) (fun _ _ _ _ _ h => h)
  case F =>
    intro w mg fa h KX G hmg
    refine' K00.all_mk KX G hmg ?a_is_whole ?l_is_whole ?c_is_whole ?k_is_whole ?a_is_word ?l_is_word ?c_is_word ?k_is_word ?a_lane_of ?l_lane_of ?c_lane_of ?k_lane_of ?a_check_kind ?l_check_kind ?c_check_kind ?k_check_kind ?a_check_count ?l_check_count ?c_check_count ?k_check_count ?a_check_size ?l_check_size ?c_check_size ?k_check_size ?a_lane_at ?l_lane_at ?c_lane_at ?k_lane_at ?a_law_source ?l_law_source ?c_law_source ?k_law_source ?a_law_draw ?l_law_draw ?c_law_draw ?k_law_draw ?a_law_great ?l_law_great ?c_law_great ?k_law_great ?a_law_integer ?l_law_integer ?c_law_integer ?k_law_integer ?a_law ?l_law ?c_law ?k_law ?z_bool ?z_int ?z_isinstance ?z_list ?z_max ?z_range ?z_str ?a_KINDS ?l_KINDS ?a_GREATEST_COUNT ?a_GREATEST_MARK ?a_GREATEST_SIZE ?ag_LaneError ?ax_LaneError ?ak_LaneError ?ap_LaneError ?at_LaneError ?ai_LaneError ?ag_BadKind ?ax_BadKind ?ak_BadKind ?ap_BadKind ?at_BadKind ?ai_BadKind ?ag_BadCount ?ax_BadCount ?ak_BadCount ?ap_BadCount ?at_BadCount ?ai_BadCount ?ag_BadMark ?ax_BadMark ?ak_BadMark ?ap_BadMark ?at_BadMark ?ai_BadMark ?ag_BadSize ?ax_BadSize ?ak_BadSize ?ap_BadSize ?at_BadSize ?ai_BadSize
    (case a_is_whole => k_is)
    (case l_is_whole => k_is)
    (case c_is_whole => k_is)
    (case k_is_whole => k_is)
    (case a_is_word => k_is)
    (case l_is_word => k_is)
    (case c_is_word => k_is)
    (case k_is_word => k_is)
    (case a_lane_of => k_is)
    (case l_lane_of => k_is)
    (case c_lane_of => k_is)
    (case k_lane_of => k_is)
    (case a_check_kind => k_is)
    (case l_check_kind => k_is)
    (case c_check_kind => k_is)
    (case k_check_kind => k_is)
    (case a_check_count => k_is)
    (case l_check_count => k_is)
    (case c_check_count => k_is)
    (case k_check_count => k_is)
    (case a_check_size => k_is)
    (case l_check_size => k_is)
    (case c_check_size => k_is)
    (case k_check_size => k_is)
    (case a_lane_at => k_is)
    (case l_lane_at => k_is)
    (case c_lane_at => k_is)
    (case k_lane_at => k_is)
    (case a_law_source => k_is)
    (case l_law_source => k_is)
    (case c_law_source => k_is)
    (case k_law_source => k_is)
    (case a_law_draw => k_is)
    (case l_law_draw => k_is)
    (case c_law_draw => k_is)
    (case k_law_draw => k_is)
    (case a_law_great => k_is)
    (case l_law_great => k_is)
    (case c_law_great => k_is)
    (case k_law_great => k_is)
    (case a_law_integer => k_is)
    (case l_law_integer => k_is)
    (case c_law_integer => k_is)
    (case k_law_integer => k_is)
    (case a_law => k_is)
    (case l_law => k_is)
    (case c_law => k_is)
    (case k_law => k_is)
    (case z_bool => k_is)
    (case z_int => k_is)
    (case z_isinstance => k_is)
    (case z_list => k_is)
    (case z_max => k_is)
    (case z_range => k_is)
    (case z_str => k_is)
    (case a_KINDS => k_is)
    (case l_KINDS => k_is)
    (case a_GREATEST_COUNT => k_is)
    (case a_GREATEST_MARK => k_is)
    (case a_GREATEST_SIZE => k_is)
    (case ag_LaneError => k_is)
    (case ax_LaneError => k_exc)
    (case ak_LaneError => k_is)
    (case ap_LaneError => k_is)
    (case at_LaneError => k_is)
    (case ai_LaneError => k_is)
    (case ag_BadKind => k_is)
    (case ax_BadKind => k_exc)
    (case ak_BadKind => k_is)
    (case ap_BadKind => k_is)
    (case at_BadKind => k_is)
    (case ai_BadKind => k_is)
    (case ag_BadCount => k_is)
    (case ax_BadCount => k_exc)
    (case ak_BadCount => k_is)
    (case ap_BadCount => k_is)
    (case at_BadCount => k_is)
    (case ai_BadCount => k_is)
    (case ag_BadMark => k_is)
    (case ax_BadMark => k_exc)
    (case ak_BadMark => k_is)
    (case ap_BadMark => k_is)
    (case at_BadMark => k_is)
    (case ai_BadMark => k_is)
    (case ag_BadSize => k_is)
    (case ax_BadSize => k_exc)
    (case ak_BadSize => k_is)
    (case ap_BadSize => k_is)
    (case at_BadSize => k_is)
    (case ai_BadSize => k_is)
