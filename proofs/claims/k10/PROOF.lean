import PyProof.Rows.All
import Wide.All
import OpenK.AllK
import Wide.FinOn
import PySem.Challenge.RW_lanescounted_k10_nothing_done_yet
import HandS.ForMost
import HandS.ForExc
import HandS.Wide
import HandS.IsInst
import HandS.EndBits
import HandS.Small
import HandS.FStr
import HandS.Gcd
import HandS.Strs
import HandS.SetFor
import HandS.ExcIs
import HandS.TryMany
import HandS.Style
import HandS.TupAny
import HandS.Zip
import HandS.TupMul
import HandS.Conv
import KE.DataFind
import KE.DataMinMax
import KE.SortData
import HandS.Deep
import KE.DataCmp
import HandS.SetBool
import HandS.SetFor
import HandS.Strs
import HandS.SortKw
import HandS.Star
import KE.GoesEnum
set_option Elab.async false
set_option linter.all false
set_option maxRecDepth 100000
set_option maxHeartbeats 4000000
namespace Lc
open PySem PySem.Spec PyProof.Rows L2
/-! ### great ints -/
/-- two factors of together less than a hundred million bits -/
def CMulX (i j : Int) : Prop := i.natAbs.log2 + j.natAbs.log2 < 100000000
theorem intBits_le (x : Int) : Builtin.Int.intBits x ≤ x.natAbs.log2 + 1 := by
  unfold Builtin.Int.intBits; split <;> omega
theorem CMulX.ok {i j : Int} (h : CMulX i j) : IntMulOk i j := by
  have a := intBits_le i
  have b := intBits_le j
  unfold CMulX at h
  intro z
  have y := (Bool.and_eq_true _ _ ▸ z).2
  unfold Builtin.Int.intTooBig at y
  have x := of_decide_eq_true y
  have l : bitsLine = 134217728 := by decide
  omega
theorem op_mulX {X : Cx} : OpR X (binaryOp .Mult) (rI CMulX fun i j => .int (i * j)) := opI fun _ _ _ _ _ _ _ hc q => mul_int q hc.ok
/-- few bits -/
def Few (i : Int) : Prop := i.natAbs.log2 ≤ 2000000
theorem few_of {i : Int} (h : i.natAbs < 2 ^ 240) : Few i := by
  have := PySem.Flt.log2_lt_of (n := i.natAbs) (k := 240) (by omega) h
  unfold Few; omega
theorem few_le {i : Int} {b : Int} (h0 : 0 ≤ i) (h : i ≤ b) (hb : b.natAbs < 2 ^ 240) : Few i := few_of (Nat.lt_of_le_of_lt (by omega) hb)
theorem mulX {i j : Int} (h : Few i) (h' : Few j) : CMulX i j := by unfold CMulX; unfold Few at h h'; omega
theorem divX {i j : Int} (h : 0 < j) (hb : j.natAbs < 2 ^ 240) : CDivW i j := wide_div (b := 240) h hb (by decide) (by decide)
theorem log2_mono {a b : Nat} (h : a ≤ b) : a.log2 ≤ b.log2 := by
  rcases Nat.eq_zero_or_pos a with h0 | h0
  · subst h0; simp
  · have hb : b ≠ 0 := by omega
    have h1 : 2 ^ a.log2 ≤ a := Nat.log2_self_le (by omega)
    exact (Nat.le_log2 hb).mpr (by omega)
theorem bits_log {z : Int} (h : Builtin.Int.intBits z ≤ 1048576) : z.natAbs.log2 ≤ 1048576 := by
  unfold Builtin.Int.intBits at h
  split at h
  · rename_i h0; simp_all
  · omega
/-! ### heaps -/
/-- all that was tracked, but for a, is as it was -/
def But (a : Addr) (H H' : Hp) : Prop := ∀ b o, b ≠ a → H b = some o → H' b = some o
theorem But.refl (a : Addr) (H : Hp) : But a H H := fun _ _ _ h => h
theorem But.trans {a : Addr} {H H1 H2 : Hp} (x : But a H H1) (y : But a H1 H2) : But a H H2 := fun b o n h => y b o n (x b o n h)
theorem But.same {a : Addr} {H H1 H2 : Hp} (x : But a H H1) (y : Same H1 H2) : But a H H2 := fun b o n h => y b o (x b o n h)
theorem Same.but {a : Addr} {H H1 : Hp} (y : Same H H1) : But a H H1 := fun b o _ h => y b o h
theorem But.new {a : Addr} {H H1 H2 : Hp} (y : Same H H1) (x : But a H1 H2) : But a H H2 := fun b o n h => x b o n (y b o h)
theorem same_upd {H : Hp} {p : Addr} {o : HO} (h : H p = none) : Same H (upd H p o) := fun b x e => by
  rw [upd_ne (ne_of_none e h)]
  exact e
theorem But.upd {a : Addr} {H H' : Hp} {o : HO} (x : But a H H') : But a H (upd H' a o) := fun b u n h => by
  rw [upd_ne n]
  exact x b u n h
/-! ### statements joined behind an if -/
theorem seq_cut {t u : TS} {D : Ends} {σ : L2.St} {H : Hp} (M : L2.St → Hp → Prop) (h2 : ∀ σ' H', M σ' H' → u D σ' H') (h1 : (∀ σ' H', M σ' H' → u D σ' H') → t { D with nx := u D } σ H) : tSeq t u D σ H := h1 h2
theorem if_cut {c : TT} {t1 t2 u : TS} {D : Ends} {σ : L2.St} {H : Hp} (M : L2.St → Hp → Prop) (h2 : ∀ σ' H', M σ' H' → u D σ' H') (h1 : (∀ σ' H', M σ' H' → u D σ' H') → tIfS c t1 t2 { D with nx := u D } σ H) : tSeq (tIfS c t1 t2) u D σ H := h1 h2
/-! ### the source of draws -/
structure Src (H : Hp) (a : Addr) (n : Nat) : Prop where
  ex : ∃ (l : Addr) (ns : List Int) (x y z : Int), H a = some (.lst [.ref l, .int x, .int y, .int z]) ∧ H l = some (.lst (ns.map V.int)) ∧ (∀ k ∈ ns, k.natAbs.log2 ≤ 1048576) ∧ ns.length ≤ 63 ∧
    0 ≤ x ∧ x.natAbs.log2 ≤ 1048576 ∧ 0 ≤ y ∧ y < 2147483647 ∧ 0 ≤ z ∧ z ≤ (n : Int)
def spDraw : Sp := fun vs H Q _ => ∃ (a : Addr) (n : Nat) (lim : Int), vs = [.ref a, .int lim] ∧ Src H a n ∧ n < 1000000 ∧ 1 ≤ lim ∧ lim ≤ 1000000000000 ∧
  ∀ d H', 0 ≤ d → d < lim → Src H' a (n + 1) → But a H H' → Q (.int d) H'
def spSource (K : PySem.W.Frag) : Sp := fun vs H Q _ => ∃ (a : Addr) (ns : List Int), vs = [.ref a] ∧ SqL K H a (ns.map V.int) ∧ ns.length ≤ 63 ∧ (∀ z ∈ ns, Builtin.Int.intBits z ≤ 1048576) ∧
  ∀ p H', H p = none → Src H' p 0 → Same H H' → Q (.ref p) H'
def spGreat : Sp := fun vs H Q _ => ∃ (a : Addr) (n : Nat) (lim : Int), vs = [.ref a, .int lim] ∧ Src H a n ∧ n + 5 < 1000000 ∧ 1 ≤ lim ∧ lim ≤ 10 ^ 60 ∧
  ∀ d H', 0 ≤ d → d < lim → Src H' a (n + 5) → But a H H' → Q (.int d) H'
/-- what is behind the first if of a draw -/
structure Mid (H0 : Hp) (a : Addr) (n : Nat) (H : Hp) : Prop where
  src : Src H a n
  but : But a H0 H
theorem src_ne {H : Hp} {a b : Addr} {n : Nat} (S : Src H a n) (h : H b = none) : b ≠ a := by
  obtain ⟨l, ns, x, y, z, h1, _⟩ := S.ex
  intro e; subst e; rw [h] at h1; cases h1
theorem Src.le {H : Hp} {a : Addr} {n m : Nat} (S : Src H a n) (h : n ≤ m) : Src H a m := by
  obtain ⟨l, ns, x, y, z, h1, h2, h3, h4, h5, h6, h7, h8, h9, h10⟩ := S.ex
  exact ⟨l, ns, x, y, z, h1, h2, h3, h4, h5, h6, h7, h8, h9, by omega⟩
theorem Src.same {H H' : Hp} {a : Addr} {n : Nat} (S : Src H a n) (k : Same H H') : Src H' a n := by
  obtain ⟨l, ns, x, y, z, h1, h2, h3⟩ := S.ex
  exact ⟨l, ns, x, y, z, k _ _ h1, k _ _ h2, h3⟩
theorem cut1 (l : List V) : cutV l (some 1) none = l.drop 1 := by
  have e1 : HT.sIx l.length 0 (some 1) = min 1 l.length := HT.sIx_nat l.length 0 1
  have e2 : HT.sIx l.length l.length none = l.length := HT.sIx_none ..
  show ((l.drop (HT.sIx l.length 0 (some 1))).take (HT.sIx l.length l.length none - HT.sIx l.length 0 (some 1))) = l.drop 1
  rw [e1, e2]
  match l with
  | [] => rfl
  | a :: r =>
    have e3 : min 1 (a :: r).length = 1 := Nat.min_eq_left (by simp)
    rw [e3]
    exact List.take_of_length_le (by simp)
theorem idiv_log {x j : Int} (h0 : 0 ≤ x) (hj : 1 ≤ j) {k : Nat} (h : x.natAbs.log2 ≤ k) : (x / j).natAbs.log2 ≤ k := by
  have h1 : 0 ≤ x / j := Int.ediv_nonneg h0 (by omega)
  have h2 : x / j ≤ x := Int.ediv_le_self j h0
  have h3 : (x / j).natAbs ≤ x.natAbs := by omega
  exact Nat.le_trans (log2_mono h3) h
def pw9 : Nat → Int
  | 0 => 1
  | n + 1 => pw9 n * 1000000000
theorem pw9_le {i : Nat} (h : i ≤ 5) : pw9 i ≤ 1000000000000000000000000000000000000000000000 := by
  match i, h with
  | 0, _ => decide
  | 1, _ => decide
  | 2, _ => decide
  | 3, _ => decide
  | 4, _ => decide
  | 5, _ => decide
theorem few_bits {k : Int} (h : k.natAbs.log2 ≤ 1048576) : Few k := by unfold Few; omega
theorem ends_true {Q : VK} {b : Bool} {H : Hp} (q : ∀ H', Q (.bl true) H') (h : b = true) : Q (.bl b) H := h ▸ q H
/-! ### rules with the written part by its name (within a comprehension) -/
theorem ixL {X : Cx} (K : PySem.W.Frag) (h : X.K = K := by rfl) : IxR X (rIxL K) := h ▸ ix_list
theorem ixT {X : Cx} (K : PySem.W.Frag) (h : X.K = K := by rfl) : IxR X (rIxT K) := h ▸ ix_tup
/-! ### what an object is -/
inductive Arg (K : PySem.W.Frag) (H : Hp) : V → String → Prop where
  | non : Arg K H .non "NoneType"
  | bl (b : Bool) : Arg K H (.bl b) "bool"
  | int (i : Int) : Arg K H (.int i) "int"
  | str (x : Str) : Arg K H (.str x) "str"
  | lst {a : Addr} {xs : List V} (e : H a = some (.lst xs)) : Arg K H (.ref a) "list"
  | tup {a : Addr} {xs : List V} (e : H a = some (.tup xs)) : Arg K H (.ref a) "tuple"
  | dK {a : Addr} {kvs : List (Key × V)} (e : H a = some (.dK kvs)) : Arg K H (.ref a) "dict"
  | ftup {a : Addr} {o : Obj} {xs : List V} (e : H a = some (.frz o (.tup xs))) : Arg K H (.ref a) "tuple"
def isI : V → Bool
  | .int _ => true | .bl _ => true | _ => false
def isB : V → Bool
  | .bl _ => true | _ => false
def isS : V → Bool
  | .str _ => true | _ => false
section
variable {K : PySem.W.Frag} {H : Hp} {x : V} {n : String}
theorem Arg.ty (h : Arg K H x n) : TyX K H x (.type n) := by
  cases h with
  | non => exact .base .non
  | bl b => exact .base (.bl b)
  | int i => exact .base (.int i)
  | str s => exact .base (.str s)
  | lst e => exact .base (.lst e)
  | tup e => exact .base (.tup e)
  | dK e => exact .base (.dK e)
  | ftup e => exact .fTuple e
theorem Arg.int? (h : Arg K H x n) : PySem.W.kitOne K (.type n) (.type "int") = some (isI x) := by
  cases h <;> first | exact kit_ty (r := true) (by decide +kernel) | exact kit_ty (r := false) (by decide +kernel)
theorem Arg.bool? (h : Arg K H x n) : PySem.W.kitOne K (.type n) (.type "bool") = some (isB x) := by
  cases h <;> first | exact kit_ty (r := true) (by decide +kernel) | exact kit_ty (r := false) (by decide +kernel)
theorem Arg.str? (h : Arg K H x n) : PySem.W.kitOne K (.type n) (.type "str") = some (isS x) := by
  cases h <;> first | exact kit_ty (r := true) (by decide +kernel) | exact kit_ty (r := false) (by decide +kernel)
end
/-- an integer from lo to hi, no bool -/
def wholeV (x : V) (lo hi : Int) : Bool := match x with
  | .int i => decide (lo ≤ i) && decide (i ≤ hi)
  | _ => false
def wordV (x : V) (ws : List Str) : Bool := match x with
  | .str s => decide (s ∈ ws)
  | _ => false
theorem inV_str (s : Str) (ws : List Str) : inV (.str s) (ws.map V.str) = decide (s ∈ ws) := by
  unfold inV
  induction ws with
  | nil => rfl
  | cons w r ih =>
    rw [List.map_cons, List.any_cons, ih]
    show ((w == s) || decide (s ∈ r)) = decide (s ∈ w :: r)
    by_cases e : w = s
    · subst e; simp
    · have e2 : (w == s) = false := beq_eq_false_iff_ne.mpr e
      have e3 : ¬ s = w := fun z => e z.symm
      rw [e2, Bool.false_or]
      simp [e3]
theorem all_flat_str (ws : List Str) : (ws.map V.str).all flatV = true := by
  induction ws with
  | nil => rfl
  | cons w r ih => rw [List.map_cons, List.all_cons, ih]; rfl
theorem atI_two {α : Type} {x y : α} {d : Int} (h0 : 0 ≤ d) (h1 : d < 2) : atI [x, y] d = some (if d = 0 then x else y) := by
  have h : d = 0 ∨ d = 1 := by omega
  rcases h with rfl | rfl <;> rfl
theorem atI_three {α : Type} {x y z : α} {d : Int} (h0 : 0 ≤ d) (h1 : d < 3) : atI [x, y, z] d = some (if d = 0 then x else if d = 1 then y else z) := by
  have h : d = 0 ∨ d = 1 ∨ d = 2 := by omega
  rcases h with rfl | rfl | rfl <;> rfl
def spWhole (K : PySem.W.Frag) : Sp := fun vs H Q _ => ∃ (x : V) (lo hi : Int) (n : String), vs = [x, .int lo, .int hi] ∧ Arg K H x n ∧ Q (.bl (wholeV x lo hi)) H
def spWord (K : PySem.W.Frag) : Sp := fun vs H Q _ => ∃ (x : V) (t : Addr) (ws : List Str) (n : String), vs = [x, .ref t] ∧ SqT K H t (ws.map V.str) ∧ Arg K H x n ∧ Q (.bl (wordV x ws)) H
def spIsInt (K : PySem.W.Frag) : Sp := fun vs H Q _ => ∃ (x : V) (n : String), vs = [x] ∧ Arg K H x n ∧ Q (.bl (isI x && !isB x)) H
/-- what a def hands back or raises, nothing written -/
def spRes (exc : String → Addr) (r : Except String V) (H : Hp) (Q : VK) (E : XK) : Prop := match r with
  | .ok v => Q v H
  | .error n => E (.ref (exc n)) none H
theorem ite_of {c : Prop} [Decidable c] {α : Type} {a b : α} (h : c) : (if c then a else b) = a := if_pos h
/-! ### tables: what its defs hand back or raise -/
def kindV (x : V) : Bool := wordV x ["rest", "ranges"]
def laneAt (k : V) (c m s : Int) : Int := if k = .str "rest" then m % c else m * c / s
def laneOf (k c m s : V) : Except String V :=
  if kindV k = false then .error "BadKind" else if wholeV c 1 (10 ^ 20) = false then .error "BadCount" else if wholeV m 0 (10 ^ 40) = false then .error "BadMark" else
  if wholeV s 1 (10 ^ 40) = false then .error "BadSize" else match c, m, s with
    | .int c, .int m, .int s => if s ≤ m then .error "BadMark" else .ok (.int (laneAt k c m s))
    | _, _, _ => .ok .non
def spChk (K : PySem.W.Frag) (exc : String → Addr) (good : V → Bool) (n : String) : Sp := fun vs H Q E => ∃ (x : V) (tn : String), vs = [x] ∧ Arg K H x tn ∧ spRes exc (if good x = false then .error n else .ok .non) H Q E
def spChkC (K : PySem.W.Frag) (exc : String → Addr) : Sp := fun vs H Q E => ∃ (x : V) (g : Int) (tn : String), vs = [x, .int g] ∧ (g = 10 ^ 20 ∨ g = 1000) ∧ Arg K H x tn ∧ spRes exc (if wholeV x 1 g = false then .error "BadCount" else .ok .non) H Q E
def spLaneAt : Sp := fun vs H Q _ => ∃ (k : Str) (c m s : Int), vs = [.str k, .int c, .int m, .int s] ∧ 1 ≤ c ∧ c ≤ 10 ^ 20 ∧ 0 ≤ m ∧ m < s ∧ s ≤ 10 ^ 40 ∧ Q (.int (laneAt (.str k) c m s)) H
def spLaneOf (K : PySem.W.Frag) (exc : String → Addr) : Sp := fun vs H Q E => ∃ (k c m s : V) (tk tc tm ts : String), vs = [k, c, m, s] ∧ Arg K H k tk ∧ Arg K H c tc ∧ Arg K H m tm ∧ Arg K H s ts ∧ spRes exc (laneOf k c m s) H Q E
theorem whole_int {x : V} {lo hi : Int} (h : wholeV x lo hi = true) : ∃ i, x = .int i ∧ lo ≤ i ∧ i ≤ hi := by
  cases x with
  | int i =>
    have h2 : (decide (lo ≤ i) && decide (i ≤ hi)) = true := h
    rw [Bool.and_eq_true] at h2
    exact ⟨i, rfl, of_decide_eq_true h2.1, of_decide_eq_true h2.2⟩
  | _ => exact nomatch h
theorem word_str {x : V} {ws : List Str} (h : wordV x ws = true) : ∃ s, x = .str s ∧ s ∈ ws := by
  cases x with
  | str s => exact ⟨s, rfl, of_decide_eq_true h⟩
  | _ => exact nomatch h
theorem whole_of {i lo hi : Int} (h : lo ≤ i) (h' : i ≤ hi) : wholeV (.int i) lo hi = true := by
  show (decide (lo ≤ i) && decide (i ≤ hi)) = true
  rw [decide_eq_true h, decide_eq_true h']; rfl
theorem fmt20 : (toString ((10 : Int) ^ 20) : Str).length = 21 := by decide +kernel
/-! ### lcm, and ranges of any ints -/
def rLcm : List V → Hp → VK → Prop := fun vs H Q => ∃ a b : Nat, vs = [.int (a : Int), .int (b : Int)] ∧ a < 10 ^ 40 ∧ b < 10 ^ 40 ∧ 0 < a ∧ Q (.int ((Nat.lcm a b : Nat) : Int)) H
theorem cr_lcm {X : Cx} : CallR X (.builtin "math.lcm") rLcm := by
  intro pins s σ H vs us Q I r h
  obtain ⟨a, b, rfl, ha, hb, h0, q⟩ := h
  obtain ⟨t, u, rfl⟩ := Vals.int2 r
  have la : (max 1 ((a : Int).natAbs)).log2 ≤ 199 := PySem.W.mg_log (Nat.lt_of_lt_of_le (by rw [Int.natAbs_natCast]; omega : max 1 ((a : Int).natAbs) < 10 ^ 40) (by decide))
  have lb : (max ((a : Int).natAbs) ((b : Int).natAbs)).log2 ≤ 199 := PySem.W.mg_log (Nat.lt_of_lt_of_le (by rw [Int.natAbs_natCast, Int.natAbs_natCast]; omega : max ((a : Int).natAbs) ((b : Int).natAbs) < 10 ^ 40) (by decide))
  have e : ((Nat.lcm 1 ((a : Int).natAbs)).lcm ((b : Int).natAbs) : Nat) = Nat.lcm a b := by rw [Int.natAbs_natCast, Int.natAbs_natCast, Nat.lcm_one_left]
  have ls : (((((Nat.lcm 1 ((a : Int).natAbs)).lcm ((b : Int).natAbs) : Nat)) : Int)).natAbs.log2 < bitsLine := by
    rw [e, Int.natAbs_natCast]
    have h1 : Nat.lcm a b ≤ a * b := by
      unfold Nat.lcm; exact Nat.div_le_self _ _
    have h2 : a * b ≤ 10 ^ 40 * 10 ^ 40 := Nat.mul_le_mul (Nat.le_of_lt ha) (Nat.le_of_lt hb)
    have h3 : (Nat.lcm a b).log2 ≤ 399 := PySem.W.mg_log (Nat.lt_of_le_of_lt (Nat.le_trans h1 h2) (by decide))
    exact Nat.lt_of_le_of_lt h3 (by decide)
  exact PySem.call_function_meets PySem.W.MGF.kind_lcm PySem.W.MGF.plain_lcm PySem.W.MGF.entry_lcm (PySem.W.MGF.args_lcm _ _) (PySem.W.mg_run_lcm _ t _ u (by omega) (by omega) ls).meets ⟨.int _, H, I.tok _, ⟨_, rfl⟩, (by rw [e]; exact q)⟩
theorem turn_long {P : Program} {w : World} {K : PySem.W.Frag} {tg : Expr} (c : Addr) (lo : Int) (n : Nat) : Turn P w K tg (Itr lo n) [c] c (fun i h => IsLongIter h c (lo + (i : Nat) * 1) ((n : Int) - (i : Nat)) 1) := by
  refine { mem := List.mem_singleton.mpr rfl, obj := ?o, keep := ?k, item := ?i, done := ?d, self := ?s }
  case o =>
    intro i h hc b hb
    cases List.mem_singleton.mp hb
    exact ⟨_, hc, fun v (z : Data.fields _ = Data.cell v) => nomatch z⟩
  case k => exact fun i h h' hc k => k c (List.mem_singleton.mpr rfl) _ hc
  case i =>
    rintro X rfl rfl rfl hh i pins s σ H E I hf hc hg
    have hq := hf c (List.mem_singleton.mpr rfl)
    obtain ⟨q0, q1, q2, q3, q4, q5⟩ := hq
    refine (Walks.longrange (prog := X.prog) (w := X.w) (I.ok.hd hh) c lo 1 n).item i s _ _ hg hc fun v h' tk hv hc' hk => ?_
    obtain ⟨t, rfl⟩ := hv
    have J : Inv X pins σ H { s with heap := h', toks := tk } := I.turned (fun b o hb e => hk b o (fun z => hb (List.mem_singleton.mp z)) e) q0 q1 q3 q4 q5
    exact ⟨_, rfl, go_of (s := { s with heap := h', toks := tk }) (n := "longrange_iterator") hc' rfl rfl (by decide) ⟨.int (lo + i), H, J, ⟨t, by rw [Int.mul_one]⟩, ⟨rfl, rfl⟩, hc', fun b hb => (hf b hb).1⟩⟩
  case d =>
    rintro X rfl rfl rfl hh i pins s σ H E I hf hc hg
    obtain ⟨q0, q1, q2, q3, q4, q5⟩ := hf c (List.mem_singleton.mpr rfl)
    have hni : n ≤ i := hg
    exact wpAny_pyNext_long_end (I.ok.hd hh) hc (by omega) fun h' k => ⟨rfl, I.turned (t' := s.toks) (fun b o hb e => k b o hb e) q0 q1 q3 q4 q5⟩
  case s => exact fun _ _ _ _ _ hc h => wpAny_pyIter_longiter hc h
theorem any_range {X : Cx} {tg : Expr} {pins : List (Addr × Obj)} {σ : L2.St} {H : Hp} {s : Shared} {R : It → Hp → Prop} {E : Value → Shared → Prop} {lo hi : Int} {t u v : Tok} {tk : Nat} (I : Inv X pins σ H s) (q : R (Itr lo (hi - lo).toNat) H) :
    wpAny (model X.prog X.w) X.A (pyIter (.ref s.heap.objs.size)) (PIE X pins σ tg R) E { s with heap := s.heap.push { cls := .type "range", data := .fields #[.int lo t, .int hi u, .int 1 v] }, toks := tk } := by
  have J : Inv X pins σ H { s with heap := s.heap.push { cls := .type "range", data := .fields #[.int lo t, .int hi u, .int 1 v] }, toks := tk } := I.kept fun b o e => Heap.get?_push_of_some _ e
  have ez : lo + ((0 : Nat) : Int) * 1 = lo := by omega
  have en : (((hi - lo).toNat : Nat) : Int) - ((0 : Nat) : Int) = Builtin.Range.rangeSize lo hi 1 := by
    rw [rangeSize_one]; split <;> omega
  cases hsm : Builtin.Range.small lo hi 1 with
  | true =>
    refine wpAny_pyIter_range (IsRange.new ..) hsm ?_
    refine ⟨_, [_], _, _, H, rfl, J.kept (t' := tk) fun b o e => Heap.get?_push_of_some _ e, turn_range _ lo (hi - lo).toNat, ?_, fun b hb => ?_, q⟩
    · show IsRangeIter _ _ (lo + ((0 : Nat) : Int) * 1) ((((hi - lo).toNat : Nat) : Int) - ((0 : Nat) : Int)) 1
      rw [ez, en]; exact Heap.get?_push_size _ rfl
    · cases List.mem_singleton.mp hb
      exact J.fpOk (Nat.le_refl _) (J.hok.fresh (Nat.le_refl _))
  | false =>
    refine wpAny_pyIter_longrange (IsRange.new ..) hsm ?_
    refine ⟨_, [_], _, _, H, rfl, J.kept (t' := tk) fun b o e => Heap.get?_push_of_some _ e, turn_long _ lo (hi - lo).toNat, ?_, fun b hb => ?_, q⟩
    · show IsLongIter _ _ (lo + ((0 : Nat) : Int) * 1) ((((hi - lo).toNat : Nat) : Int) - ((0 : Nat) : Int)) 1
      rw [ez, en]; exact Heap.get?_push_size _ rfl
    · cases List.mem_singleton.mp hb
      exact J.fpOk (Nat.le_refl _) (J.hok.fresh (Nat.le_refl _))
def iRngA (ta : TA) : TI := fun σ H R => ta σ H fun vs H1 => ∃ i j : Int, vs = [.int i, .int j] ∧ R (Itr i (j - i).toNat) H1
theorem pi_rangeA {X : Cx} {tg a b : Expr} {ta : TA} {p pos : Pos} (hg : Gl X "range") (hm : X.mg "range" = none) (ha : PA X [a, b] ta) (hs : starEach [a, b] X.env = [(false, eval a X.env), (false, eval b X.env)] := by rfl) (hs2 : starEach [b] X.env = [(false, eval b X.env)] := by rfl) :
    PI X tg (.Call (.Name "range" p) [a, b] [] pos) (iRngA ta) := by
  refine ⟨fun pins s σ H R I h => Call_ (ld_blt I hg hm boot_range (PyProof.Rows.callWith_type1 (thn (ha.run pos pins s σ H _ I h) fun us s1 hh => ?_) (by rw [hs, hs2]) (by rw [hs2]; rfl)))⟩
  obtain ⟨vs, H1, J, r1, i, j, e, q⟩ := hh
  subst e
  obtain ⟨t, t', rfl⟩ := Vals.int2 r1
  exact call_range_2 (any_range J q)
/-! ### marks that move -/
def lstart (l c s : Int) : Int := (l * s + c - 1) / c
def lcmI (a b : Int) : Int := ((Nat.lcm a.toNat b.toNat : Nat) : Int)
def keptRest (low high size : Int) : Int := size / lcmI low high * low + (if low < size % lcmI low high then low else size % lcmI low high)
def gapI (high low size : Int) (l : Int) : Int := if lstart (l + 1) high size - lstart l low size > 0 then lstart (l + 1) high size - lstart l low size else 0
def keptR (high low size : Int) : Nat → Int
  | 0 => 0
  | n + 1 => keptR high low size n + gapI high low size (n : Int)
inductive FirstR (low high size : Int) : V → Prop where
  | at (l : Int) (h1 : 1 ≤ l) (h2 : l ≤ low) (h3 : lstart l high size < lstart l low size) (h4 : ∀ j, 1 ≤ j → j < l → lstart j low size ≤ lstart j high size) : FirstR low high size (.int (lstart l high size))
  | no (h : ∀ j, 1 ≤ j → j ≤ low → lstart j low size ≤ lstart j high size) : FirstR low high size .non
def lowI (b a : Int) : Int := if a < b then a else b
def highI (b a : Int) : Int := if a > b then a else b
def countM (k : Str) (b a s : Int) : Int := if V.str k = .str "rest" then s - keptRest (lowI b a) (highI b a) s else s - keptR (highI b a) (lowI b a) s (lowI b a).toNat
def FirstM (k : Str) (b a s : Int) (r : V) : Prop := if V.str k = .str "ranges" then FirstR (lowI b a) (highI b a) s r else
  r = (if lowI b a < (if s < highI b a then s else highI b a) then .int (lowI b a) else .non)
def mostOf (k : V) : Int := if k = .str "rest" then 10 ^ 20 else 1000
def chkM (k b a s : V) : Option String :=
  if kindV k = false then some "BadKind" else if wholeV b 1 (mostOf k) = false then some "BadCount" else if wholeV a 1 (mostOf k) = false then some "BadCount" else if wholeV s 1 (10 ^ 40) = false then some "BadSize" else none
structure Mvd (ks : Str) (b a s : Int) : Prop where
  k : kindV (.str ks) = true
  b1 : 1 ≤ b
  b2 : b ≤ mostOf (.str ks)
  a1 : 1 ≤ a
  a2 : a ≤ mostOf (.str ks)
  s1 : 1 ≤ s
  s2 : s ≤ 10 ^ 40
theorem chkM_none {k b a s : V} (h : chkM k b a s = none) : ∃ ks bi ai si, k = .str ks ∧ b = .int bi ∧ a = .int ai ∧ s = .int si ∧ Mvd ks bi ai si := by
  unfold chkM at h
  cases e1 : kindV k with
  | false => rw [if_pos e1] at h; cases h
  | true =>
  rw [if_neg (by rw [e1]; decide)] at h
  cases e2 : wholeV b 1 (mostOf k) with
  | false => rw [if_pos e2] at h; cases h
  | true =>
  rw [if_neg (by rw [e2]; decide)] at h
  cases e3 : wholeV a 1 (mostOf k) with
  | false => rw [if_pos e3] at h; cases h
  | true =>
  rw [if_neg (by rw [e3]; decide)] at h
  cases e4 : wholeV s 1 (10 ^ 40) with
  | false => rw [if_pos e4] at h; cases h
  | true =>
  obtain ⟨bi, rfl, b1, b2⟩ := whole_int e2
  obtain ⟨ai, rfl, a1, a2⟩ := whole_int e3
  obtain ⟨si, rfl, s1, s2⟩ := whole_int e4
  obtain ⟨ks, rfl, _⟩ := word_str e1
  exact ⟨ks, bi, ai, si, rfl, rfl, rfl, rfl, e1, b1, b2, a1, a2, s1, s2⟩
theorem chkM_ok {ks : Str} {b a s : Int} (h : Mvd ks b a s) : chkM (.str ks) (.int b) (.int a) (.int s) = none := by
  unfold chkM
  rw [if_neg (by rw [h.k]; decide), if_neg (by rw [whole_of h.b1 h.b2]; decide), if_neg (by rw [whole_of h.a1 h.a2]; decide), if_neg (by rw [whole_of h.s1 h.s2]; decide)]
/-- one who asks: the error, or what comes of good ones -/
def spAskM (K : PySem.W.Frag) (exc : String → Addr) (G : Str → Int → Int → Int → V → Prop) : Sp := fun vs H Q E => ∃ (k b a s : V) (tk tb ta ts : String), vs = [k, b, a, s] ∧ Arg K H k tk ∧ Arg K H b tb ∧ Arg K H a ta ∧ Arg K H s ts ∧
  (∀ n, chkM k b a s = some n → E (.ref (exc n)) none H) ∧ (∀ ks bi ai si, k = .str ks → b = .int bi → a = .int ai → s = .int si → Mvd ks bi ai si → ∀ r, G ks bi ai si r → Q r H)
def spLstart : Sp := fun vs H Q _ => ∃ l c s : Int, vs = [.int l, .int c, .int s] ∧ 0 ≤ l ∧ l ≤ 2000 ∧ 1 ≤ c ∧ c ≤ 1000 ∧ 1 ≤ s ∧ s ≤ 10 ^ 40 ∧ Q (.int (lstart l c s)) H
def spKeptRest : Sp := fun vs H Q _ => ∃ l h s : Int, vs = [.int l, .int h, .int s] ∧ 1 ≤ l ∧ l ≤ 10 ^ 20 ∧ 1 ≤ h ∧ h ≤ 10 ^ 20 ∧ 1 ≤ s ∧ s ≤ 10 ^ 40 ∧ Q (.int (keptRest l h s)) H
def spKeptRanges : Sp := fun vs H Q _ => ∃ l h s : Int, vs = [.int l, .int h, .int s] ∧ 1 ≤ l ∧ l ≤ 1000 ∧ 1 ≤ h ∧ h ≤ 1000 ∧ 1 ≤ s ∧ s ≤ 10 ^ 40 ∧ Q (.int (keptR h l s l.toNat)) H
def spFirstRanges : Sp := fun vs H Q _ => ∃ l h s : Int, vs = [.int l, .int h, .int s] ∧ 1 ≤ l ∧ l ≤ 1000 ∧ 1 ≤ h ∧ h ≤ 1000 ∧ 1 ≤ s ∧ s ≤ 10 ^ 40 ∧ ∀ r, FirstR l h s r → Q r H
theorem lcmI_pos {a b : Int} (ha : 1 ≤ a) (hb : 1 ≤ b) : 1 ≤ lcmI a b := by
  unfold lcmI
  have : 0 < Nat.lcm a.toNat b.toNat := Nat.lcm_pos (by omega) (by omega)
  omega
theorem lcmI_le {a b : Int} (ha : 1 ≤ a) (hb : 1 ≤ b) (ha2 : a ≤ 10 ^ 20) (hb2 : b ≤ 10 ^ 20) : lcmI a b ≤ 10 ^ 40 := by
  unfold lcmI
  have h1 : Nat.lcm a.toNat b.toNat ≤ a.toNat * b.toNat := by
    unfold Nat.lcm; exact Nat.div_le_self _ _
  have h2 : a.toNat * b.toNat ≤ 10 ^ 20 * 10 ^ 20 := Nat.mul_le_mul (by omega) (by omega)
  have h3 : (10 : Nat) ^ 20 * 10 ^ 20 = 10 ^ 40 := by decide
  omega
theorem most_cases {ks : Str} (h : kindV (.str ks) = true) : (V.str ks = .str "rest" ∧ mostOf (.str ks) = 10 ^ 20) ∨ (V.str ks = .str "ranges" ∧ ¬ V.str ks = .str "rest" ∧ mostOf (.str ks) = 1000) := by
  obtain ⟨s, e, hs⟩ := word_str h
  cases e
  rcases List.mem_cons.mp hs with rfl | hs
  · exact .inl ⟨rfl, rfl⟩
  · rcases List.mem_cons.mp hs with rfl | hs
    · exact .inr ⟨rfl, by decide, rfl⟩
    · exact nomatch hs
/-! ### errors caught -/
theorem exm_pair {K : PySem.W.Frag} {A B : Addr} {b : Bool} (p : PySem.W.subIn K (.ref B) (.type "BaseException") = some true) (i : PySem.W.isClsIn K B = true) (t : PySem.W.typeIn K (.ref B) = some (.type "type")) (q : PySem.W.subIn K (.ref A) (.ref B) = some b) :
    PySem.W.exmOne K (.ref A) (.ref B) = some b := by
  have i' : (PySem.W.clsIn K B).isSome = true := i
  unfold PySem.W.exmOne PySem.W.kitCls
  rw [p]
  dsimp only
  rw [i', t]
  exact q
theorem kit_ve {K : PySem.W.Frag} {A : Addr} {b : Bool} (q : PySem.W.subIn K (.ref A) (.type "ValueError") = some b) : PySem.W.kitOne K (.ref A) (.type "ValueError") = some b := by
  have m : PySem.W.kitMeta "ValueError" = true := by decide +kernel
  unfold PySem.W.kitOne PySem.W.kitCls
  dsimp only
  rw [m]
  exact q
/-- isinstance of the error that a suite holds -/
def rIsG (K : PySem.W.Frag) (a : Addr) (cls : Value) (d : Option Addr) : List V → Hp → VK → Prop := fun xs H Q => ∃ D, cls = .ref D ∧ d = none ∧ ExcC K D ∧ rIsE K D a xs H Q
theorem call_isG {X : Cx} {a : Addr} {oe : Obj} {cls : Value} {d : Option Addr} {pn : List (Addr × Obj)} (hz : Zc cls d oe) (hf : ∃ vs, oe.data = .fields vs) : CallR (X.suite a ((a, oe) :: pn)) (.builtin "isinstance") (rIsG X.K a cls d) := by
  intro pins s σ H xs us Q I r h
  obtain ⟨D, rfl, rfl, C, h⟩ := h
  exact call_isE C hz hf pins s σ H xs us Q I r h
end Lc
namespace LcS
open PySem PySem.Spec PyProof.Rows L2
section
variable {P : Program} {w : World} {A : Around} {E : Value → Shared → Prop} {s : Shared}
/-- a set just made -/
abbrev nul (w : World) : Obj := { cls := .type "set", dict := none, data := .set #[] 0 (.fresh 0 0 (!w.params.followText "set-order")) }
set_option maxHeartbeats 8000000 in
theorem set_of_list {l : Addr} {its : Array Value} (ns : List Int) {Q : Value → Shared → Prop} (hd : A.handled = none) (hl : s.heap.IsList l its) (ar : IntsAre its.toList ns) (room : ns.length + 1 < scanBound)
    (fin : ∀ (g : Heap) (tk c : Nat), SetR w g s.heap.objs.size (fun j => decide (j ∈ ns)) c → c ≤ ns.length → (∀ b o, s.heap.get? b = some o → g.get? b = some o) → Q (.ref s.heap.objs.size) { s with heap := g, toks := tk }) :
    wpAny (model P w) A (call (.type "set") [.ref l]) Q E s := by
  have size : its.size = ns.length := (Array.length_toList ▸ IntsAre.length ar)
  obtain ⟨mc, mt, mro⟩ := F.called_set.mro
  have made := F.called_set.made
  have sub := F.called_set.sub
  have notT := F.called_set.notType
  have can := F.called_set.canCreate
  have chk := F.typeCall_set_1 (.ref l)
  refine wpAny_call (codeAny_of_tree (show wpAny _ _ (callAny (.type "set") _) _ _ _ from wpAny_pure ⟨Code.quiet_builtin _ (by decide +kernel), codeAny_builtin F.entry_type_call ?_⟩))
  rw [Around.under_plain (weight_type_call_type "set" [.ref l] []) rfl]
  repeat (any_goals (first | assumption | wp_step))
  refine codeAny_mono (code_set_led1 (.ref l) (E := E) (Q₁ := fun v z => v = .ref s.heap.objs.size ∧ z = { s with heap := s.heap.push (nul w) }) ⟨rfl, rfl⟩) ?_
  rintro (x | fl) z hz
  · exact hz
  cases fl <;> try exact hz.elim
  rename_i v
  obtain ⟨rfl, rfl⟩ := hz
  have at0 : (s.heap.push (nul w)).get? s.heap.objs.size = some (nul w) := Heap.get?_push_size _ rfl
  have ty0 : Shared.TypeIs { s with heap := s.heap.push (nul w) } (.ref s.heap.objs.size) "set" := ⟨_, at0, rfl⟩
  have il := F.called_set.init.lookup
  have ib := F.called_set.init.bind (.ref s.heap.objs.size)
  repeat (any_goals (first | assumption | wp_step))
  refine codeAny_mono (codeAny_call_builtin (R := wants (fun r z => r = .none ∧ ∃ g tk c, z = { s with heap := g, toks := tk } ∧ SetR w g s.heap.objs.size (fun j => decide (j ∈ ns)) c ∧ c ≤ ns.length ∧ (∀ b o, s.heap.get? b = some o → g.get? b = some o)) E)
    F.called_set.init.plain F.entry_set_init (check_set_init_1 ty0 ?_)) ?_
  · obtain ⟨⟨oc, od, odata, osl⟩, hol, hcl, nl, hdl⟩ := hl
    simp only at hcl hdl
    subst hcl; subst hdl
    have at1 : (s.heap.push (nul w)).get? l = some { cls := .type "list", dict := od, data := .seq its nl, slots := osl } := Heap.get?_push_of_some _ hol
    have s1 := F.sub_list_set
    have s2 := F.sub_list_frozenset
    have nd : (Value.type "list" == Value.type "dict") = false := by decide
    have hl1 : (s.heap.push (nul w)).IsList l its := ⟨_, at1, rfl, nl, rfl⟩
    unfold Builtin.«set.__init__» noKeywords Builtin.Frozenset.updateFrom
    generalize eI : pyIter = PI
    wp_walk
    subst eI
    refine wpAny_pyIter_list hl1 (wpAny_bind (wpAny_runValue ?_))
    have ll : l < s.heap.objs.size := Heap.lt_size hol
    have sz : (s.heap.push (nul w)).objs.size = s.heap.objs.size + 1 := Heap.size_push ..
    have hd3 : A.in1.in1.in1.handled = none := by simp [hd]
    have lI : l ≠ (s.heap.push (nul w)).objs.size := fun e => by rw [e, sz] at ll; exact absurd ll (by exact fun z => Nat.lt_irrefl _ (Nat.lt_of_succ_lt z))
    have out : s.heap.objs.size ∉ [(s.heap.push (nul w)).objs.size, l] := by
      rw [sz]
      simp only [List.mem_cons, List.not_mem_nil, or_false, not_or]
      exact ⟨fun z => Nat.succ_ne_self _ z.symm, fun z => Nat.lt_irrefl _ (z ▸ ll)⟩
    have val : ∀ (i : Nat) (v : Value), its[i]? = some v → ∃ k t, ns[i]? = some k ∧ v = .int k t := fun i v hv => by
      have hi : i < ns.length := size ▸ (Array.getElem?_eq_some_iff.mp hv).1
      obtain ⟨t, rfl⟩ := PyProof.Rows.IntsAre.int_at ar i v (by rw [Array.getElem?_toList]; exact hv)
      exact ⟨ns[i], t, List.getElem?_eq_getElem hi, by rw [List.getD_eq_getElem?_getD, List.getElem?_eq_getElem hi] <;> rfl⟩
    refine set_update_ints ((Walks.list hd3 _ l lI its).toS) s.heap.objs.size out ns size room val (its.size - 0) 0 _ (by omega) (Nat.zero_le _) ⟨⟨_, Heap.get?_push_size _ rfl, rfl, rfl⟩, (hl1.push _)⟩ ?_ ?_
    · exact ⟨0, Nat.le_refl 0, setR_new_at (Heap.get?_push_of_some _ at0)⟩
    · rintro ⟨g, g2, d2, tk, os2⟩ c mv hc R
      have e1 : g2 = s.gens := mv.gens
      have e2 : d2 = s.drawn := mv.drawn
      have e3 : os2 = s.os := mv.os
      subst e1 e2 e3
      refine wpAny_pure (show wpAny _ _ (ret Value.none) _ _ _ from wpAny_pure ⟨rfl, g, tk, c, rfl, R, size ▸ hc, fun b o e => ?_⟩)
      have bl := Heap.lt_size e
      exact mv.heap b o (by rw [sz]; simp only [List.mem_cons, List.not_mem_nil, or_false, not_or]; exact ⟨fun z => Nat.lt_irrefl _ (z ▸ bl), fun z => Nat.lt_irrefl _ (Nat.lt_of_succ_lt (z ▸ bl))⟩) (Heap.get?_push_of_some _ (Heap.get?_push_of_some _ e))
  · rintro (x | fl) z hz
    · exact hz
    cases fl <;> try exact hz.elim
    obtain ⟨rfl, g, tk, c, rfl, R, hc, k⟩ := hz
    repeat (any_goals (first | assumption | wp_step))
    exact fin _ _ _ R hc k
end
/-- set(xs), xs a list of ints -/
def rSetL (K : PySem.W.Frag) (w : World) : List V → Hp → VK → Prop := fun xs H Q => ∃ (l : Addr) (ns : List Int), xs = [.ref l] ∧ SqL K H l (ns.map V.int) ∧ ns.length ≤ 2000 ∧
  ∀ p c, H p = none → c ≤ ns.length → Q (.ref p) (upd H p (SetO w p (fun j => decide (j ∈ ns)) c))
theorem cr_setL {X : Cx} (hc : X.calm = true) : CallR X (.type "set") (rSetL X.K X.w) := by
  intro pins s σ H xs us Q I r h
  obtain ⟨l, ns, rfl, hq, hn, q⟩ := h
  rw [Vals.ref1 r]
  obtain ⟨its, rv, pl, _⟩ := I.list hq
  refine set_of_list ns (I.ok.hd hc) pl.isList (by simpa using rv.ints) (by unfold scanBound; omega) fun g tk c R hcn k => ?_
  exact ⟨.ref _, _, I.laid (t' := tk) k (Nat.le_refl _) (setO_new R), rfl, q _ c (I.hok.fresh (Nat.le_refl _)) hcn⟩
end LcS
namespace LcC
open PySem PySem.Spec PyProof.Rows L2
/-! ### {e for a in xs .. for b in ys ..}, e an int -/
section
variable {pr : Program} {w : World} {A : Around} {R : Result → Shared → Prop} {s : Shared} {el ta ia tb ib : Expr} {ca cb : List Expr} {sc : Scope} {ps : Pos} {it D : Value} {v : Env}
abbrev two (el ta ia : Expr) (ca : List Expr) (tb ib : Expr) (cb : List Expr) (sc : Scope) (ps : Pos) : Expr := .SetComp el [⟨ta, ia, ca, 0⟩, ⟨tb, ib, cb, 0⟩] sc ps
/-- where an error goes -/
abbrev Out (pr : Program) (w : World) (A : Around) (v : Env) (R : Result → Shared → Prop) : Value → Shared → Prop := notedBy (model pr w) A v fun e z => R (.error e) z
/-- a step, with the errors of a turn -/
abbrev St1 {α : Type} (pr : Program) (w : World) (A : Around) (Z : Value → Shared → Prop) (t : Sem α) (s : Shared) (k : α → Shared → Prop) : Prop := wpAny (model pr w) A t k Z s
/-- one turn of a clause: its item, its store, its tests -/
def Turn (pr : Program) (w : World) (A : Around) (v : Env) (Z : Value → Shared → Prop) (tg : Expr) (cs : List Expr) (it : Value) (done next go : Shared → Prop) (s : Shared) : Prop :=
  St1 pr w A Z (pyNext it) s fun r s1 => match r with
    | none => done s1
    | some x => St1 pr w A Z (letOwnedTupleGo tg it x) s1 fun _ s2 => St1 pr w A Z (assign tg v x) s2 fun _ s3 =>
      St1 pr w A Z (forIn cs true fun c r => if r = true then do let b ← isTrue c v (eval c v); pure (ForInStep.yield b) else pure (ForInStep.yield r)) s3 fun b s4 => if b = true then go s4 else next s4
theorem outer (hs : ∀ x, foldedSetIterable ib v x = pure x) (I : Nat → Shared → Prop)
    (turn : ∀ n s, I n s → Turn pr w A v (Out pr w A v R) ta ca it (fun z => R (.ok .next) z) (fun z => ∃ m, m < n ∧ I m z)
      (fun z => St1 pr w A (Out pr w A v R) (eval ib v) z fun x z2 => St1 pr w A (Out pr w A v R) (pyIter x) z2 fun j z3 =>
        codeAny (model pr w) A (.compStart (two el ta ia ca tb ib cb sc ps) 1 j D v) (fun r y => match r with | .ok _ => ∃ m, m < n ∧ I m y | .error _ => False) z3) s)
    (n : Nat) (h : I n s) : codeAny (model pr w) A (.compLoop (two el ta ia ca tb ib cb sc ps) 0 it D v) R s := by
  refine codeAny_loop rfl I (fun n z hz => ?_) n h
  refine wpAny_noted (env := v) ?_
  refine wpAny_bind (m := standAt ia.pos) (wpAny_standAt ?_)
  refine wpAny_bind (m := pyNext it) (wpAny_mono (turn n z hz) (fun r z1 h1 => ?_) fun _ _ q => q)
  cases r with
  | none => exact wpAny_pure h1
  | some x =>
    refine wpAny_bind (m := letOwnedTupleGo ta it x) (wpAny_mono h1 (fun _ z2 h2 => ?_) fun _ _ q => q)
    refine wpAny_bind (m := assign ta v x) (wpAny_mono h2 (fun _ z3 h3 => wpAny_bind (wpAny_mono h3 (fun b z4 h4 => ?_) fun _ _ q => q)) fun _ _ q => q)
    cases b with
    | false => exact wpAny_pure ⟨rfl, h4⟩
    | true =>
      refine wpAny_bind (m := eval ib v) (wpAny_mono h4 (fun y z5 h5 => ?_) fun _ _ q => q)
      refine wpAny_bind (m := standAt ib.pos) (wpAny_standAt ?_)
      refine wpAny_bind (wpAny_of_eq (hs y) (wpAny_bind (wpAny_holding (wpAny_mono h5 (fun j z6 h6 => wpAny_bind (wpAny_runOwn ?_)) fun _ _ q => q))))
      rw [Around.mark_none]
      refine codeAny_mono h6 fun r z7 h7 => ?_
      cases r with
      | ok f => first | exact wpAny_pure ⟨rfl, h7⟩ | exact wpAny_bind (wpAny_pure (wpAny_pure ⟨rfl, h7⟩))
      | error e => exact False.elim h7
theorem inner (I : Nat → Shared → Prop)
    (turn : ∀ n s, I n s → Turn pr w A v (Out pr w A v R) tb cb it (fun z => R (.ok .next) z) (fun z => ∃ m, m < n ∧ I m z)
      (fun z => St1 pr w A (Out pr w A v R) (eval el v) z fun x z2 => St1 pr w A (Out pr w A v R) (call (.builtin "set.add") [D, x]) z2 fun _ z3 => ∃ m, m < n ∧ I m z3) s)
    (n : Nat) (h : I n s) : codeAny (model pr w) A (.compLoop (two el ta ia ca tb ib cb sc ps) 1 it D v) R s := by
  refine codeAny_loop rfl I (fun n z hz => ?_) n h
  refine wpAny_noted (env := v) ?_
  refine wpAny_bind (m := standAt ib.pos) (wpAny_standAt ?_)
  refine wpAny_bind (m := pyNext it) (wpAny_mono (turn n z hz) (fun r z1 h1 => ?_) fun _ _ q => q)
  cases r with
  | none => exact wpAny_pure h1
  | some x =>
    refine wpAny_bind (m := letOwnedTupleGo tb it x) (wpAny_mono h1 (fun _ z2 h2 => ?_) fun _ _ q => q)
    refine wpAny_bind (m := assign tb v x) (wpAny_mono h2 (fun _ z3 h3 => wpAny_bind (wpAny_mono h3 (fun b z4 h4 => ?_) fun _ _ q => q)) fun _ _ q => q)
    cases b with
    | false => exact wpAny_pure ⟨rfl, h4⟩
    | true => exact wpAny_bind (wpAny_bind (wpAny_mono h4 (fun y z5 h5 => wpAny_bind (wpAny_standAt (wpAny_bind (wpAny_mono h5 (fun _ z6 h6 => wpAny_pure (wpAny_pure ⟨rfl, h6⟩)) fun _ _ q => q)))) fun _ _ q => q))
theorem start1 (h0 : codeAny (model pr w) A (.compLoop (two el ta ia ca tb ib cb sc ps) 1 it D v) R s)
    (h : St1 pr w A (Out pr w A v R) (pyIter it) s fun j z => codeAny (model pr w) A (.compLoop (two el ta ia ca tb ib cb sc ps) 1 j D v) R z) :
    codeAny (model pr w) A (.compStart (two el ta ia ca tb ib cb sc ps) 1 it D v) R s := by
  refine codeAny_of_tree (wpAny_notedAt (env := v) ?_)
  unfold compStart
  show wpAny _ _ (ask >>= _) _ _ s
  refine wpAny_bind (wpAny_askSetting (wpAny_ite ?_))
  split
  · first | exact wpAny_bind (wpAny_pure (wpAny_pure ⟨rfl, h0⟩)) | exact wpAny_pure ⟨rfl, h0⟩
  · first
      | exact wpAny_bind (wpAny_rule (wpAny_bind (wpAny_standAt (wpAny_bind (wpAny_mono h (fun j z q => wpAny_pure ⟨rfl, q⟩) fun _ _ y => y)))))
      | (refine wpAny_bind (wpAny_rule ?_); show wpAny _ _ (standAt ib.pos >>= _) _ _ s; exact wpAny_bind (wpAny_standAt (wpAny_bind (wpAny_mono h (fun j z q => wpAny_pure ⟨rfl, q⟩) fun _ _ y => y))))
end
section
variable {X : Cx}
abbrev sO (w : World) (D : Addr) : HO := SetO w D (fun _ => false) 0
def tSc2 (w : World) (wi : TI) (g : TG) (tt : TT) (wj : TI) (f : TG) (uu : TT) (te : TE) (vs us : List Nat) : TE := fun σ H Q => wi σ H fun J H1 => ∀ D, H1 D = none →
  ∃ W : Nat → Nat → Hp → Prop, (∃ m, W 0 m (upd H1 D (sO w D))) ∧ ∀ i m H2, W i m H2 → (J.stop i H2 ∧ Q (.ref D) H2) ∨
    (J.go i H2 ∧ ∃ N : Hp → Prop, (∀ H3, N H3 → ∃ l, l < m ∧ W (i + 1) l H3) ∧ ∀ x H3, J.yld i H2 x H3 → g x (wipe σ vs) H3 fun τ H4 => wipe τ vs = wipe σ vs ∧ tt τ H4 fun b H5 =>
      if b = true then wj τ H5 fun J2 H6 => ∃ V2 : Nat → Nat → Hp → Prop, (∃ m, V2 0 m H6) ∧ ∀ j k H7, V2 j k H7 → (J2.stop j H7 ∧ N H7) ∨
        (J2.go j H7 ∧ ∃ M : Hp → Prop, (∀ H8, M H8 → ∃ l, l < k ∧ V2 (j + 1) l H8) ∧ ∀ y H8, J2.yld j H7 y H8 → f y (wipe τ us) H8 fun ρ H9 => wipe ρ us = wipe τ us ∧ uu ρ H9 fun c Ha =>
          if c = true then te ρ Ha fun z Hb => ∃ (k : Int) (S : Int → Bool) (n : Nat), z = .int k ∧ Hb D = some (SetO w D S n) ∧ n + 1 < scanBound ∧ M (upd Hb D (SetO w D (fun j => S j || decide (j = k)) (if S k = true then n else n + 1))) else M Ha)
      else N H5)
/-- what a block's rule is asked for: in any frame of the block -/
abbrev In (X : Cx) (sc : Scope) (p : Cx → Prop) : Prop := ∀ (s : Shared) (H : Hp) (C : Addr) (cl : List (Str × Addr)) (fp : List Addr), p (X.blk s H sc (compEnvC sc cl C X.env) fp)
theorem sc2_core {pins : List (Addr × Obj)} {s : Shared} {σ : L2.St} {H : Hp} {Q : VK} {el ta ia tb ib : Expr} {ca cb : List Expr} {sc : Scope} {own : List (Str × Nat)} {us : List Nat} {ps pq : Pos} {wi wj : TI} {g f : TG} {tt uu : TT} {te : TE} {use : Option (Value → Sem Unit)} {Qf : Value → Shared → Prop}
    (hc : X.calm = true) (hN : X.N.Nodup) (I : Inv X pins σ H s) (hi : PI X ta ia wi) (ok : BlkOk X.N X.env.scope sc own) (hv : ∀ i ∈ us, i ∈ own.map (·.2))
    (kg : In X sc fun Y => PG Y ta g) (kt : In X sc fun Y => PTs Y ca tt) (ke : In X sc fun Y => PE Y el te) (hs : ∀ x, foldedSetIterable ia X.env x = pure x)
    (ki : In X sc fun Y => PI Y tb ib wj) (kf : In X sc fun Y => PG Y tb f) (ku : In X sc fun Y => PTs Y cb uu) (hs2 : ∀ env x, foldedSetIterable ib env x = pure x)
    (h : tSc2 X.w wi g tt wj f uu te (own.map (·.2)) us σ H Q)
    (back : ∀ D C z m Hz, Inv X pins σ Hz z → Q (.ref D) Hz → z.heap.Ns C m → FpOk X pins Hz C → compPost (model X.prog X.w) X.A X.xe use Qf (.ref D) C (.ok .next) z) :
    wpAny (model X.prog X.w) X.A (comprehension (two el ta ia ca tb ib cb sc ps) sc X.env pq (newSet (.type "set")) false (eval ia X.env) use) Qf X.xe s := by
  have free : ∀ y ∈ sc.names, y.2 = .free → ∃ c, X.env.cells.lookup y.1 = some c := fun y hy e => (ok.free y hy e).elim (fun k => I.ok.has _ (.inl k)) fun k => I.ok.has _ (.inr k)
  refine wpAny_comprehension_free (use := use) rfl hs (closure_ok free) ok.kind (fun y hy e => by rw [ok.uniq y hy, e]) (thn (hi.run pins s σ H _ I h) fun _ sA hA => thn hA fun _ sB hB => ?_)
  obtain ⟨it, fp, tn, J, HB, rfl, IB, T, stB, fB, q⟩ := hB
  refine PpSet.newSet_ok (newEnv_comp ?_)
  generalize hD : sB.heap.objs.size = D
  have fresh : HB D = none := IB.hok.fresh (Nat.le_of_eq hD)
  obtain ⟨W, ⟨m0, w0⟩, walk⟩ := q D fresh
  generalize eC : ({ sB with heap := sB.heap.push (LcS.nul X.w) } : Shared) = sC
  have hpC : sC.heap = sB.heap.push (LcS.nul X.w) := by rw [← eC]
  have IC : Inv X pins σ (upd HB D (sO X.w D)) sC := by
    rw [← eC]
    refine IB.laid (t' := sB.toks) (fun b o e => Heap.get?_push_of_some _ e) (Nat.le_of_eq hD) ?_
    rw [← hD]
    exact setO_new (by simpa using setR_new_at (w := X.w) (ns := []) (Heap.get?_push_size sB.heap rfl))
  have young : ∀ b ∈ fp, b < sB.heap.objs.size := fun b hb => (T.obj _ _ stB b hb).elim fun o e => Heap.lt_size e.1
  have fC : ∀ b ∈ fp, FpOk X pins (upd HB D (sO X.w D)) b ∧ b < sC.heap.objs.size := fun b hb => by
    have y := young b hb
    refine ⟨⟨?_, (fB b hb).2⟩, by rw [hpC, Heap.size_push]; exact Nat.lt_succ_of_lt y⟩
    rw [upd_ne (by rw [← hD]; exact Nat.ne_of_lt y)]
    exact (fB b hb).1
  have stC : tn 0 sC.heap := T.keep _ _ _ stB fun b _ o e => by rw [hpC]; exact Heap.get?_push_of_some _ e
  have ID := block_start IC ok hN fC
  have pg := kg sC (upd HB D (sO X.w D)) sC.heap.objs.size (cellsFrom (sC.heap.objs.size + 1) sc.names (cloFrom X.env.cells sc.names [])) fp
  have pt := kt sC (upd HB D (sO X.w D)) sC.heap.objs.size (cellsFrom (sC.heap.objs.size + 1) sc.names (cloFrom X.env.cells sc.names [])) fp
  have pe := ke sC (upd HB D (sO X.w D)) sC.heap.objs.size (cellsFrom (sC.heap.objs.size + 1) sc.names (cloFrom X.env.cells sc.names [])) fp
  have pi := ki sC (upd HB D (sO X.w D)) sC.heap.objs.size (cellsFrom (sC.heap.objs.size + 1) sc.names (cloFrom X.env.cells sc.names [])) fp
  have pf := kf sC (upd HB D (sO X.w D)) sC.heap.objs.size (cellsFrom (sC.heap.objs.size + 1) sc.names (cloFrom X.env.cells sc.names [])) fp
  have pu := ku sC (upd HB D (sO X.w D)) sC.heap.objs.size (cellsFrom (sC.heap.objs.size + 1) sc.names (cloFrom X.env.cells sc.names [])) fp
  show codeAny _ _ (.compStart (two el ta ia ca tb ib cb sc ps) 0 (.ref it) (.ref D) (compEnvC sc (cellsFrom (sC.heap.objs.size + 1) sc.names (cloFrom X.env.cells sc.names [])) sC.heap.objs.size X.env)) (compPost (model X.prog X.w) X.A X.xe use Qf (.ref D) sC.heap.objs.size)
    { sC with heap := pushCells (sC.heap.push { cls := .type "dict", data := .dict #[] }) sc.names }
  have off : ∀ b ∈ fp, (upd HB D (sO X.w D)) b = none := fun b hb => (fC b hb).1.1
  generalize hv2 : compEnvC sc (cellsFrom (sC.heap.objs.size + 1) sc.names (cloFrom X.env.cells sc.names [])) sC.heap.objs.size X.env = v at ID pg pt pe pi pf pu ⊢
  have loc : v.locals = sC.heap.objs.size := by subst hv2; rfl
  generalize hH : upd HB D (sO X.w D) = HC at IC ID pg pt pe pi pf pu w0 off fC
  generalize hsD : ({ sC with heap := pushCells (sC.heap.push { cls := .type "dict", data := .dict #[] }) sc.names } : Shared) = sD at ID ⊢
  have stD : tn 0 sD.heap := T.keep _ _ _ stC fun b _ o e => by rw [← hsD]; exact pushCells_keeps _ _ _ _ (Heap.get?_push_of_some _ e)
  -- the iterator's objects, in the block
  have apart : ∀ {ρ : L2.St} {G : Hp} {z : Shared}, Inv (X.blk sC HC sc v fp) [] ρ G z → (∀ b ∈ fp, G b = none) → ∀ b ∈ fp, FpOk (X.blk sC HC sc v fp) [] G b := fun {ρ G z} J' n b hb =>
    ⟨n b hb, (J'.ok.exf b hb).1, J'.ok.exfs b hb, .inl hb, fun x c e => (J'.ok.exf b hb).2 x c e, fun p hp => absurd (show p ∈ ([] : List (Addr × Obj)) ++ [] from hp) (by simp)⟩
  -- where a turn begins
  let At : Nat → Nat → Shared → Prop := fun n i z => ∃ G, Inv (X.blk sC HC sc v fp) [] (wipe σ (own.map (·.2))) G z ∧ tn i z.heap ∧ (∀ b ∈ fp, G b = none) ∧ W i n G
  have all : codeAny (model X.prog X.w) X.A (.compLoop (two el ta ia ca tb ib cb sc ps) 0 (.ref it) (.ref D) v) (compPost (model X.prog X.w) X.A X.xe use Qf (.ref D) sC.heap.objs.size) sD := by
    refine outer (hs2 v) (fun n z => ∃ i, At n i z) ?_ m0 ⟨0, HC, ID, stD, off, w0⟩
    rintro n s5 ⟨i, H5, I5, st5, n5, w5⟩
    rcases walk i n H5 w5 with ⟨stop, fin⟩ | ⟨go, N, down, step⟩
    · refine thnF (T.done (X.blk sC HC sc v fp) rfl rfl rfl hc i [] s5 _ H5 (fun _ _ => False) I5 (apart I5 n5) st5 stop) fun r s6 h6 => ?_
      obtain ⟨rfl, I6⟩ := h6
      have I7 : Inv X pins σ H5 s6 := IC.call' (ch := fp) I6.os I6.base I6.hok I6.bare fun b hb => ⟨(fC b hb).1.2.2.2.1, (fC b hb).1.2.1, (fC b hb).1.2.2.2.2.1, (fC b hb).1.2.2.2.2.2⟩
      have nC : H5 sC.heap.objs.size = none := loc ▸ (show H5 v.locals = none from I6.free)
      obtain ⟨m, ns, _⟩ := I6.loc
      have ns : s6.heap.Ns v.locals m := ns
      rw [loc] at ns
      exact back D sC.heap.objs.size s6 m H5 I7 fin ns (IC.fpOk (Nat.le_refl _) nC)
    · refine thnF (T.item (X.blk sC HC sc v fp) rfl rfl rfl hc i [] s5 _ H5 (fun _ _ => False) I5 (apart I5 n5) st5 go) fun r s6 h6 => ?_
      obtain ⟨u, rfl, h6⟩ := h6
      refine thnF h6 fun _ s7 h7 => ?_
      obtain ⟨x, H7, I7, r7, y7, st7, n7⟩ := h7
      refine thnF (pg.run _ s7 _ H7 x u _ (I7.pinned (apart I7 n7) (T.obj _ _ st7)) r7 (step x H7 y7)) fun _ s8 h8 => ?_
      obtain ⟨τ, H8, I8, e8, q8⟩ := h8
      refine thnF (pt.run _ s8 τ H8 _ I8 q8) fun b s9 h9 => ?_
      obtain ⟨H9, I9, q9⟩ := h9
      have len8 : (wipe σ (own.map (·.2))).length = τ.length := by rw [← e8, wipe_length]
      have kn8 : ∀ (j : Nat) y, (wipe σ (own.map (·.2)))[j]? = some (some y) → τ[j]? = some (some y) := fun j y e => (wipe_some (by rw [e8]; exact e)).1
      have kn9 : ∀ (j : Nat) y, (wipe σ (own.map (·.2)))[j]? = some (some y) → (wipe τ us)[j]? = some (some y) := fun j y e => by
        obtain ⟨a, c⟩ := wipe_some (show (wipe τ (own.map (·.2)))[j]? = some (some y) by rw [e8]; exact e)
        rw [wipe_out fun z => c (hv j z)]
        exact a
      -- a turn's end
      have next : ∀ {ρ : L2.St} {z : Shared} {G : Hp}, Inv (X.blk sC HC sc v fp) ([] ++ pinsAt fp s7.heap) ρ G z → (wipe σ (own.map (·.2))).length = ρ.length →
          (∀ (j : Nat) y, (wipe σ (own.map (·.2)))[j]? = some (some y) → ρ[j]? = some (some y)) → N G → ∃ m, m < n ∧ ∃ i, At m i z := fun {ρ z G} I' hl hk nx => by
        obtain ⟨l, lt, w'⟩ := down G nx
        have pinned : ∀ b ∈ fp, ∀ o, s7.heap.get? b = some o → z.heap.get? b = some o ∧ G b = none := fun b hb o e => by
          have z := I'.pin (b, o) (List.mem_append_right _ (List.mem_append_right _ (mem_pinsAt hb e)))
          exact ⟨z.1, z.2.1⟩
        exact ⟨l, lt, i + 1, G, (I'.unpinned (pins := [])).weak hl hk, T.keep _ _ _ st7 fun b hb o e => (pinned b hb o e).1, fun b hb => (T.obj _ _ st7 b hb).elim fun o e => (pinned b hb o e.1).2, w'⟩
      cases b with
      | false => exact next I9 len8 kn8 q9
      | true =>
        refine thnF (pi.run _ s9 τ H9 _ I9 q9) fun _ sx hx => thnF hx fun _ sy hy => ?_
        obtain ⟨jt, fq, tq, J2, Hy, rfl, Iy, T2, sty, fy, V2, ⟨m2, v0⟩, walk2⟩ := hy
        have apart2 : ∀ {G : Hp}, (∀ b ∈ fq, G b = none) → ∀ b ∈ fq, FpOk (X.blk sC HC sc v fp) ([] ++ pinsAt fp s7.heap) G b := fun n b hb => ⟨n b hb, (fy b hb).2⟩
        have lp : codeAny (model X.prog X.w) X.A (.compLoop (two el ta ia ca tb ib cb sc ps) 1 (.ref jt) (.ref D) v)
            (fun r z => match r with | .ok _ => ∃ m, m < n ∧ ∃ i, At m i z | .error _ => False) sy := by
          refine inner (fun k z => ∃ j G, Inv (X.blk sC HC sc v fp) ([] ++ pinsAt fp s7.heap) (wipe τ us) G z ∧ tq j z.heap ∧ (∀ b ∈ fq, G b = none) ∧ V2 j k G) ?_ m2 ⟨0, Hy, Iy.weak (wipe_length _ _) (fun j y e => (wipe_some e).1), sty, fun b hb => (fy b hb).1, v0⟩
          rintro k sz ⟨j, Hz, Iz, stz, nz, vz⟩
          rcases walk2 j k Hz vz with ⟨stop2, nx⟩ | ⟨go2, M, down2, step2⟩
          · refine thnF (T2.done (X.blk sC HC sc v fp) rfl rfl rfl hc j _ sz (wipe τ us) Hz (fun _ _ => False) Iz (apart2 nz) stz stop2) fun r sv h13 => ?_
            obtain ⟨rfl, Iv⟩ := h13
            exact next Iv (len8.trans (wipe_length τ us).symm) kn9 nx
          · refine thnF (T2.item (X.blk sC HC sc v fp) rfl rfl rfl hc j _ sz (wipe τ us) Hz (fun _ _ => False) Iz (apart2 nz) stz go2) fun r sv h13 => ?_
            obtain ⟨u2, rfl, h13⟩ := h13
            refine thnF h13 fun _ sw h14 => ?_
            obtain ⟨x2, Hw, Iw, rw2, yw, stw, nw⟩ := h14
            refine thnF (pf.run _ sw (wipe τ us) Hw x2 u2 _ (Iw.pinned (apart2 nw) (T2.obj _ _ stw)) rw2 (step2 x2 Hw yw)) fun _ s15 h15 => ?_
            obtain ⟨ρ, H15, I15, e15, q15⟩ := h15
            refine thnF (pu.run _ s15 ρ H15 _ I15 q15) fun c s16 h16 => ?_
            obtain ⟨H16, I16, q16⟩ := h16
            have next2 : ∀ {z : Shared} {G : Hp}, Inv (X.blk sC HC sc v fp) (([] ++ pinsAt fp s7.heap) ++ pinsAt fq sw.heap) ρ G z → M G → ∃ m, m < k ∧ ∃ j G, Inv (X.blk sC HC sc v fp) ([] ++ pinsAt fp s7.heap) (wipe τ us) G z ∧ tq j z.heap ∧ (∀ b ∈ fq, G b = none) ∧ V2 j m G := fun {z G} I' nx => by
              obtain ⟨l, lt, w'⟩ := down2 G nx
              have pinned : ∀ b ∈ fq, ∀ o, sw.heap.get? b = some o → z.heap.get? b = some o ∧ G b = none := fun b hb o e => by
                have y := I'.pin (b, o) (List.mem_append_right _ (List.mem_append_right _ (mem_pinsAt hb e)))
                exact ⟨y.1, y.2.1⟩
              exact ⟨l, lt, j + 1, G, I'.unpinned.weak (by rw [← e15, wipe_length]) (fun j y e => (wipe_some (by rw [e15]; exact e)).1), T2.keep _ _ _ stw fun b hb o e => (pinned b hb o e).1, fun b hb => (T2.obj _ _ stw b hb).elim fun o e => (pinned b hb o e.1).2, w'⟩
            cases c with
            | false => exact next2 I16 q16
            | true =>
              refine thnF (pe.run _ s16 ρ H16 _ I16 q16) fun y s17 h17 => ?_
              obtain ⟨yv, H17, I17, r17, kk, S, n, rfl, hDn, room, nx⟩ := h17
              refine thnF (mt_sadd (X := X.blk sC HC sc v fp) _ s17 ρ H17 (.ref D) [.int kk] (.ref D) [y] (fun _ G => M G) I17 rfl (.cons r17 .nil) ⟨D, kk, S, n, rfl, rfl, hDn, room, nx⟩) fun _ s18 h18 => ?_
              obtain ⟨_, H18, I18, _, nx18⟩ := h18
              exact next2 I18 nx18
        exact start1 lp (T2.self X.A 0 _ _ _ sty lp)
  exact PpSet.codeAny_compStart_set all (T.self X.A 0 _ _ _ stD all)
theorem pe_sc2 {el ta ia tb ib : Expr} {ca cb : List Expr} {sc : Scope} {own : List (Str × Nat)} {vs1 : List Nat} {ps : Pos} {wi wj : TI} {g g1 : TG} {tt tt1 : TT} {te : TE} (hc : X.calm = true) (hN : X.N.Nodup) (hi : PI X ta ia wi) (ok : BlkOk X.N X.env.scope sc own) (hv : ∀ i ∈ vs1, i ∈ own.map (·.2))
    (kg : In X sc fun Y => PG Y ta g) (kt : In X sc fun Y => PTs Y ca tt) (ki : In X sc fun Y => PI Y tb ib wj) (kf : In X sc fun Y => PG Y tb g1) (ku : In X sc fun Y => PTs Y cb tt1) (ke : In X sc fun Y => PE Y el te)
    (hs : ∀ x, foldedSetIterable ia X.env x = pure x := by intro _; rfl) (hs2 : ∀ env x, foldedSetIterable ib env x = pure x := by intro _ _; rfl) :
    PE X (two el ta ia ca tb ib cb sc ps) (tSc2 X.w wi g tt wj g1 tt1 te (own.map (·.2)) vs1) := by
  refine ⟨fun pins s σ H Q I h => ?_⟩
  rw [PpSet.eval_SetComp]
  refine sc2_core hc hN I hi ok hv kg kt ke hs ki kf ku hs2 h fun D C z m Hz I' q ns fo => ⟨m, ns, fun h'' sb => ?_⟩
  obtain ⟨o0, o1, o2, o3, o4, o5⟩ := fo
  exact ⟨.ref D, Hz, I'.turned (t' := z.toks) (fun b o hb e => (sb.2 b hb).trans e) o0 o1 o3 o4 o5, rfl, q⟩
end
end LcC
namespace Lc
open PySem PySem.Spec PyProof.Rows L2 RZ
/-! ### data at hand -/
inductive Dt where
  | non | bl (b : Bool) | int (i : Int) | str (s : Str) | lst (xs : List Dt) | tup (z : Bool) (xs : List Dt) | dic | ins (C : Addr) (ns : List Str) (xs : List Dt)
mutual
/-- no instance in it -/
def Dt.pl : Dt → Bool
  | .lst xs => Dt.plAll xs
  | .tup _ xs => Dt.plAll xs
  | .ins _ _ _ => false
  | .dic => false
  | _ => true
def Dt.plAll : List Dt → Bool
  | [] => true
  | d :: r => d.pl && Dt.plAll r
end
theorem plAll_eq (ds : List Dt) : Dt.plAll ds = ds.all Dt.pl := by
  induction ds with
  | nil => rfl
  | cons d r ih => rw [Dt.plAll, ih]; rfl
theorem pl_ints (ns : List Int) : Dt.plAll (ns.map Dt.int) = true := by
  induction ns with
  | nil => rfl
  | cons d r ih => rw [List.map_cons, Dt.plAll, ih]; rfl
theorem pl_strs (ns : List Str) : Dt.plAll (ns.map Dt.str) = true := by
  induction ns with
  | nil => rfl
  | cons d r ih => rw [List.map_cons, Dt.plAll, ih]; rfl
/-- a tuple held: z where it's known to have no dict of its own -/
inductive Tp (H : Hp) (a : Addr) : Bool → List V → Prop where
  | new {xs : List V} (e : H a = some (.tup xs)) : Tp H a false xs
  | bare {o : Obj} {xs : List V} (c : o.cls = .type "tuple") (d : o.dict = none) (e : H a = some (.frz o (.tup xs))) : Tp H a true xs
theorem Tp.sq {K : PySem.W.Frag} {H : Hp} {a : Addr} {z : Bool} {xs : List V} (h : Tp H a z xs) : SqT K H a xs := by
  cases h with
  | new e => exact SqT.of e
  | bare c d e => exact .inl (.inr ⟨_, e⟩)
theorem Tp.but {H H' : Hp} {a p : Addr} {z : Bool} {xs : List V} (b : But p H H') (ne : a ≠ p) (h : Tp H a z xs) : Tp H' a z xs := by
  cases h with
  | new e => exact .new (b _ _ ne e)
  | bare c d e => exact .bare c d (b _ _ ne e)
theorem Tp.same {H H' : Hp} {a : Addr} {z : Bool} {xs : List V} (k : Same H H') (h : Tp H a z xs) : Tp H' a z xs := by
  cases h with
  | new e => exact .new (k _ _ e)
  | bare c d e => exact .bare c d (k _ _ e)
mutual
inductive Ob (H : Hp) (p : Addr) : V → Dt → Prop where
  | non : Ob H p .non .non
  | bl (b : Bool) : Ob H p (.bl b) (.bl b)
  | int (i : Int) : Ob H p (.int i) (.int i)
  | str (s : Str) : Ob H p (.str s) (.str s)
  | lst {a : Addr} {xs : List V} {ds : List Dt} (e : H a = some (.lst xs)) (ne : a ≠ p) (all : Obs H p xs ds) : Ob H p (.ref a) (.lst ds)
  | tup {a : Addr} {z : Bool} {xs : List V} {ds : List Dt} (e : Tp H a z xs) (ne : a ≠ p) (all : Obs H p xs ds) : Ob H p (.ref a) (.tup z ds)
  | dic {a : Addr} (e : H a = some (.dK [])) (ne : a ≠ p) : Ob H p (.ref a) .dic
inductive Obs (H : Hp) (p : Addr) : List V → List Dt → Prop where
  | nil : Obs H p [] []
  | cons {v : V} {d : Dt} {vs : List V} {ds : List Dt} (h : Ob H p v d) (t : Obs H p vs ds) : Obs H p (v :: vs) (d :: ds)
end
mutual
theorem Ob.but {H H' : Hp} {p : Addr} (b : But p H H') : ∀ {v : V} {d : Dt}, Ob H p v d → Ob H' p v d
  | _, _, .non => .non
  | _, _, .bl b => .bl b
  | _, _, .int i => .int i
  | _, _, .str s => .str s
  | _, _, .lst e ne all => .lst (b _ _ ne e) ne (Obs.but b all)
  | _, _, .tup e ne all => .tup (e.but b ne) ne (Obs.but b all)
  | _, _, .dic e ne => .dic (b _ _ ne e) ne
theorem Obs.but {H H' : Hp} {p : Addr} (b : But p H H') : ∀ {vs : List V} {ds : List Dt}, Obs H p vs ds → Obs H' p vs ds
  | _, _, .nil => .nil
  | _, _, .cons h t => .cons (Ob.but b h) (Obs.but b t)
end
section
variable {H H' : Hp} {p : Addr} {v : V} {d : Dt} {vs : List V} {ds : List Dt}
theorem Ob.same (k : Same H H') (h : Ob H p v d) : Ob H' p v d := h.but fun c o _ e => k c o e
theorem Obs.same (k : Same H H') (h : Obs H p vs ds) : Obs H' p vs ds := h.but fun c o _ e => k c o e
theorem Obs.len : ∀ {vs : List V} {ds : List Dt}, Obs H p vs ds → vs.length = ds.length
  | _, _, .nil => rfl
  | _, _, .cons _ t => congrArg Nat.succ (Obs.len t)
theorem Obs.get : ∀ {vs : List V} {ds : List Dt} {i : Nat} {x : V}, Obs H p vs ds → vs[i]? = some x → ∃ d, ds[i]? = some d ∧ Ob H p x d
  | _, _, _, _, .nil, e => by simp at e
  | _, _, 0, _, .cons h _, e => by
    have e := Option.some.inj (show some _ = some _ from e)
    subst e; exact ⟨_, rfl, h⟩
  | _, _, i + 1, x, .cons _ t, e => Obs.get (i := i) t (by simpa using e)
theorem Obs.append : ∀ {vs ws : List V} {ds es : List Dt}, Obs H p vs ds → Obs H p ws es → Obs H p (vs ++ ws) (ds ++ es)
  | _, _, _, _, .nil, s => s
  | _, _, _, _, .cons h t, s => .cons h (Obs.append t s)
def tyName : Dt → String
  | .non => "NoneType" | .bl _ => "bool" | .int _ => "int" | .str _ => "str" | .lst _ => "list" | .tup _ _ => "tuple" | .dic => "dict" | .ins _ _ _ => "object"
theorem Ob.arg {K : PySem.W.Frag} (h : Ob H p v d) : Arg K H v (tyName d) := by
  cases h with
  | non => exact .non
  | bl b => exact .bl b
  | int i => exact .int i
  | str s => exact .str s
  | lst e _ _ => exact .lst e
  | tup e _ _ =>
    cases e with
    | new e => exact .tup e
    | bare c d e => exact .ftup e
  | dic e _ => exact .dK e
end
def isT : Dt → Bool
  | .tup _ _ => true | _ => false
def isL : Dt → Bool
  | .lst _ => true | _ => false
def isBd : Dt → Bool
  | .bl _ => true | _ => false
def isId : Dt → Bool
  | .bl _ => true | .int _ => true | _ => false
theorem kit_t {K : PySem.W.Frag} (d : Dt) : PySem.W.kitOne K (.type (tyName d)) (.type "tuple") = some (isT d) := by
  cases d <;> dsimp only [tyName, isT] <;> exact kit_ty (by decide +kernel)
theorem kit_l {K : PySem.W.Frag} (d : Dt) : PySem.W.kitOne K (.type (tyName d)) (.type "list") = some (isL d) := by
  cases d <;> dsimp only [tyName, isL] <;> exact kit_ty (by decide +kernel)
theorem kit_b {K : PySem.W.Frag} (d : Dt) : PySem.W.kitOne K (.type (tyName d)) (.type "bool") = some (isBd d) := by
  cases d <;> dsimp only [tyName, isBd] <;> exact kit_ty (by decide +kernel)
theorem kit_i {K : PySem.W.Frag} (d : Dt) : PySem.W.kitOne K (.type (tyName d)) (.type "int") = some (isId d) := by
  cases d <;> dsimp only [tyName, isId] <;> exact kit_ty (by decide +kernel)
/-! ### what a case, a house is -/
def wholeD (d : Dt) (lo hi : Int) : Bool := match d with
  | .int i => decide (lo ≤ i) && decide (i ≤ hi)
  | _ => false
def wordD (d : Dt) (ws : List Str) : Bool := match d with
  | .str s => decide (s ∈ ws)
  | _ => false
def rowD (d : Dt) (lo hi : Int) : Bool := match d with
  | .tup _ xs => decide (lo ≤ (xs.length : Int)) && decide ((xs.length : Int) ≤ hi)
  | _ => false
def itemsD : Dt → List Dt
  | .tup _ xs => xs
  | _ => []
def intD : Dt → Int
  | .int i => i
  | _ => 0
theorem whole_ob {H : Hp} {p : Addr} {v : V} {d : Dt} {lo hi : Int} (h : Ob H p v d) : wholeV v lo hi = wholeD d lo hi := by cases h <;> rfl
theorem word_ob {H : Hp} {p : Addr} {v : V} {d : Dt} {ws : List Str} (h : Ob H p v d) : wordV v ws = wordD d ws := by cases h <;> rfl
def countsD (d : Dt) : Bool := rowD d 2 3 && (itemsD d).all fun x => wholeD x 1 4
def courseD (d c : Dt) : Bool := rowD d ((itemsD c).length : Nat) ((itemsD c).length : Nat) && ((itemsD d).zip (itemsD c)).all fun q => wholeD q.1 0 (intD q.2 - 1)
def refusals : List Str := ["back", "lost"]
def notings : List Str := ["behind", "first", "with"]
def planWords : List Str := ["show", "tell", "agree", "close", "clear", "drain", "copy", "open", "drop"]
def schemeD (d : Dt) : Bool := match d with
  | .tup _ [a, b, r, n, s] => isBd a && isBd b && isBd s && (wordD r refusals && wordD n notings)
  | _ => false
def isShow : Dt → Bool
  | .str s => decide (s = "show")
  | _ => false
def shows (d : Dt) : Nat := (itemsD d).countP isShow
def planD (d : Dt) : Bool := rowD d 1 15 && ((itemsD d).all (fun x => wordD x planWords) && (decide (1 ≤ shows d) && decide (shows d ≤ 2)))
def frameD (s p c : Dt) : Bool := schemeD s && (planD p && (countsD c && decide ((itemsD c).length = shows p + 1)))
def caseD (d : Dt) : Bool := match d with
  | .tup _ [s, p, c, o] => frameD s p c && courseD o c
  | _ => false
def keysD (o l c : Dt) : Bool := (rowD o 1 3 && rowD l ((itemsD o).length : Nat) ((itemsD o).length : Nat)) && ((itemsD o).all (fun x => courseD x c) && (itemsD l).all fun x => wholeD x 1 3)
def houseD (d : Dt) : Bool := match d with
  | .tup _ [s, p, c, o, l, n] => frameD s p c && (keysD o l c && wholeD n 1 3)
  | _ => false
/-- the plan's tuple, where its words are words, has no dict -/
def fzPlan : Dt → Prop
  | .tup z xs => rowD (.tup z xs) 1 15 = true → (xs.all fun x => wordD x planWords) = true → z = true
  | _ => True
def fzCase : Dt → Prop
  | .tup _ [_, p, _, _] => fzPlan p
  | _ => True
def fzHouse : Dt → Prop
  | .tup _ [_, p, _, _, _, _] => fzPlan p
  | _ => True
/-! ### promises -/
def spRow : Sp := fun vs H Q _ => ∃ (p : Addr) (x : V) (d : Dt) (lo hi : Int), vs = [x, .int lo, .int hi] ∧ Ob H p x d ∧ Q (.bl (rowD d lo hi)) H
/-- a test of one object -/
def spIs (ok : Dt → Prop) (f : Dt → Bool) : Sp := fun vs H Q _ => ∃ (p : Addr) (x : V) (d : Dt), vs = [x] ∧ Ob H p x d ∧ ok d ∧ ∀ H', Same H H' → Q (.bl (f d)) H'
def spIs2 (ok : Dt → Prop) (f : Dt → Dt → Bool) : Sp := fun vs H Q _ => ∃ (p : Addr) (x y : V) (d e : Dt), vs = [x, y] ∧ Ob H p x d ∧ Ob H p y e ∧ ok e ∧ ∀ H', Same H H' → Q (.bl (f d e)) H'
def spIs3 (ok : Dt → Dt → Dt → Prop) (f : Dt → Dt → Dt → Bool) : Sp := fun vs H Q _ => ∃ (p : Addr) (x y z : V) (d e g : Dt), vs = [x, y, z] ∧ Ob H p x d ∧ Ob H p y e ∧ Ob H p z g ∧ ok d e g ∧ ∀ H', Same H H' → Q (.bl (f d e g)) H'
/-- all([test of x for x in t]), t a tuple -/
theorem all_comp {K : PySem.W.Frag} {a : Addr} {xs : List V} {ds : List Dt} {i0 j : Nat} {te : TE} {σ : L2.St} {H : Hp} {Q : VK} {p : Addr} (f : Dt → Bool) (hj : σ[j]? = some (some (.ref a))) {z : Bool} (hT : Tp H a z xs) (hO : Obs H p xs ds) (hl : xs.length ≤ 1000)
    (hte : ∀ (x : V) (d : Dt) (H' : Hp) (R : VK), Same H H' → Ob H' p x d → (∀ H2, Same H' H2 → R (.bl (f d)) H2) → te ((wipe σ [i0]).set i0 (some x)) H' R)
    (hw : ∀ x : V, wipe ((wipe σ [i0]).set i0 (some x)) [i0] = wipe σ [i0])
    (q : ∀ H', Same H H' → Q (.bl (ds.all f)) H') : tCB (rAll K) (tCons (tLc (iTup K (tVar j)) (gName i0) tYes te [i0]) tNil) σ H Q := by
  refine ⟨_, hj, a, rfl, ⟨_, hT.sq⟩, fun D hD => ?_⟩
  have len := hO.len
  refine lc_tup (K := K) (a := a) (xs := xs) (fun i H' => Same H H' ∧ H' D = some (.lst (((ds.take i).map f).map V.bl))) ⟨same_upd hD, upd_same⟩ (fun i H' _ h => (hT.same h.1).sq) ?_ ?_
  · rintro i x H' hx ⟨k, e⟩
    obtain ⟨d, hd, ob⟩ := (hO.same k).get hx
    refine ⟨hw x, hte x d H' _ k ob fun H2 k2 => ⟨_, k2 _ _ e, ?_, fun c o hc => ?_, ?_⟩⟩
    · rw [List.length_map, List.length_map, List.length_take]
      exact Nat.lt_of_le_of_lt (show _ ≤ 1000 by omega) (by decide)
    · rw [upd_ne (ne_of_none hc hD)]; exact k2 _ _ (k c o hc)
    · rw [upd_same, List.take_add_one, hd, List.map_append, List.map_append]; rfl
  · rintro H' ⟨k, e⟩
    rw [len, List.take_length] at e
    refine ⟨D, _, rfl, SqL.of e, ?_⟩
    have e2 : (ds.map f).all id = ds.all f := by rw [List.all_map]; rfl
    rw [e2]
    exact q H' k
/-- all([test of x, y for x, y in zip(t, u)]), t, u tuples -/
theorem all_zip {K : PySem.W.Frag} {a b : Addr} {xs ys : List V} {ds es : List Dt} {i1 i2 j1 j2 : Nat} {te : TE} {σ : L2.St} {H : Hp} {Q : VK} {p : Addr} (f : Dt × Dt → Bool) (hj : σ[j1]? = some (some (.ref a))) (hj2 : σ[j2]? = some (some (.ref b)))
    {z : Bool} (hT : Tp H a z xs) {z2 : Bool} (hU : Tp H b z2 ys) (hO : Obs H p xs ds) (hP : Obs H p ys es) (hl : xs.length ≤ 1000)
    (hte : ∀ (x y : V) (d e : Dt) (H' : Hp) (R : VK), Same H H' → Ob H' p x d → Ob H' p y e → e ∈ es → (∀ H2, Same H' H2 → R (.bl (f (d, e))) H2) → te (((wipe σ [i1, i2]).set i1 (some x)).set i2 (some y)) H' R)
    (hw : ∀ x y : V, wipe (((wipe σ [i1, i2]).set i1 (some x)).set i2 (some y)) [i1, i2] = wipe σ [i1, i2])
    (q : ∀ H', Same H H' → Q (.bl ((ds.zip es).all f)) H') : tCB (rAll K) (tCons (tLc (iZipA K (tCons (tVar j1) (tCons (tVar j2) tNil))) (gTup K 2 (gCons (gName i1) (gCons (gName i2) gNil))) tYes te [i1, i2]) tNil) σ H Q := by
  refine ⟨_, hj, _, hj2, a, b, xs, ys, rfl, .inr ⟨hT.sq, hU.sq, fun D hD => ?_⟩⟩
  have l1 := hO.len
  have l2 := hP.len
  have lz : (ds.zip es).length ≤ 1000 := by rw [List.length_zip]; omega
  refine ⟨fun i m H' => m = (ds.zip es).length - i ∧ i ≤ (ds.zip es).length ∧ Same H H' ∧ H' D = some (.lst ((((ds.zip es).take i).map f).map V.bl)), ⟨_, rfl, Nat.zero_le _, same_upd hD, upd_same⟩, ?_⟩
  rintro i m H' ⟨rfl, hi, k, e⟩
  by_cases lt : i < (ds.zip es).length
  · have lt2 := lt
    rw [List.length_zip] at lt2
    have gx : xs[i]? = some xs[i] := List.getElem?_eq_getElem (by omega)
    have gy : ys[i]? = some ys[i] := List.getElem?_eq_getElem (by omega)
    obtain ⟨d, gd, od⟩ := (hO.same k).get gx
    obtain ⟨e', ge, oe⟩ := (hP.same k).get gy
    refine .inr ⟨⟨xs, ys, _, _, (hT.same k).sq, (hU.same k).sq, gx, gy⟩, fun H2 => Same H H2 ∧ H2 D = some (.lst ((((ds.zip es).take (i + 1)).map f).map V.bl)), fun H2 h2 => ⟨_, by omega, rfl, lt, h2⟩, ?_⟩
    rintro v H2 ⟨t, x, y, rfl, ht, rfl, fx, fy⟩
    have ex : x = xs[i] := Option.some.inj ((fx _ ((hT.same k).sq)).symm.trans gx)
    have ey : y = ys[i] := Option.some.inj ((fy _ ((hU.same k).sq)).symm.trans gy)
    subst ex; subst ey
    have kt := same_upd (o := .tup [xs[i], ys[i]]) ht
    refine ⟨t, _, rfl, SqT.of upd_same, rfl, _, _, rfl, _, _, rfl, rfl, ?_⟩
    refine ⟨hw _ _, hte _ _ d e' _ _ (k.trans kt) (od.same kt) (oe.same kt) (List.mem_of_getElem? ge) fun H3 k3 => ⟨_, k3 _ _ (kt _ _ e), ?_, fun c o hc => ?_, ?_⟩⟩
    · rw [List.length_map, List.length_map, List.length_take]
      exact Nat.lt_of_le_of_lt (show _ ≤ 1000 by omega) (by decide)
    · rw [upd_ne (ne_of_none hc hD)]; exact k3 _ _ (kt _ _ (k c o hc))
    · have gz : (ds.zip es)[i]? = some (d, e') := by rw [List.getElem?_zip_eq_some]; exact ⟨gd, ge⟩
      rw [upd_same, List.take_add_one, gz, List.map_append, List.map_append]; rfl
  · have ei : i = (ds.zip es).length := by omega
    subst ei
    rw [List.take_length] at e
    have e2 : ((ds.zip es).map f).all id = (ds.zip es).all f := by rw [List.all_map]; rfl
    refine .inl ⟨⟨xs, ys, (hT.same k).sq, (hU.same k).sq, ?_⟩, D, _, rfl, SqL.of e, ?_⟩
    · rw [List.length_zip]; omega
    · rw [e2]; exact q H' k
/-! ### t.count(text) -/
def rTCnt (K : PySem.W.Frag) : V → List V → Hp → VK → Prop := fun x xs H Q => ∃ (p : Addr) (ws : List Str) (k : Str), x = .ref p ∧ xs = [.str k] ∧ SqT K H p (ws.map V.str) ∧ Q (.int (ws.countP fun y => decide (y = k) : Nat)) H
theorem dp_strs {K : PySem.W.Frag} {H : Hp} : ∀ ws : List Str, DpAll K H (ws.map V.str) (ws.map PyData.str)
  | [] => .nil
  | w :: r => .cons (.str w) (dp_strs r)
theorem plain_strs : ∀ ws : List Str, PyData.plainAll (ws.map PyData.str) = true
  | [] => rfl
  | w :: r => by
    rw [List.map_cons]
    show (PyData.plain (.str w) && PyData.plainAll (r.map PyData.str)) = true
    rw [plain_strs r]; rfl
theorem mt_tcount {X : Cx} (hu : X.A.units + 64 < cLine) : MtR X "tuple.count" (rTCnt X.K) := by
  intro pins s σ H x xs v us Q I rx rxs h
  obtain ⟨p, ws, k, rfl, rfl, hs, q⟩ := h
  cases rx
  obtain ⟨u, rfl, ru⟩ := rxs.one
  obtain ⟨its, rv, pt, _⟩ := I.tuple hs
  obtain ⟨as, rs⟩ := Dp.readsAll I (ws.map PyData.str) (ws.map V.str) its (dp_strs ws) rv
  obtain ⟨bs, rk⟩ := Dp.reads I (.str k) (.str k) u (.str k) ru
  have dk : PyData.depth (.str k) ≤ 1 := by simp [PyData.depth]
  refine PySem.SeqAt.count_tuple_data pt (by simpa using rs) rk (plain_strs ws) rfl (by have := Nat.min_le_right (PyData.depthAll (ws.map PyData.str)) (PyData.depth (.str k)); omega) ⟨.int _, H, I.tok _, ⟨_, rfl⟩, ?_⟩
  have e : (ws.map PyData.str).countP (fun y => PyData.eqv y (.str k)) = ws.countP fun y => decide (y = k) := by
    rw [List.countP_map]
    congr 1
  rw [e]; exact q
/-! ### tuples laid, known to have no dict -/
section
variable {X : Cx} {es : List Expr} {t : TA} {pos : Pos}
/-- (e, ..) -/
def tTupF (t : TA) : TE := fun σ H Q => t σ H fun xs H1 => xs.length ≤ sizeLine ∧ ∀ p H2, H1 p = none → Same H1 H2 → Tp H2 p true xs → (∀ b, H2 b = none → H1 b = none) → Q (.ref p) H2
theorem fz_same {H : Hp} {p : Addr} {u : HO} (h : H p = none) : ∀ b, (upd H p u) b = none → H b = none := fun b e => by
  by_cases z : b = p
  · subst z; exact h
  · rw [upd_ne z] at e; exact e
theorem pe_tupF {c} (h : PA X es t) : PE X (.Tuple es c pos) (tTupF t) := by
  refine ⟨fun pins s σ H Q I hq => ?_⟩
  refine wpAny_Tuple_spliced (thn (h.run pos pins s σ H _ I hq) fun us s1 ⟨xs, H1, I1, r, z, q⟩ => ⟨by rw [← r.length]; exact z, ?_⟩)
  have hf : H1 s1.heap.objs.size = none := I1.hok.fresh (Nat.le_refl _)
  refine ⟨.ref s1.heap.objs.size, _, I1.laid (t' := s1.toks) (o := .frz { cls := .type "tuple", data := .seq us.toArray } (.tup xs)) (fun b u e => Heap.get?_push_of_some _ e) (Nat.le_refl _) ?_, rfl, q _ _ hf (same_upd hf) (.bare rfl rfl upd_same) (fz_same hf)⟩
  exact ⟨Heap.get?_push_size _ rfl, z, us, r, ⟨_, Heap.get?_push_size _ rfl, rfl, _, rfl⟩⟩
/-- tuple(a list) -/
def tTupOfF (K : PySem.W.Frag) (ta : TE) : TE := fun σ H Q => ta σ H fun x H1 => ∃ a xs, x = .ref a ∧ SqL K H1 a xs ∧ ∀ p H2, H1 p = none → Same H1 H2 → Tp H2 p true xs → (∀ b, H2 b = none → H1 b = none) → Q (.ref p) H2
theorem pe_tupleOfF {a : Expr} {ta : TE} {p pos : Pos} (hg : Gl X "tuple") (hm : X.mg "tuple" = none) (ha : PE X a ta) (na : starEach [a] X.env = (false, eval a X.env) :: starEach [] X.env := by rfl) : PE X (.Call (.Name "tuple" p) [a] [] pos) (tTupOfF X.K ta) := by
  refine ⟨fun pins s σ H Q I h => ?_⟩
  refine Call_ (ld_blt I hg hm boot_tuple (PyProof.Rows.callWith_type1 (one_arg ha I h (fun v s2 x H2 I2 r q => ?_) na) na))
  obtain ⟨b, xs, rfl, hs, q⟩ := q
  obtain rfl : v = .ref b := r
  obtain ⟨its, rv, pl, hz⟩ := I2.list hs
  refine call_tuple_list pl.isList (fun h' hk => ?_) (by rw [List.size_toArray, ← rv.length]; exact hz)
  have I3 : Inv X pins σ H2 { s2 with heap := h' } := I2.kept (t' := s2.toks) hk
  have hf : H2 h'.objs.size = none := I3.hok.fresh (Nat.le_refl _)
  refine ⟨.ref h'.objs.size, _, I3.laid (t' := s2.toks) (o := .frz { cls := .type "tuple", data := .seq its.toArray } (.tup xs)) (fun b o e => Heap.get?_push_of_some _ e) (Nat.le_refl _) ?_, rfl, q _ _ hf (same_upd hf) (.bare rfl rfl upd_same) (fz_same hf)⟩
  exact ⟨Heap.get?_push_size _ rfl, hz, its, rv, IsTup.new _ _⟩
/-- t + u -/
def rCatF (K : PySem.W.Frag) : R2 := fun x y H Q => ∃ a b xs ys, x = .ref a ∧ y = .ref b ∧ SqT K H a xs ∧ SqT K H b ys ∧ xs.length + ys.length ≤ sizeLine ∧
  (xs = [] → Q (.ref b) H) ∧ (xs ≠ [] → ys = [] → Q (.ref a) H) ∧ (xs ≠ [] → ys ≠ [] → ∀ p H2, H p = none → Same H H2 → Tp H2 p true (xs ++ ys) → (∀ b, H2 b = none → H b = none) → Q (.ref p) H2)
theorem op_catF : OpR X (binaryOp .Add) (rCatF X.K) := by
  intro pins s σ H x y v u Q I rx ry h
  obtain ⟨a, b, xs, ys, rfl, rfl, ha, hb, hz, q0, q1, q2⟩ := h
  cases rx
  cases ry
  obtain ⟨its, r1, p1, _⟩ := I.tuple ha
  obtain ⟨its2, r2, p2, _⟩ := I.tuple hb
  by_cases hx : xs = []
  · subst hx
    cases r1
    exact cat_tup0 p1 p2 ⟨.ref b, H, I, rfl, q0 rfl⟩
  · refine HT.cat_tup p1 p2 (fun z => hx (r1.nil_iff.mp z)) (fun z => ⟨.ref a, H, I, rfl, q1 hx (r2.nil_iff.mp z)⟩) (fun z => ?_) (by rw [← r1.length, ← r2.length]; exact hz)
    have hf : H s.heap.objs.size = none := I.hok.fresh (Nat.le_refl _)
    refine ⟨.ref s.heap.objs.size, _, I.laid (t' := s.toks) (o := .frz { cls := .type "tuple", data := .seq (its ++ its2).toArray } (.tup (xs ++ ys))) (fun b ob q => Heap.get?_push_of_some _ q) (Nat.le_refl _) ?_, rfl, q2 hx (fun w => z (r2.nil_iff.mpr w)) _ _ hf (same_upd hf) (.bare rfl rfl upd_same) (fz_same hf)⟩
    exact ⟨Heap.get?_push_size _ rfl, by rw [List.length_append]; exact hz, _, r1.append r2, IsTup.new _ _⟩
end
/-! ### t * k, k at least one -/
section
open PySem.AutoSeq1 (wpAny_loadPart')
theorem tuple_mul1 (l : Addr) (items : Array Value) (n : Nat) (dd : Option Addr) (sl : Array (Option Value)) (u : Tok) :
    Meets (Builtin.«tuple.__mul__» ⟨[.ref l, .int 1 u], []⟩) (fun _ R s => s.heap.get? l = some { cls := .type "tuple", dict := dd, data := .seq items n, slots := sl } ∧ R (.ok (.ret (Value.ref l))) s) :=
  .of_wp fun prog w A R s h => by
    obtain ⟨hp, g, d, tk, os⟩ := s
    obtain ⟨hl, h⟩ := h
    have f1 := AutoSeq1.idx_int
    have c0 : (decide ((1 : Int) < -(2 ^ 63)) || decide ((1 : Int) ≥ 2 ^ 63)) = false := by decide
    have c1 : (items.isEmpty || (1 : Int) == 1) = true := by simp
    wp_walk using wpAny_loadPart' hl
    repeat (first
      | (refine wpAny_ite_false (decide_eq_false (by rw [c0]; exact Bool.false_ne_true)) ?_; wp_walk using wpAny_loadPart' hl)
      | (refine wpAny_ite_true (decide_eq_true c1) ?_; wp_walk using wpAny_loadPart' hl))
    exact ⟨_, rfl, h⟩
def rRepF (K : PySem.W.Frag) : R2 := fun x y H Q => ∃ l k xs, x = .ref l ∧ y = .int k ∧ SqT K H l xs ∧ xs ≠ [] ∧ 1 ≤ k ∧ k ≤ 1000 ∧ xs.length ≤ 1000 ∧ (k = 1 → Q (.ref l) H) ∧ (2 ≤ k → ∀ p, H p = none → Q (.ref p) (upd H p (.tup (List.replicate k.toNat xs).flatten)))
theorem op_repF {X : Cx} : OpR X (binaryOp .Mult) (rRepF X.K) := by
  intro pins s σ H x y v u Q I rx ry h
  obtain ⟨l, k, xs, rfl, rfl, hT, hne, h1, h2, hz, q1, q2⟩ := h
  by_cases hk : k = 1
  · subst hk
    cases rx
    obtain ⟨t, rfl⟩ := ry
    obtain ⟨its, r, ⟨⟨cls, dd, data, sl⟩, ho, hc, n, hd⟩, hs⟩ := I.tuple hT
    simp only at hc hd
    subst hc hd
    refine wpAny_binaryOp_repeat_ref (T := "tuple") (U := "int") (by decide) ⟨_, ho, rfl⟩ (fun s' => typeIs_int s' 1 t) noFill_tuple_mul PySem.F.fills_int_mul PySem.F.slot_int_rmul repeat_tuple PySem.F.slot_int_index.lookup
      (call_meets PySem.F.slot_int_rmul (typeIs_int s 1 t) PySem.F.entry_int_rmul (PySem.F.args_int_rmul_2 _ _) (int_rmul_tuple 1 t l its.toArray n dd sl)
        ⟨ho, rfl, ⟨_, ho, rfl⟩, call_meets PySem.F.slot_tuple_mul ⟨_, ho, rfl⟩ PySem.F.entry_tuple_mul (PySem.F.args_tuple_mul_2 _ _) (tuple_mul1 l its.toArray n dd sl t) ⟨ho, ?_⟩⟩)
    exact ⟨.ref l, H, I, rfl, q1 rfl⟩
  · exact op_repT pins s σ H _ _ v u Q I rx ry ⟨l, k, xs, rfl, rfl, hT, hne, by omega, h2, hz, q2 (by omega)⟩
end
/-! ### a method of a tuple that has no dict -/
def tBMF (r : V → List V → Hp → VK → Prop) (to : TE) (t : TA) : TE := fun σ H Q => to σ H fun x H1 => (∃ a xs, x = .ref a ∧ Tp H1 a true xs) ∧ t σ H1 fun xs H2 => r x xs H2 Q
section
variable {X : Cx} {o e : Expr} {es : List Expr} {to : TE} {t : TA} {name : Str} {apos cpos : Pos} {id : String} {r : V → List V → Hp → VK → Prop}
theorem pe_bmF (pa : PlainAttrs "tuple") (slot : Slot "tuple" name id) (hty : typeOf (.builtin id) = pure (.type "method_descriptor")) (hm : MtR X id r) (ho : PE X o to) (ha : PA X (e :: es) t)
    (hbase : attributeBase o name X.env (eval o X.env) = eval o X.env := by rfl)
    (hfew : ((backTo cpos (starEach (e :: es) X.env)).all (fun x => !x.1) && (backToKw cpos (keywordEach [] X.env)).all (fun x => x.1.isSome)
      && decide ((e :: es).length + ([] : List Keyword).length + (if ([] : List Keyword).isEmpty then 0 else 1) < 30)) = true := by rfl)
    (hline : (apos.endLine == cpos.line) = true := by rfl) (hs : starEach (e :: es) X.env = (false, eval e X.env) :: starEach es X.env := by rfl) (hplain : (backTo cpos (starEach es X.env)).any (·.1) = false := by rfl) :
    PE X (.Call (.Attribute o name apos) (e :: es) [] cpos) (tBMF r to t) := by
  refine ⟨fun pins s σ H Q I h => ?_⟩
  refine wpAny_Call_method_late hbase hfew hline rfl (thn (ho.run pins s σ H _ I h) fun v s1 ⟨x, H1, I1, r1, ty, q1⟩ => ?_)
  have hh : s1.TypeIs v "tuple" ∧ ∀ a, v = .ref a → ∃ ob, s1.heap.get? a = some ob ∧ ob.dict = none := by
    obtain ⟨a, xs, rfl, tp⟩ := ty
    obtain rfl : v = .ref a := r1
    cases tp with
    | @bare ob _ c d e =>
      obtain ⟨g, _⟩ := I1.hok a _ e
      exact ⟨⟨ob, g, c⟩, fun b z => by cases z; exact ⟨ob, g, d⟩⟩
  obtain ⟨h1, h2⟩ := hh
  refine ⟨"tuple", id, pa, slot, hty, h1, h2, ?_⟩
  have hA := ha.run cpos pins s1 σ H1 _ I1 q1
  rw [hs] at hA ⊢
  refine Calls.callWith_builtin (by show (false || (backTo cpos (starEach es X.env)).any (·.1)) = false; rw [hplain] <;> rfl) (Calls.evalArgs_plain ?_)
  exact thn hA fun us s2 ⟨vs, H2, I2, r2, q2⟩ => hm pins s2 σ H2 x vs v us Q I2 r1 r2 q2
end
end Lc
namespace Lc
open PySem PySem.Spec PyProof.Rows L2 RZ
/-! ### comprehensions in comprehensions -/
def relabelC (sc scope : Scope) : Scope :=
  { scope with names := scope.names.map fun q => if q.2 == .free && sc.kind == .function && sc.names.lookup q.1 == some .cell then (q.1, .cell) else (q.1, q.2) }
theorem blkOk_in {N : List Str} {sc0 scO scI : Scope} {env : Env} {own : List (Str × Nat)} (he : env.scope = sc0) (h : blkC N (relabelC sc0 scO) scI own = true) : BlkOk N (relabel scO env) scI own := by
  have e : relabel scO env = relabelC sc0 scO := by subst he; rfl
  rw [e]
  exact blkOk_by h
/-! ### data trees, some addresses kept out -/
abbrev AS := Addr → Prop
def And1 (Av : Addr → Prop) (D : Addr) : Addr → Prop := fun b => Av b ∨ b = D
mutual
inductive Oc (H : Hp) (S : AS) : V → Dt → Prop where
  | non : Oc H S .non .non
  | bl (b : Bool) : Oc H S (.bl b) (.bl b)
  | int (i : Int) : Oc H S (.int i) (.int i)
  | str (s : Str) : Oc H S (.str s) (.str s)
  | lst {a : Addr} {xs : List V} {ds : List Dt} (e : H a = some (.lst xs)) (ne : ¬ S a) (all : Ocs H S xs ds) : Oc H S (.ref a) (.lst ds)
  | tup {a : Addr} {z : Bool} {xs : List V} {ds : List Dt} (e : Tp H a z xs) (ne : ¬ S a) (all : Ocs H S xs ds) : Oc H S (.ref a) (.tup z ds)
  | ins {a C dx : Addr} {fs : List (Str × V)} {ns : List Str} {ds : List Dt} (e : H a = some (.ins C dx fs)) (ne : ¬ S a) (hn : fs.map Prod.fst = ns) (all : Ocs H S (fs.map Prod.snd) ds) : Oc H S (.ref a) (.ins C ns ds)
inductive Ocs (H : Hp) (S : AS) : List V → List Dt → Prop where
  | nil : Ocs H S [] []
  | cons {v : V} {d : Dt} {vs : List V} {ds : List Dt} (h : Oc H S v d) (t : Ocs H S vs ds) : Ocs H S (v :: vs) (d :: ds)
end
/-- all but S stands as it was -/
def ButS (S : AS) (H H' : Hp) : Prop := ∀ b o, ¬ S b → H b = some o → H' b = some o
def Lv (H : Hp) (S : AS) : Prop := ∀ a, S a → H a ≠ none
theorem Tp.butS {H H' : Hp} {S : AS} {a : Addr} {z : Bool} {xs : List V} (b : ButS S H H') (ne : ¬ S a) (h : Tp H a z xs) : Tp H' a z xs := by
  cases h with
  | new e => exact .new (b _ _ ne e)
  | bare c d e => exact .bare c d (b _ _ ne e)
mutual
theorem Oc.but {H H' : Hp} {S : AS} (b : ButS S H H') : ∀ {v : V} {d : Dt}, Oc H S v d → Oc H' S v d
  | _, _, .non => .non
  | _, _, .bl b => .bl b
  | _, _, .int i => .int i
  | _, _, .str s => .str s
  | _, _, .lst e ne all => .lst (b _ _ ne e) ne (Ocs.but b all)
  | _, _, .tup e ne all => .tup (e.butS b ne) ne (Ocs.but b all)
  | _, _, .ins e ne hn all => .ins (b _ _ ne e) ne hn (Ocs.but b all)
theorem Ocs.but {H H' : Hp} {S : AS} (b : ButS S H H') : ∀ {vs : List V} {ds : List Dt}, Ocs H S vs ds → Ocs H' S vs ds
  | _, _, .nil => .nil
  | _, _, .cons h t => .cons (Oc.but b h) (Ocs.but b t)
end
mutual
theorem Oc.sub {H : Hp} {S S' : AS} (k : ∀ a, S' a → S a) : ∀ {v : V} {d : Dt}, Oc H S v d → Oc H S' v d
  | _, _, .non => .non
  | _, _, .bl b => .bl b
  | _, _, .int i => .int i
  | _, _, .str s => .str s
  | _, _, .lst e ne all => .lst e (fun z => ne (k _ z)) (Ocs.sub k all)
  | _, _, .tup e ne all => .tup e (fun z => ne (k _ z)) (Ocs.sub k all)
  | _, _, .ins e ne hn all => .ins e (fun z => ne (k _ z)) hn (Ocs.sub k all)
theorem Ocs.sub {H : Hp} {S S' : AS} (k : ∀ a, S' a → S a) : ∀ {vs : List V} {ds : List Dt}, Ocs H S vs ds → Ocs H S' vs ds
  | _, _, .nil => .nil
  | _, _, .cons h t => .cons (Oc.sub k h) (Ocs.sub k t)
end
theorem Tp.some {H : Hp} {a : Addr} {z : Bool} {xs : List V} (h : Tp H a z xs) : H a ≠ none := by
  cases h with
  | new e => rw [e]; exact fun z => nomatch z
  | bare c d e => rw [e]; exact fun z => nomatch z
mutual
theorem Oc.add {H : Hp} {S : AS} {D : Addr} (hD : H D = none) : ∀ {v : V} {d : Dt}, Oc H S v d → Oc H (And1 S D) v d
  | _, _, .non => .non
  | _, _, .bl b => .bl b
  | _, _, .int i => .int i
  | _, _, .str s => .str s
  | _, _, .lst e ne all => .lst e (fun z => z.elim ne fun y => by rw [y, hD] at e; cases e) (Ocs.add hD all)
  | _, _, .tup e ne all => .tup e (fun z => z.elim ne fun y => e.some (y ▸ hD)) (Ocs.add hD all)
  | _, _, .ins e ne hn all => .ins e (fun z => z.elim ne fun y => by rw [y, hD] at e; cases e) hn (Ocs.add hD all)
theorem Ocs.add {H : Hp} {S : AS} {D : Addr} (hD : H D = none) : ∀ {vs : List V} {ds : List Dt}, Ocs H S vs ds → Ocs H (And1 S D) vs ds
  | _, _, .nil => .nil
  | _, _, .cons h t => .cons (Oc.add hD h) (Ocs.add hD t)
end
section
variable {H H' : Hp} {S S' : AS} {v : V} {d : Dt} {vs : List V} {ds : List Dt}
theorem Same.butS (k : Same H H') : ButS S H H' := fun b o _ e => k b o e
theorem Oc.same (k : Same H H') (h : Oc H S v d) : Oc H' S v d := h.but (Same.butS k)
theorem Ocs.same (k : Same H H') (h : Ocs H S vs ds) : Ocs H' S vs ds := h.but (Same.butS k)
theorem Ocs.len : ∀ {vs : List V} {ds : List Dt}, Ocs H S vs ds → vs.length = ds.length
  | _, _, .nil => rfl
  | _, _, .cons _ t => congrArg Nat.succ (Ocs.len t)
theorem Ocs.get : ∀ {vs : List V} {ds : List Dt} {i : Nat} {x : V}, Ocs H S vs ds → vs[i]? = some x → ∃ d, ds[i]? = some d ∧ Oc H S x d
  | _, _, _, _, .nil, e => by simp at e
  | _, _, 0, _, .cons h _, e => by
    have e := Option.some.inj (show some _ = some _ from e)
    subst e; exact ⟨_, rfl, h⟩
  | _, _, i + 1, x, .cons _ t, e => Ocs.get (i := i) t (by simpa using e)
theorem Ocs.at : ∀ {vs : List V} {ds : List Dt} {i : Nat} {d : Dt}, Ocs H S vs ds → ds[i]? = some d → ∃ x, vs[i]? = some x ∧ Oc H S x d
  | _, _, _, _, .nil, e => by simp at e
  | _, _, 0, _, .cons h _, e => by
    have e := Option.some.inj (show some _ = some _ from e)
    subst e; exact ⟨_, rfl, h⟩
  | _, _, i + 1, x, .cons _ t, e => Ocs.at (i := i) t (by simpa using e)
theorem Ocs.append : ∀ {vs ws : List V} {ds es : List Dt}, Ocs H S vs ds → Ocs H S ws es → Ocs H S (vs ++ ws) (ds ++ es)
  | _, _, _, _, .nil, s => s
  | _, _, _, _, .cons h t, s => .cons h (Ocs.append t s)
theorem Ocs.snoc (h : Ocs H S vs ds) (t : Oc H S v d) : Ocs H S (vs ++ [v]) (ds ++ [d]) := h.append (.cons t .nil)
theorem Oc.put {D : Addr} {o : HO} (hD : S D) (h : Oc H S v d) : Oc (upd H D o) S v d := h.but fun b u n e => by
  rw [upd_ne (fun z => n (by rw [z]; exact hD))]; exact e
theorem Ocs.put {D : Addr} {o : HO} (hD : S D) (h : Ocs H S vs ds) : Ocs (upd H D o) S vs ds := h.but fun b u n e => by
  rw [upd_ne (fun z => n (by rw [z]; exact hD))]; exact e
theorem Lv.same (k : Same H H') (h : Lv H S) : Lv H' S := fun a ha z => by
  cases y : H a with
  | none => exact h a ha y
  | some o => rw [k _ _ y] at z; cases z
theorem Lv.add {D : Addr} {o : HO} (h : Lv H S) (hD : H D = none) : Lv (upd H D o) (And1 S D) := fun b hb z => by
  rcases hb with hb | hb
  · exact Lv.same (same_upd hD) h b hb z
  · subst hb; rw [upd_same] at z; cases z
theorem Lv.out {D : Addr} (h : Lv H S) (hD : H D = none) : ¬ S D := fun z => h D z hD
theorem Oc.arg {K : PySem.W.Frag} (h : Oc H S v d) (n : d.pl = true := by rfl) : Arg K H v (tyName d) := by
  cases h with
  | ins e ne hn all => cases n
  | non => exact .non
  | bl b => exact .bl b
  | int i => exact .int i
  | str s => exact .str s
  | lst e _ _ => exact .lst e
  | tup e _ _ =>
    cases e with
    | new e => exact .tup e
    | bare c d e => exact .ftup e
theorem Oc.lst_inv (h : Oc H S v (.lst ds)) : ∃ a xs, v = .ref a ∧ H a = some (.lst xs) ∧ ¬ S a ∧ Ocs H S xs ds := by
  cases h with
  | lst e ne all => exact ⟨_, _, rfl, e, ne, all⟩
theorem Oc.tup_inv {z : Bool} (h : Oc H S v (.tup z ds)) : ∃ a xs, v = .ref a ∧ Tp H a z xs ∧ ¬ S a ∧ Ocs H S xs ds := by
  cases h with
  | tup e ne all => exact ⟨_, _, rfl, e, ne, all⟩
theorem Oc.int_inv {i : Int} (h : Oc H S v (.int i)) : v = .int i := by cases h; rfl
theorem Oc.bl_inv {i : Bool} (h : Oc H S v (.bl i)) : v = .bl i := by cases h; rfl
theorem Oc.str_inv {i : Str} (h : Oc H S v (.str i)) : v = .str i := by cases h; rfl
theorem Ocs.ints : ∀ {vs : List V} {ns : List Int}, Ocs H S vs (ns.map Dt.int) → vs = ns.map V.int
  | _, [], .nil => rfl
  | _, n :: r, .cons h t => by rw [h.int_inv, Ocs.ints t]; rfl
theorem ocs_ints : ∀ ns : List Int, Ocs H S (ns.map V.int) (ns.map Dt.int)
  | [] => .nil
  | n :: r => .cons (.int n) (ocs_ints r)
theorem Ocs.strs : ∀ {vs : List V} {ns : List Str}, Ocs H S vs (ns.map Dt.str) → vs = ns.map V.str
  | _, [], .nil => rfl
  | _, n :: r, .cons h t => by rw [h.str_inv, Ocs.strs t]; rfl
theorem Ocs.bls : ∀ {vs : List V} {ns : List Bool}, Ocs H S vs (ns.map Dt.bl) → vs = ns.map V.bl
  | _, [], .nil => rfl
  | _, n :: r, .cons h t => by rw [h.bl_inv, Ocs.bls t]; rfl
end
mutual
theorem Oc.ob' {H : Hp} {S : AS} {p : Addr} (hp : S p) : ∀ {v : V} {d : Dt}, Oc H S v d → d.pl = true → Ob H p v d
  | _, _, .non, _ => .non
  | _, _, .bl b, _ => .bl b
  | _, _, .int i, _ => .int i
  | _, _, .str s, _ => .str s
  | _, _, .lst e ne all, n => .lst e (fun z => ne (z ▸ hp)) (Ocs.ob' hp all (by rw [Dt.pl] at n; exact n))
  | _, _, .tup e ne all, n => .tup e (fun z => ne (z ▸ hp)) (Ocs.ob' hp all (by rw [Dt.pl] at n; exact n))
  | _, _, .ins _ _ _ _, n => (nomatch n)
theorem Ocs.ob' {H : Hp} {S : AS} {p : Addr} (hp : S p) : ∀ {vs : List V} {ds : List Dt}, Ocs H S vs ds → Dt.plAll ds = true → Obs H p vs ds
  | _, _, .nil, _ => .nil
  | _, _, .cons h t, n => .cons (Oc.ob' hp h (by rw [Dt.plAll, Bool.and_eq_true] at n; exact n.1)) (Ocs.ob' hp t (by rw [Dt.plAll, Bool.and_eq_true] at n; exact n.2))
end
theorem Oc.ob {H : Hp} {S : AS} {p : Addr} {v : V} {d : Dt} (h : Oc H S v d) (hp : S p) (n : d.pl = true := by first | rfl | exact pl_ints _ | exact pl_strs _) : Ob H p v d := h.ob' hp n
theorem Oc.ins_inv {H : Hp} {S : AS} {v : V} {C : Addr} {ns : List Str} {ds : List Dt} (h : Oc H S v (.ins C ns ds)) : ∃ a dx fs, v = .ref a ∧ H a = some (.ins C dx fs) ∧ ¬ S a ∧ fs.map Prod.fst = ns ∧ Ocs H S (fs.map Prod.snd) ds := by
  cases h with
  | ins e ne hn all => exact ⟨_, _, _, rfl, e, ne, hn, all⟩
/-! ### from one place to a later one -/
structure Lift (H : Hp) (S : AS) (H1 : Hp) (S1 : AS) : Prop where
  ob : ∀ {u : V} {e : Dt}, Oc H S u e → Oc H1 S1 u e
  live : Lv H1 S1
  sub : ∀ a, S a → S1 a
  same : Same H H1
theorem Lift.refl {H : Hp} {S : AS} (l : Lv H S) : Lift H S H S := ⟨fun h => h, l, fun _ h => h, fun _ _ z => z⟩
theorem Lift.trans {H H1 H2 : Hp} {S S1 S2 : AS} (x : Lift H S H1 S1) (y : Lift H1 S1 H2 S2) : Lift H S H2 S2 := ⟨fun h => y.ob (x.ob h), y.live, fun a h => y.sub a (x.sub a h), x.same.trans y.same⟩
theorem Lift.then {H H1 H2 : Hp} {S S1 : AS} (x : Lift H S H1 S1) (k : Same H1 H2) : Lift H S H2 S1 := ⟨fun h => (x.ob h).same k, Lv.same k x.live, x.sub, x.same.trans k⟩
theorem Lift.new {H : Hp} {S : AS} {D : Addr} {o : HO} (l : Lv H S) (hD : H D = none) : Lift H S (upd H D o) (And1 S D) :=
  ⟨fun h => (h.add hD).put (.inr rfl), l.add hD, fun a h => .inl h, same_upd hD⟩
theorem Lift.obs {H H1 : Hp} {S S1 : AS} (x : Lift H S H1 S1) : ∀ {us : List V} {es : List Dt}, Ocs H S us es → Ocs H1 S1 us es
  | _, _, .nil => .nil
  | _, _, .cons h t => .cons (x.ob h) (Lift.obs x t)
/-- an expression that comes to the datum d, nothing changed -/
def DE (te : TE) (σ : L2.St) (H : Hp) (S : AS) (d : Dt) : Prop := ∀ (H1 : Hp) (S1 : AS) (Q : VK), Lift H S H1 S1 → (∀ v H2, Same H1 H2 → Oc H2 S1 v d → Q v H2) → te σ H1 Q
def DT (tt : TT) (σ : L2.St) (H : Hp) (S : AS) (b : Bool) : Prop := ∀ (H1 : Hp) (S1 : AS) (Q : Bool → Hp → Prop), Lift H S H1 S1 → (∀ H2, Same H1 H2 → Q b H2) → tt σ H1 Q
theorem DE.lift {te : TE} {σ : L2.St} {H H1 : Hp} {S S1 : AS} {d : Dt} (h : DE te σ H S d) (x : Lift H S H1 S1) : DE te σ H1 S1 d := fun H2 S2 Q y q => h H2 S2 Q (x.trans y) q
theorem DT.lift {te : TT} {σ : L2.St} {H H1 : Hp} {S S1 : AS} {d : Bool} (h : DT te σ H S d) (x : Lift H S H1 S1) : DT te σ H1 S1 d := fun H2 S2 Q y q => h H2 S2 Q (x.trans y) q
theorem DE.go {te : TE} {σ : L2.St} {H : Hp} {S : AS} {d : Dt} {Q : VK} (h : DE te σ H S d) (l : Lv H S) (q : ∀ v H2, Same H H2 → Oc H2 S v d → Q v H2) : te σ H Q := h H S Q (Lift.refl l) q
section
variable {σ : L2.St} {H : Hp} {S : AS} {K : PySem.W.Frag}
theorem D_var {i : Nat} {v : V} {d : Dt} (h : σ[i]? = some (some v)) (o : Oc H S v d) : DE (tVar i) σ H S d := fun H1 S1 Q x q => ⟨v, h, q _ _ (fun _ _ z => z) (x.ob o)⟩
theorem D_int (i : Int) : DE (tC (.int i)) σ H S (.int i) := fun H1 S1 Q x q => q _ _ (fun _ _ z => z) (.int i)
theorem D_str (i : Str) : DE (tC (.str i)) σ H S (.str i) := fun H1 S1 Q x q => q _ _ (fun _ _ z => z) (.str i)
theorem D_eq {te : TE} {d e : Dt} (h : DE te σ H S d) (z : d = e) : DE te σ H S e := z ▸ h
theorem D_add {ta tb : TE} {i j : Int} (ha : DE ta σ H S (.int i)) (hb : DE tb σ H S (.int j)) : DE (tOp (rI0 fun i j => .int (i + j)) ta tb) σ H S (.int (i + j)) := fun H1 S1 Q x q =>
  ha H1 S1 _ x fun v H2 k o => (hb.lift (x.then k)).go (Lv.same k x.live) fun u H3 k3 o3 => by
    rw [o.int_inv, o3.int_inv]
    exact ⟨i, j, rfl, rfl, q _ _ (k.trans k3) (.int _)⟩
theorem D_sub {ta tb : TE} {i j : Int} (ha : DE ta σ H S (.int i)) (hb : DE tb σ H S (.int j)) : DE (tOp (rI0 fun i j => .int (i - j)) ta tb) σ H S (.int (i - j)) := fun H1 S1 Q x q =>
  ha H1 S1 _ x fun v H2 k o => (hb.lift (x.then k)).go (Lv.same k x.live) fun u H3 k3 o3 => by
    rw [o.int_inv, o3.int_inv]
    exact ⟨i, j, rfl, rfl, q _ _ (k.trans k3) (.int _)⟩
/-- arguments -/
def DA (ta : TA) (σ : L2.St) (H : Hp) (S : AS) (ds : List Dt) : Prop := ∀ (H1 : Hp) (S1 : AS) (Q : List V → Hp → Prop), Lift H S H1 S1 → (∀ vs H2, Same H1 H2 → Ocs H2 S1 vs ds → Q vs H2) → ta σ H1 Q
theorem D_nil : DA tNil σ H S [] := fun H1 S1 Q x q => q _ _ (fun _ _ z => z) .nil
theorem D_cons {te : TE} {ta : TA} {d : Dt} {ds : List Dt} (h : DE te σ H S d) (t : DA ta σ H S ds) : DA (tCons te ta) σ H S (d :: ds) := fun H1 S1 Q x q =>
  h H1 S1 _ x fun v H2 k o => t H2 S1 _ (x.then k) fun vs H3 k3 o3 => q _ _ (k.trans k3) (.cons (o.same k3) o3)
/-- (a, ..) -/
theorem D_tup {ta : TA} {ds : List Dt} (h : DA ta σ H S ds) (hz : ds.length ≤ 1000) : DE (tTupF ta) σ H S (.tup true ds) := fun H1 S1 Q x q =>
  h H1 S1 _ x fun vs H2 k o => ⟨Nat.le_trans (show _ ≤ 1000 by rw [o.len]; exact hz) (by decide), fun p H3 hp k3 tp g => q _ _ (k.trans k3) (.tup tp (Lv.out (Lv.same k x.live) hp) (o.same k3))⟩
/-- [a, ..] -/
theorem D_lst {ta : TA} {ds : List Dt} (h : DA ta σ H S ds) (hz : ds.length ≤ 1000) : DE (tLst ta) σ H S (.lst ds) := fun H1 S1 Q x q =>
  h H1 S1 _ x fun vs H2 k o => ⟨Nat.le_trans (show _ ≤ 1000 by rw [o.len]; exact hz) (by decide), fun p hp => q _ _ (k.trans (same_upd hp)) (.lst upd_same (Lv.out (Lv.same k x.live) hp) (o.same (same_upd hp)))⟩
/-- t + u of tuples -/
theorem D_cat {ta tb : TE} {ds es : List Dt} (ha : DE ta σ H S (.tup true ds)) (hb : DE tb σ H S (.tup true es)) (hz : ds.length + es.length ≤ 1000) : DE (tOp (rCatF K) ta tb) σ H S (.tup true (ds ++ es)) := fun H1 S1 Q x q =>
  ha H1 S1 _ x fun v H2 k o => (hb.lift (x.then k)).go (Lv.same k x.live) fun u H3 k3 o3 => by
    obtain ⟨a, xs, rfl, ea, na, oa⟩ := o.tup_inv
    obtain ⟨b, ys, rfl, eb, nb, ob⟩ := o3.tup_inv
    have la := oa.len
    have lb := ob.len
    have oa' := oa.same k3
    refine ⟨a, b, xs, ys, rfl, rfl, (ea.same k3).sq, eb.sq, Nat.le_trans (show _ ≤ 1000 by omega) (by decide), fun e => ?_, fun e e2 => ?_, fun e e2 p H4 hp k4 tp g => ?_⟩
    · subst e
      cases oa
      exact q _ _ (k.trans k3) (.tup eb nb ob)
    · subst e2
      cases ob
      exact q _ _ (k.trans k3) (by rw [List.append_nil]; exact .tup (ea.same k3) na oa')
    · exact q _ _ ((k.trans k3).trans k4) (.tup tp (Lv.out (Lv.same k3 (Lv.same k x.live)) hp) ((oa'.append ob).same k4))
/-- tuple(a list) -/
theorem D_tupleOf {ta : TE} {ds : List Dt} (ha : DE ta σ H S (.lst ds)) : DE (tTupOfF K ta) σ H S (.tup true ds) := fun H1 S1 Q x q =>
  ha H1 S1 _ x fun v H2 k o => by
    obtain ⟨a, xs, rfl, ea, na, oa⟩ := o.lst_inv
    exact ⟨a, xs, rfl, SqL.of ea, fun p H3 hp k3 tp g => q _ _ (k.trans k3) (.tup tp (Lv.out (Lv.same k x.live) hp) (oa.same k3))⟩
/-! ### comprehensions -/
/-- one turn: what is put to the list, if anything is -/
def Turn1 (g : TG) (tt : TT) (te : TE) (vs : List Nat) (σ : L2.St) (x : V) (H : Hp) (S : AS) (r : Option Dt) : Prop :=
  ∀ (C : V → Hp → Prop) (N : Hp → Prop), (∀ y d H4, r = some d → Same H H4 → Oc H4 S y d → C y H4) → (∀ H4, r = none → Same H H4 → N H4) →
    g x (wipe σ vs) H fun σ2 H2 => wipe σ2 vs = wipe σ vs ∧ tt σ2 H2 fun b H3 => if b = true then te σ2 H3 C else N H3
theorem turn_map {te : TE} {i : Nat} {x : V} {d : Dt} (hw : wipe ((wipe σ [i]).set i (some x)) [i] = wipe σ [i]) (l : Lv H S) (h : DE te ((wipe σ [i]).set i (some x)) H S d) : Turn1 (gName i) tYes te [i] σ x H S (some d) := fun C N hc hn =>
  ⟨hw, h.go l fun v H2 k o => hc _ _ _ rfl k o⟩
theorem turn_test {te : TE} {tt : TT} {i : Nat} {x : V} {d : Dt} {b : Bool} (hw : wipe ((wipe σ [i]).set i (some x)) [i] = wipe σ [i]) (l : Lv H S) (ht : DT tt ((wipe σ [i]).set i (some x)) H S b) (h : b = true → DE te ((wipe σ [i]).set i (some x)) H S d) :
    Turn1 (gName i) tt te [i] σ x H S (if b = true then some d else none) := fun C N hc hn =>
  ⟨hw, ht H S _ (Lift.refl l) fun H2 k => by
    cases b with
    | true => exact ((h rfl).lift ((Lift.refl l).then k)).go (Lv.same k l) fun v H3 k3 o => hc _ _ _ rfl (k.trans k3) o
    | false => exact hn _ rfl k⟩
/-- what is made so far stands at D -/
structure Made (H2 : Hp) (S : AS) (D : Addr) (ds : List Dt) (H' : Hp) : Prop where
  same : Same H2 H'
  acc : ∃ vs, H' D = some (.lst vs) ∧ Ocs H' (And1 S D) vs ds
theorem Made.nil {H2 : Hp} {D : Addr} (hD : H2 D = none) : Made H2 S D [] (upd H2 D (.lst [])) := ⟨same_upd hD, [], upd_same, .nil⟩
theorem Made.lift {H2 H' : Hp} {D : Addr} {ds : List Dt} (l : Lv H2 S) (hD : H2 D = none) (m : Made H2 S D ds H') : Lift H2 S H' (And1 S D) := by
  refine ⟨fun h => (h.add hD).same m.same, fun a ha z => ?_, fun a h => .inl h, m.same⟩
  rcases ha with ha | ha
  · exact Lv.same m.same l a ha z
  · obtain ⟨vs, e, _⟩ := m.acc
    rw [ha, e] at z; cases z
theorem Made.step {H2 H' H4 : Hp} {D : Addr} {ds : List Dt} {y : V} {d : Dt} (hD : H2 D = none) (m : Made H2 S D ds H') (k : Same H' H4) (o : Oc H4 (And1 S D) y d) (hz : ds.length < 1000000) :
    ∃ acc, H4 D = some (.lst acc) ∧ acc.length < sizeLine ∧ Made H2 S D (ds ++ [d]) (upd H4 D (.lst (acc ++ [y]))) := by
  obtain ⟨vs, e, oc⟩ := m.acc
  refine ⟨vs, k _ _ e, Nat.lt_of_lt_of_le (show _ < 1000000 by rw [oc.len]; exact hz) (by decide), fun b o hb => ?_, _, upd_same, ((oc.same k).snoc o).put (.inr rfl)⟩
  rw [upd_ne (ne_of_none hb hD)]
  exact k _ _ (m.same _ _ hb)
theorem Made.done {H2 H' : Hp} {D : Addr} {ds : List Dt} (l : Lv H2 S) (hD : H2 D = none) (m : Made H2 S D ds H') : Oc H' S (.ref D) (.lst ds) := by
  obtain ⟨vs, e, oc⟩ := m.acc
  exact .lst e (Lv.out l hD) (oc.sub fun a h => .inl h)
theorem fm_len (ds : List Dt) (r : Dt → Option Dt) (i : Nat) (h : ds.length ≤ 999999) : ((ds.take i).filterMap r).length < 1000000 := by
  have := List.length_filterMap_le r (ds.take i)
  have := List.length_take_le i ds
  have := List.length_take_le' i ds
  omega
theorem fm_succ {ds : List Dt} {r : Dt → Option Dt} {i : Nat} {d : Dt} (h : ds[i]? = some d) : (ds.take (i + 1)).filterMap r = (ds.take i).filterMap r ++ (r d).toList := by
  rw [List.take_add_one, h, List.filterMap_append]
  show _ ++ List.filterMap r [d] = _
  cases e : r d <;> simp [List.filterMap, e]
section
variable {g : TG} {tt : TT} {te : TE} {vs : List Nat} {ds : List Dt} {r : Dt → Option Dt}
theorem D_lcL {tl : TE} (hl : DE tl σ H S (.lst ds)) (hz : ds.length ≤ 999999) (hs : ∀ v d H1 S1, d ∈ ds → Lift H S H1 S1 → Oc H1 S1 v d → Turn1 g tt te vs σ v H1 S1 (r d)) : DE (tLc (iList K tl) g tt te vs) σ H S (.lst (ds.filterMap r)) := fun H1 S1 Q x q =>
  hl H1 S1 _ x fun v H2 k o => by
    obtain ⟨a, xs, rfl, ea, na, oa⟩ := o.lst_inv
    have L2 := Lv.same k x.live
    refine ⟨a, rfl, ⟨_, SqL.of ea⟩, fun D hD => ?_⟩
    refine lc_list (K := K) (a := a) (xs := xs) (fun i H' => Made H2 S1 D ((ds.take i).filterMap r) H') (Made.nil hD) (fun i H' _ m => SqL.of (m.same _ _ ea)) ?_ ?_
    · intro i y H' hy m
      obtain ⟨d, hd, od⟩ := oa.get hy
      have lf := m.lift L2 hD
      refine hs y d H' _ (List.mem_of_getElem? hd) ((x.then k).trans lf) (lf.ob od) _ _ (fun z e H4 er k4 o4 => ?_) fun H4 er k4 => ?_
      · obtain ⟨acc, e1, e2, m2⟩ := m.step hD k4 o4 (fm_len ds r i hz)
        refine ⟨acc, e1, e2, ?_⟩
        rw [fm_succ hd, er]; exact m2
      · rw [fm_succ hd, er]
        show Made _ _ _ (_ ++ []) _
        rw [List.append_nil]
        obtain ⟨vs, e, oc⟩ := m.acc
        exact ⟨m.same.trans k4, vs, k4 _ _ e, oc.same k4⟩
    · intro H' m
      rw [oa.len, List.take_length] at m
      exact q _ _ (k.trans m.same) (m.done L2 hD)
theorem D_lcT {tl : TE} {z : Bool} (hl : DE tl σ H S (.tup z ds)) (hz : ds.length ≤ 999999) (hs : ∀ v d H1 S1, d ∈ ds → Lift H S H1 S1 → Oc H1 S1 v d → Turn1 g tt te vs σ v H1 S1 (r d)) : DE (tLc (iTup K tl) g tt te vs) σ H S (.lst (ds.filterMap r)) := fun H1 S1 Q x q =>
  hl H1 S1 _ x fun v H2 k o => by
    obtain ⟨a, xs, rfl, ea, na, oa⟩ := o.tup_inv
    have L2 := Lv.same k x.live
    refine ⟨a, rfl, ⟨_, ea.sq⟩, fun D hD => ?_⟩
    refine lc_tup (K := K) (a := a) (xs := xs) (fun i H' => Made H2 S1 D ((ds.take i).filterMap r) H') (Made.nil hD) (fun i H' _ m => (ea.same m.same).sq) ?_ ?_
    · intro i y H' hy m
      obtain ⟨d, hd, od⟩ := oa.get hy
      have lf := m.lift L2 hD
      refine hs y d H' _ (List.mem_of_getElem? hd) ((x.then k).trans lf) (lf.ob od) _ _ (fun z e H4 er k4 o4 => ?_) fun H4 er k4 => ?_
      · obtain ⟨acc, e1, e2, m2⟩ := m.step hD k4 o4 (fm_len ds r i hz)
        refine ⟨acc, e1, e2, ?_⟩
        rw [fm_succ hd, er]; exact m2
      · rw [fm_succ hd, er]
        show Made _ _ _ (_ ++ []) _
        rw [List.append_nil]
        obtain ⟨vs, e, oc⟩ := m.acc
        exact ⟨m.same.trans k4, vs, k4 _ _ e, oc.same k4⟩
    · intro H' m
      rw [oa.len, List.take_length] at m
      exact q _ _ (k.trans m.same) (m.done L2 hD)
end
/-- the ints below n -/
def upto (n : Nat) : List Dt := (List.range n).map fun i => Dt.int (i : Nat)
theorem upto_get {n i : Nat} (h : i < n) : (upto n)[i]? = some (.int (i : Nat)) := by
  unfold upto
  rw [List.getElem?_map, List.getElem?_range h]; rfl
theorem upto_len (n : Nat) : (upto n).length = n := by unfold upto; rw [List.length_map, List.length_range]
theorem D_lcR {g : TG} {tt : TT} {te tn : TE} {vs : List Nat} {n : Nat} {r : Dt → Option Dt} (hn : DE tn σ H S (.int (n : Nat))) (hz : n ≤ 999999) (hs : ∀ (i : Nat) H1 S1, i < n → Lift H S H1 S1 → Turn1 g tt te vs σ (.int (i : Nat)) H1 S1 (r (.int (i : Nat)))) : DE (tLc (iRng1 (tCons tn tNil)) g tt te vs) σ H S (.lst ((upto n).filterMap r)) := fun H1 S1 Q x q =>
  hn H1 S1 _ x fun v H2 k o => by
    have e := o.int_inv
    subst e
    have L2 := Lv.same k x.live
    refine ⟨_, rfl, by omega, by omega, fun D hD => ?_⟩
    have et : ((n : Nat) : Int).toNat = n := Int.toNat_natCast n
    rw [et]
    refine lc_range (lo := 0) (n := n) (fun i H' => Made H2 S1 D (((upto n).take i).filterMap r) H') (Made.nil hD) ?_ ?_
    · intro i H' hi m
      have lf := m.lift L2 hD
      rw [Int.zero_add]
      have hd := upto_get hi
      refine hs i H' _ hi ((x.then k).trans lf) _ _ (fun z e H4 er k4 o4 => ?_) fun H4 er k4 => ?_
      · obtain ⟨acc, e1, e2, m2⟩ := m.step hD k4 o4 (fm_len _ r i (by rw [upto_len]; exact hz))
        refine ⟨acc, e1, e2, ?_⟩
        rw [fm_succ hd, er]; exact m2
      · rw [fm_succ hd, er]
        show Made _ _ _ (_ ++ []) _
        rw [List.append_nil]
        obtain ⟨vs, e, oc⟩ := m.acc
        exact ⟨m.same.trans k4, vs, k4 _ _ e, oc.same k4⟩
    · intro H' m
      have e2 : (upto n).take n = upto n := List.take_of_length_le (by rw [upto_len]; exact Nat.le_refl _)
      rw [e2] at m
      exact q _ _ (k.trans m.same) (m.done L2 hD)
end
end Lc
namespace Lc
open PySem PySem.Spec PyProof.Rows L2 RZ PySem.W
section
variable {σ : L2.St} {H : Hp} {S : AS} {K : PySem.W.Frag}
/-! ### two clauses -/
theorem fm2_len (ds : List Dt) (f : Dt → List Dt) (h : ∀ d ∈ ds, (f d).length ≤ 500) : ∀ i, i ≤ 1000 → ((ds.take i).flatMap f).length ≤ i * 500
  | 0, _ => by simp
  | i + 1, hi => by
    have ih := fm2_len ds f h i (by omega)
    rw [List.take_add_one, List.flatMap_append, List.length_append]
    cases e : ds[i]? with
    | none => simp only [Option.toList_none, List.flatMap_nil, List.length_nil]; omega
    | some d =>
      have := h d (List.mem_of_getElem? e)
      simp only [Option.toList_some, List.flatMap_cons, List.flatMap_nil, List.append_nil]
      omega
theorem fm2_succ {ds : List Dt} {f : Dt → List Dt} {i : Nat} {d : Dt} (h : ds[i]? = some d) : (ds.take (i + 1)).flatMap f = (ds.take i).flatMap f ++ f d := by
  rw [List.take_add_one, h, List.flatMap_append]
  simp
theorem D_lc2LR {i0 i1 : Nat} {tt1 : TT} {te tl tn : TE} {ds : List Dt} {n : Dt → Nat} {r : Dt → Dt → Option Dt} (hl : DE tl σ H S (.lst ds)) (hz : ds.length ≤ 1000) (hz2 : ∀ d ∈ ds, n d ≤ 500)
    (hw : ∀ v : V, wipe ((wipe σ [i0, i1]).set i0 (some v)) [i0, i1] = wipe σ [i0, i1])
    (hn : ∀ v d H1 S1, d ∈ ds → Lift H S H1 S1 → Oc H1 S1 v d → DE tn ((wipe σ [i0, i1]).set i0 (some v)) H1 S1 (.int (n d : Nat)))
    (hs : ∀ v d H1 S1 (j : Nat), d ∈ ds → j < n d → Lift H S H1 S1 → Oc H1 S1 v d → Turn1 (gName i1) tt1 te [i1] ((wipe σ [i0, i1]).set i0 (some v)) (.int (j : Nat)) H1 S1 (r d (.int (j : Nat)))) :
    DE (tLc2 (iList K tl) (gName i0) tYes (iRng1 (tCons tn tNil)) (gName i1) tt1 te [i0, i1] [i1]) σ H S (.lst (ds.flatMap fun d => (upto (n d)).filterMap (r d))) := fun H1 S1 Q x q =>
  hl H1 S1 _ x fun v H2 k o => by
    obtain ⟨a, xs, rfl, ea, na, oa⟩ := o.lst_inv
    have L2 := Lv.same k x.live
    have hf : ∀ d ∈ ds, ((upto (n d)).filterMap (r d)).length ≤ 500 := fun d hd => by
      have h1 := List.length_filterMap_le (r d) (upto (n d))
      have h2 := hz2 d hd
      rw [upto_len] at h1
      omega
    refine ⟨a, rfl, ⟨_, SqL.of ea⟩, fun D hD => ?_⟩
    refine ⟨fun i m H' => m = xs.length - i ∧ i ≤ xs.length ∧ Made H2 S1 D ((ds.take i).flatMap fun d => (upto (n d)).filterMap (r d)) H', ⟨_, rfl, Nat.zero_le _, Made.nil hD⟩, ?_⟩
    rintro i m H' ⟨rfl, hi, md⟩
    by_cases lt : i < xs.length
    · have hy : xs[i]? = some xs[i] := List.getElem?_eq_getElem lt
      obtain ⟨d, hd, od⟩ := oa.get hy
      have dm := List.mem_of_getElem? hd
      refine .inr ⟨⟨xs, _, SqL.of (md.same _ _ ea), hy⟩, fun H3 => Made H2 S1 D ((ds.take (i + 1)).flatMap fun d => (upto (n d)).filterMap (r d)) H3, fun H3 h3 => ⟨_, by omega, rfl, lt, h3⟩, ?_⟩
      rintro y H3 ⟨rfl, fy⟩
      have ey : y = xs[i] := Option.some.inj ((fy _ (SqL.of (md.same _ _ ea))).symm.trans hy)
      subst ey
      have lf := md.lift L2 hD
      have lf2 := (x.then k).trans lf
      refine ⟨hw _, (hn _ d _ _ dm lf2 (lf.ob od)).go lf2.live fun u H4 k4 o4 => ?_⟩
      have eu := o4.int_inv
      subst eu
      have hb := hz2 d dm
      refine ⟨_, rfl, by omega, by omega, ?_⟩
      have et : ((n d : Nat) : Int).toNat = n d := Int.toNat_natCast _
      rw [et]
      refine ⟨fun j k H' => k = n d - j ∧ j ≤ n d ∧ Made H2 S1 D (((ds.take i).flatMap fun d => (upto (n d)).filterMap (r d)) ++ ((upto (n d)).take j).filterMap (r d)) H', ⟨_, rfl, Nat.zero_le _, ?_⟩, ?_⟩
      · obtain ⟨vs, e, oc⟩ := md.acc
        refine ⟨md.same.trans k4, vs, k4 _ _ e, ?_⟩
        simpa using oc.same k4
      rintro j kk H5 ⟨rfl, hj, md5⟩
      by_cases jl : j < n d
      · refine .inr ⟨jl, fun H6 => Made H2 S1 D (((ds.take i).flatMap fun d => (upto (n d)).filterMap (r d)) ++ ((upto (n d)).take (j + 1)).filterMap (r d)) H6, fun H6 h6 => ⟨_, by omega, rfl, jl, h6⟩, ?_⟩
        rintro y H6 ⟨rfl, rfl⟩
        rw [Int.zero_add]
        have lf5 := md5.lift L2 hD
        have hg := upto_get jl
        refine hs _ d _ _ j dm jl ((x.then k).trans lf5) (lf5.ob od) _ _ (fun z e H7 er k7 o7 => ?_) fun H7 er k7 => ?_
        · have sz : (((ds.take i).flatMap fun d => (upto (n d)).filterMap (r d)) ++ ((upto (n d)).take j).filterMap (r d)).length < 1000000 := by
            have h1 := fm2_len ds _ hf i (by rw [oa.len] at lt; omega)
            have h2 := List.length_filterMap_le (r d) ((upto (n d)).take j)
            have h3 := List.length_take_le j (upto (n d))
            rw [List.length_append]
            have h4 : i < 1000 := by rw [oa.len] at lt; omega
            have h5 : i * 500 ≤ 1000 * 500 := Nat.mul_le_mul_right _ (by omega)
            omega
          obtain ⟨acc, e1, e2, m2⟩ := md5.step hD k7 o7 sz
          refine ⟨acc, e1, e2, ?_⟩
          rw [fm_succ hg, er, ← List.append_assoc]; exact m2
        · rw [fm_succ hg, er]
          show Made _ _ _ (_ ++ (_ ++ [])) _
          rw [List.append_nil]
          obtain ⟨vs, e, oc⟩ := md5.acc
          exact ⟨md5.same.trans k7, vs, k7 _ _ e, oc.same k7⟩
      · have ej : j = n d := by omega
        subst ej
        refine .inl ⟨Nat.le_refl _, ?_⟩
        have e2 : (upto (n d)).take (n d) = upto (n d) := List.take_of_length_le (by rw [upto_len]; exact Nat.le_refl _)
        rw [e2] at md5
        rw [fm2_succ hd]; exact md5
    · have ei : i = xs.length := by omega
      subst ei
      rw [oa.len, List.take_length] at md
      exact .inl ⟨⟨xs, SqL.of (md.same _ _ ea), Nat.le_refl _⟩, q _ _ (k.trans md.same) (md.done L2 hD)⟩
end
/-! ### data that can be compared -/
mutual
def pd : Dt → PyData
  | .non => .none
  | .bl b => .bool b
  | .int i => .int i
  | .str s => .str s
  | .lst ds => .list (pdAll ds)
  | .tup _ ds => .tuple (pdAll ds)
  | .dic => .none
  | .ins _ _ _ => .none
def pdAll : List Dt → List PyData
  | [] => []
  | d :: r => pd d :: pdAll r
end
theorem pdAll_map : ∀ ds : List Dt, pdAll ds = ds.map pd
  | [] => rfl
  | d :: r => by rw [pdAll, pdAll_map r]; rfl
mutual
theorem Oc.dp' {K : PySem.W.Frag} {H : Hp} {S : AS} : ∀ {v : V} {d : Dt}, Oc H S v d → d.pl = true → Dp K H v (pd d)
  | _, _, .non, _ => .non
  | _, _, .bl b, _ => .bl b
  | _, _, .int i, _ => .int i
  | _, _, .str s, _ => .str s
  | _, _, .lst e ne all, n => .lst (SqL.of e) (Ocs.dp' all (by rw [Dt.pl] at n; exact n))
  | _, _, .tup e ne all, n => .tup e.sq (Ocs.dp' all (by rw [Dt.pl] at n; exact n))
  | _, _, .ins _ _ _ _, n => (nomatch n)
theorem Ocs.dp' {K : PySem.W.Frag} {H : Hp} {S : AS} : ∀ {vs : List V} {ds : List Dt}, Ocs H S vs ds → Dt.plAll ds = true → DpAll K H vs (pdAll ds)
  | _, _, .nil, _ => .nil
  | _, _, .cons h t, n => .cons (Oc.dp' h (by rw [Dt.plAll, Bool.and_eq_true] at n; exact n.1)) (Ocs.dp' t (by rw [Dt.plAll, Bool.and_eq_true] at n; exact n.2))
end
theorem pl_of_map {α : Type} {f : α → Dt} (h : ∀ a, (f a).pl = true) (l : List α) : Dt.plAll (l.map f) = true := by
  induction l with
  | nil => rfl
  | cons d r ih => rw [List.map_cons, Dt.plAll, ih, h]; rfl
theorem Oc.dp {K : PySem.W.Frag} {H : Hp} {S : AS} {v : V} {d : Dt} (h : Oc H S v d) (n : d.pl = true := by first | rfl | exact pl_ints _ | exact pl_strs _) : Dp K H v (pd d) := h.dp' n
theorem Ocs.dp {K : PySem.W.Frag} {H : Hp} {S : AS} {vs : List V} {ds : List Dt} (h : Ocs H S vs ds) (n : Dt.plAll ds = true := by first | rfl | exact pl_ints _ | exact pl_strs _ | (refine pl_of_map ?_ _; intro a; first | rfl | exact pl_ints _ | exact pl_strs _)) : DpAll K H vs (pdAll ds) := h.dp' n
def minL : List Int → Int
  | [] => 0
  | x :: r => r.foldl min x
def maxL : List Int → Int
  | [] => 0
  | x :: r => r.foldl max x
/-! ### min of a list, max of a tuple -/
def rMinD (K : PySem.W.Frag) : List V → Hp → VK → Prop := fun vs H Q => ∃ (a : Addr) (xs : List V) (d : PyData) (ds : List PyData), vs = [.ref a] ∧ SqL K H a xs ∧ DpAll K H xs (d :: ds) ∧ AlikeAll (d :: ds) ∧ PyData.depthAll (d :: ds) ≤ 16 ∧
  ∀ (i : Nat) (v : V), xs[i]? = some v → (d :: ds)[i]? = some (minD d ds) → Q v H
theorem dp_at {K : PySem.W.Frag} {H : Hp} : ∀ {vs : List V} {ds : List PyData} {i : Nat} {v : V}, DpAll K H vs ds → vs[i]? = some v → ∃ d, ds[i]? = some d ∧ Dp K H v d
  | _, _, _, _, .nil, e => by simp at e
  | _, _, 0, _, .cons h _, e => by
    have e := Option.some.inj (show some _ = some _ from e)
    subst e; exact ⟨_, rfl, h⟩
  | _, _, i + 1, x, .cons _ t, e => dp_at (i := i) t (by simpa using e)
theorem vals_at : ∀ {vs : List V} {us : List Value} {i : Nat} {u : Value}, Vals vs us → us[i]? = some u → ∃ v, vs[i]? = some v ∧ RelV v u
  | _, _, _, _, .nil, e => by simp at e
  | _, _, 0, _, .cons h _, e => by
    have e := Option.some.inj (show some _ = some _ from e)
    subst e; exact ⟨_, rfl, h⟩
  | _, _, i + 1, x, .cons _ t, e => vals_at (i := i) t (by simpa using e)
theorem cr_minD {X : Cx} (K : PySem.W.Frag) (hc : X.calm = true) (hu : X.A.units + 64 < cLine) (h : X.K = K := by rfl) : CallR X (.builtin "min") (rMinD K) := by
  subst h
  intro pins s σ H vs us Q I r h
  obtain ⟨a, xs, d, ds, rfl, hs, hd, al, dp, q⟩ := h
  obtain ⟨its, rv, pl, hz⟩ := I.list hs
  obtain ⟨as, ra⟩ := Dp.readsAll I _ _ _ hd rv
  rw [Vals.ref1 r]
  refine min_list_data (I.ok.hd hc) pl.isList (by simpa using ra) al (by omega) fun i v h' tk bs hv hr hk => ?_
  have hv' : its[i]? = some v := by rw [← hv]; simp
  obtain ⟨y, hy, ry⟩ := vals_at rv hv'
  obtain ⟨e, he, de⟩ := dp_at hd hy
  obtain ⟨cs, re⟩ := Dp.reads I _ _ _ de ry
  have ee := (PySem.Reads.unique (reads_keeps hk re) _ _ hr).1
  subst ee
  exact ⟨y, H, I.kept (t' := tk) hk, ry, q i y hy he⟩
def rMaxT (K : PySem.W.Frag) : List V → Hp → VK → Prop := fun vs H Q => ∃ (a : Addr) (n : Int) (ns : List Int), vs = [.ref a] ∧ SqT K H a ((n :: ns).map V.int) ∧ Q (.int (ns.foldl max n)) H
theorem alike_int_all (ns : List Int) : AlikeAll (ns.map PyData.int) := by
  refine ⟨fun x hx y hy => ?_, fun x hx => ?_⟩
  · obtain ⟨i, _, rfl⟩ := List.mem_map.mp hx
    obtain ⟨j, _, rfl⟩ := List.mem_map.mp hy
    rfl
  · obtain ⟨i, _, rfl⟩ := List.mem_map.mp hx
    exact fun z => nomatch z
theorem dp_ints {K : PySem.W.Frag} {H : Hp} : ∀ ns : List Int, DpAll K H (ns.map V.int) (ns.map PyData.int)
  | [] => .nil
  | n :: r => .cons (.int n) (dp_ints r)
theorem cr_maxT {X : Cx} (K : PySem.W.Frag) (hc : X.calm = true) (hu : X.A.units + 64 < cLine) (h : X.K = K := by rfl) : CallR X (.builtin "max") (rMaxT K) := by
  subst h
  intro pins s σ H vs us Q I r h
  obtain ⟨a, n, ns, rfl, hs, q⟩ := h
  obtain ⟨its, rv, pl, hz⟩ := I.tuple hs
  obtain ⟨as, ra⟩ := Dp.readsAll I ((n :: ns).map .int) _ _ (dp_ints _) rv
  rw [Vals.ref1 r]
  have dz : PyData.depthAll (PyData.int n :: ns.map PyData.int) = 0 := depth_ints (n :: ns)
  refine max_tuple_data (x := .int n) (xs := ns.map .int) (I.ok.hd hc) pl (by simpa using ra) (alike_int_all (n :: ns)) (by rw [dz]; omega) fun i v h' tk bs hv hr hk => ?_
  rw [maxD_ints] at hr
  obtain ⟨t, rfl, _⟩ := reads_int_inv hr
  exact ⟨.int _, H, I.kept (t' := tk) hk, ⟨t, rfl⟩, q⟩
/-! ### rows of ints -/
def intT' (ns : List Int) : Dt := .tup true (ns.map Dt.int)
def intP (ns : List Int) : PyData := .tuple (ns.map PyData.int)
theorem pd_intT (ns : List Int) : pd (intT' ns) = intP ns := by
  show PyData.tuple (pdAll (ns.map Dt.int)) = _
  rw [pdAll_map, List.map_map]; rfl
def ltI : List Int → List Int → Bool
  | [], [] => false
  | [], _ :: _ => true
  | _ :: _, [] => false
  | x :: r, y :: t => decide (x < y) || (decide (x = y) && ltI r t)
theorem toks_intP (ns : List Int) : keyToks (intP ns) = keyToksAll (ns.map PyData.int) := by unfold intP; rw [keyToks]
theorem lt_toks : ∀ a b : List Int, PyProof.Rows.lexLt itemOrd (keyToksAll (a.map PyData.int)) (keyToksAll (b.map PyData.int)) = ltI a b
  | [], [] => by decide
  | [], y :: t => by
    rw [List.map_nil, List.map_cons, toks_all_cons, keyToksAll, lex_diff (O := itemOrd) (by intro z; cases z)]
    rfl
  | x :: r, [] => by
    rw [List.map_nil, List.map_cons, toks_all_cons, keyToksAll, lex_diff (O := itemOrd) (by intro z; cases z)]
    rfl
  | x :: r, y :: t => by
    rw [List.map_cons, List.map_cons, toks_all_cons, toks_all_cons, lex_self (O := itemOrd), keyToks, keyToks]
    show PyProof.Rows.lexLt itemOrd (Sum.inl x :: keyToksAll (r.map PyData.int)) (Sum.inl y :: keyToksAll (t.map PyData.int)) = _
    by_cases e : x = y
    · subst e
      rw [lex_self (O := itemOrd), lt_toks r t]
      simp [ltI]
    · rw [lex_diff (O := itemOrd) (fun z => e (Sum.inl.inj z))]
      show decide (x < y) = _
      simp [ltI, e]
theorem lt_rows (a b : List Int) : dataLt (intP a) (intP b) = ltI a b := by
  unfold dataLt
  rw [toks_intP, toks_intP, lt_toks]
def minR (x : List Int) (xs : List (List Int)) : List Int := xs.foldl (fun a y => if ltI y a then y else a) x
theorem min_rows (x : List Int) : ∀ xs : List (List Int), minD (intP x) (xs.map intP) = intP (minR x xs) := by
  intro xs
  unfold minD minR
  induction xs generalizing x with
  | nil => rfl
  | cons y r ih =>
    rw [List.map_cons, List.foldl_cons, List.foldl_cons, lt_rows]
    by_cases h : ltI y x = true
    · rw [if_pos h, if_pos h]; exact ih y
    · rw [if_neg h, if_neg h]; exact ih x
theorem alike_rows (rows : List (List Int)) : AlikeAll (rows.map intP) := by
  refine ⟨fun x hx y hy => ?_, fun x hx => ?_⟩
  · obtain ⟨i, _, rfl⟩ := List.mem_map.mp hx
    obtain ⟨j, _, rfl⟩ := List.mem_map.mp hy
    show alike (.tuple _) (.tuple _) = true
    rw [alike]; exact alike_ints i j
  · obtain ⟨i, _, rfl⟩ := List.mem_map.mp hx
    exact fun z => nomatch z
theorem depth_rows : ∀ rows : List (List Int), PyData.depthAll (rows.map intP) ≤ 1
  | [] => by simp [PyData.depthAll]
  | x :: r => by
    rw [List.map_cons, PyData.depthAll]
    have h := depth_rows r
    have h2 : PyData.depth (intP x) = 1 := by unfold intP; rw [PyData.depth, depth_ints]
    omega
theorem intP_inj {a b : List Int} (h : intP a = intP b) : a = b := by
  have h1 := PyData.tuple.inj h
  induction a generalizing b with
  | nil =>
    cases b with
    | nil => rfl
    | cons y t => simp at h1
  | cons x r ih =>
    cases b with
    | nil => simp at h1
    | cons y t =>
      simp only [List.map_cons, List.cons.injEq, PyData.int.injEq] at h1
      rw [h1.1, ih (by unfold intP; rw [h1.2]) h1.2]
theorem ocs_rows_dp {K : PySem.W.Frag} {H : Hp} {S : AS} {xs : List V} {rows : List (List Int)} (h : Ocs H S xs (rows.map intT')) : DpAll K H xs (rows.map intP) := by
  have := h.dp (K := K)
  rw [pdAll_map, List.map_map] at this
  have e : (rows.map (pd ∘ intT')) = rows.map intP := List.map_congr_left fun x _ => pd_intT x
  rw [e] at this
  exact this
theorem D_minRows {σ : L2.St} {H : Hp} {S : AS} {K : PySem.W.Frag} {tl : TE} {x : List Int} {xs : List (List Int)} (hl : DE tl σ H S (.lst ((x :: xs).map intT'))) : DE (tCB (rMinD K) (tCons tl tNil)) σ H S (intT' (minR x xs)) := fun H1 S1 Q y q =>
  hl H1 S1 _ y fun v H2 k o => by
    obtain ⟨a, ys, rfl, ea, na, oa⟩ := o.lst_inv
    refine ⟨a, ys, intP x, xs.map intP, rfl, SqL.of ea, ocs_rows_dp oa, alike_rows (x :: xs), Nat.le_trans (depth_rows (x :: xs)) (by decide), fun i v hv hm => ?_⟩
    obtain ⟨d, hd, od⟩ := oa.get hv
    rw [List.getElem?_map] at hd
    obtain ⟨row, hr, rfl⟩ := Option.map_eq_some_iff.mp hd
    have hm2 : ((x :: xs).map intP)[i]? = some (minD (intP x) (xs.map intP)) := hm
    rw [List.getElem?_map, hr, min_rows] at hm2
    have e := intP_inj (Option.some.inj hm2)
    subst e
    exact q _ _ k od
/-! ### == of data -/
theorem op_eqDK {X : Cx} (K : PySem.W.Frag) (hu : X.A.units + 64 < cLine) (h : X.K = K := by rfl) : OpR X (compareOp .Eq) (rEqD K) := h ▸ op_eqD hu
theorem op_neDK {X : Cx} (K : PySem.W.Frag) (hu : X.A.units + 64 < cLine) (h : X.K = K := by rfl) : OpR X (compareOp .NotEq) (rNeD K) := h ▸ op_neD hu
theorem op_ninK {X : Cx} (K : PySem.W.Frag) (h : X.K = K := by rfl) : OpR X (compareOp .NotIn) (rIn K true) := h ▸ op_notIn_seq
theorem op_inK {X : Cx} (K : PySem.W.Frag) (h : X.K = K := by rfl) : OpR X (compareOp .In) (rIn K false) := h ▸ op_in_seq
theorem shaped_row (a : List Int) : SeqAt.shaped (intP a) = true := by
  unfold SeqAt.shaped intP
  have e : PyData.canLayAll0 (a.map PyData.int) = true := by
    induction a with
    | nil => rfl
    | cons x r ih => rw [List.map_cons, PyData.canLayAll0, ih]; rfl
  rw [PyData.canLay0, e, PyData.depth, depth_ints]; rfl
theorem eqv_ints : ∀ a b : List Int, PyData.eqvAll (a.map PyData.int) (b.map PyData.int) = decide (a = b)
  | [], [] => by decide
  | [], y :: t => by simp [PyData.eqvAll]
  | x :: r, [] => by simp [PyData.eqvAll]
  | x :: r, y :: t => by
    rw [List.map_cons, List.map_cons, eqv_all_cons, eqv_ints r t]
    by_cases h : x = y
    · subst h
      have : PyData.eqv (.int x) (.int x) = true := by simp [PyData.eqv]
      rw [this]; simp
    · have : PyData.eqv (.int x) (.int y) = false := by simp [PyData.eqv, h]
      rw [this]; simp [h]
theorem eqv_rows (a b : List Int) : PyData.eqv (intP a) (intP b) = decide (a = b) := by
  unfold intP
  rw [PyData.eqv, eqv_ints]
theorem T_eqRow {σ : L2.St} {H : Hp} {S : AS} {K : PySem.W.Frag} {ta tb : TE} {a b : List Int} (ha : DE ta σ H S (intT' a)) (hb : DE tb σ H S (intT' b)) : DT (tTest (tOp (rEqD K) ta tb)) σ H S (decide (a = b)) := fun H1 S1 Q x q =>
  ha H1 S1 _ x fun v H2 k o => (hb.lift (x.then k)).go (Lv.same k x.live) fun u H3 k3 o3 => by
    have e1 := (o.same k3).dp (K := K)
    have e2 := o3.dp (K := K)
    rw [pd_intT] at e1 e2
    refine ⟨_, _, e1, e2, shaped_row a, shaped_row b, _, rfl, ?_⟩
    rw [eqv_rows]
    exact q _ (k.trans k3)
theorem op_catFK {X : Cx} (K : PySem.W.Frag) (h : X.K = K := by rfl) : OpR X (binaryOp .Add) (rCatF K) := h ▸ op_catF
theorem pi_listK {X : Cx} (K : PySem.W.Frag) {tg l : Expr} {tl : TE} (hl : PE X l tl) (h : X.K = K := by rfl) : PI X tg l (iList K tl) := h ▸ pi_list hl
theorem pi_tupK {X : Cx} (K : PySem.W.Frag) {tg l : Expr} {tl : TE} (hl : PE X l tl) (h : X.K = K := by rfl) : PI X tg l (iTup K tl) := h ▸ pi_tup hl
theorem pe_tupleOfFK {X : Cx} (K : PySem.W.Frag) {a : Expr} {ta : TE} {p pos : Pos} (hg : Gl X "tuple") (hm : X.mg "tuple" = none) (ha : PE X a ta) (h : X.K = K := by rfl) (na : starEach [a] X.env = (false, eval a X.env) :: starEach [] X.env := by rfl) : PE X (.Call (.Name "tuple" p) [a] [] pos) (tTupOfF K ta) := h ▸ pe_tupleOfF hg hm ha na
theorem cr_allK {X : Cx} (K : PySem.W.Frag) (hc : X.calm = true) (h : X.K = K := by rfl) : CallR X (.builtin "all") (rAll K) := h ▸ cr_all hc
theorem cr_anyK {X : Cx} (K : PySem.W.Frag) (hc : X.calm = true) (h : X.K = K := by rfl) : CallR X (.builtin "any") (rAny K) := h ▸ cr_any hc
theorem minL_of {ns : List Int} {m : Int} (hm : m ∈ ns) (h : ∀ y ∈ ns, m ≤ y) : m = minL ns := by
  cases ns with
  | nil => cases hm
  | cons x r =>
    have key : ∀ (r : List Int) (x : Int), (r.foldl min x ∈ x :: r) ∧ ∀ y ∈ x :: r, r.foldl min x ≤ y := by
      intro r
      induction r with
      | nil => intro x; exact ⟨List.mem_singleton.mpr rfl, fun y hy => by rw [List.mem_singleton.mp hy]; exact Int.le_refl _⟩
      | cons z t ih =>
        intro x
        obtain ⟨a, b⟩ := ih (min x z)
        rw [List.foldl_cons]
        refine ⟨?_, fun y hy => ?_⟩
        · rcases List.mem_cons.mp a with e | e
          · rcases Int.le_total x z with h | h
            · rw [e, Int.min_eq_left h]; exact List.mem_cons_self
            · rw [e, Int.min_eq_right h]; exact List.mem_cons_of_mem _ List.mem_cons_self
          · exact List.mem_cons_of_mem _ (List.mem_cons_of_mem _ e)
        · have hb := b _ List.mem_cons_self
          rcases List.mem_cons.mp hy with rfl | hy
          · omega
          · rcases List.mem_cons.mp hy with rfl | hy
            · omega
            · exact b _ (List.mem_cons_of_mem _ hy)
    obtain ⟨a, b⟩ := key r x
    show m = r.foldl min x
    have h1 := h _ a
    have h2 := b _ hm
    omega
theorem D_minInts {σ : L2.St} {H : Hp} {S : AS} {K : PySem.W.Frag} {tl : TE} {ns : List Int} (hl : DE tl σ H S (.lst (ns.map Dt.int))) (hne : ns ≠ []) : DE (tCB (rMin K) (tCons tl tNil)) σ H S (.int (minL ns)) := fun H1 S1 Q y q =>
  hl H1 S1 _ y fun v H2 k o => by
    obtain ⟨a, ys, rfl, ea, na, oa⟩ := o.lst_inv
    have e := oa.ints
    subst e
    refine ⟨a, ns, rfl, SqL.of ea, List.length_pos_iff.mpr hne, fun m hm hle => ?_⟩
    rw [minL_of hm hle]
    exact q _ _ k (.int _)
theorem D_fn {sp : Sp} {E : XK} {ta : TA} {σ : L2.St} {H : Hp} {S : AS} {ds : List Dt} {d : Dt} (ha : DA ta σ H S ds) (h : ∀ H1 S1 vs (Q : VK), Lift H S H1 S1 → Ocs H1 S1 vs ds → (∀ v H2, Same H1 H2 → Oc H2 S1 v d → Q v H2) → sp vs H1 Q E) : DE (tCall sp [] E ta) σ H S d := fun H1 S1 Q x q =>
  ha H1 S1 _ x fun vs H2 k o => by
    show sp (vs ++ []) H2 Q E
    rw [List.append_nil]
    exact h H2 S1 vs Q (x.then k) o fun v H3 k3 o3 => q _ _ (k.trans k3) o3
theorem Ocs.one {H : Hp} {S : AS} {vs : List V} {d : Dt} (h : Ocs H S vs [d]) : ∃ v, vs = [v] ∧ Oc H S v d := by
  cases h with
  | cons h t => cases t; exact ⟨_, rfl, h⟩
theorem Ocs.two {H : Hp} {S : AS} {vs : List V} {d e : Dt} (h : Ocs H S vs [d, e]) : ∃ v u, vs = [v, u] ∧ Oc H S v d ∧ Oc H S u e := by
  cases h with
  | cons h t =>
    obtain ⟨u, rfl, o⟩ := t.one
    exact ⟨_, _, rfl, h, o⟩
theorem Ocs.three {H : Hp} {S : AS} {vs : List V} {d e f : Dt} (h : Ocs H S vs [d, e, f]) : ∃ v u x, vs = [v, u, x] ∧ Oc H S v d ∧ Oc H S u e ∧ Oc H S x f := by
  cases h with
  | cons h t =>
    obtain ⟨u, x, rfl, o, p⟩ := t.two
    exact ⟨_, _, _, rfl, h, o, p⟩
theorem le_maxL {ns : List Int} {m : Int} (hm : m ∈ ns) : m ≤ maxL ns := by
  cases ns with
  | nil => cases hm
  | cons x r =>
    have key : ∀ (r : List Int) (x : Int), ∀ y ∈ x :: r, y ≤ r.foldl max x := by
      intro r
      induction r with
      | nil => intro x y hy; rw [List.mem_singleton.mp hy]; exact Int.le_refl _
      | cons z t ih =>
        intro x y hy
        have b := ih (max x z)
        rw [List.foldl_cons]
        have hb := b _ List.mem_cons_self
        rcases List.mem_cons.mp hy with rfl | hy
        · omega
        · rcases List.mem_cons.mp hy with rfl | hy
          · omega
          · exact b _ (List.mem_cons_of_mem _ hy)
    exact key r x m hm
theorem D_maxInts {σ : L2.St} {H : Hp} {S : AS} {K : PySem.W.Frag} {tl : TE} {ns : List Int} {m : Nat} (hl : DE tl σ H S (intT' ns)) (hm : maxL ns = m) (hne : ns ≠ [] := by first | assumption | (rintro rfl; simp_all)) : DE (tCB (rMaxT K) (tCons tl tNil)) σ H S (.int (m : Nat)) := fun H1 S1 Q y q =>
  hl H1 S1 _ y fun v H2 k o => by
    obtain ⟨a, ys, rfl, ea, na, oa⟩ := o.tup_inv
    have e := oa.ints
    subst e
    cases ns with
    | nil => exact absurd rfl hne
    | cons x r => exact ⟨a, x, r, rfl, ea.sq, q _ _ k (by rw [← hm]; exact .int _)⟩
theorem D_catL {σ : L2.St} {H : Hp} {S : AS} {ta tb : TE} {ds es : List Dt} (ha : DE ta σ H S (.lst ds)) (hb : DE tb σ H S (.lst es)) (hz : ds.length + es.length ≤ 1000000) : DE (tOp rCat ta tb) σ H S (.lst (ds ++ es)) := fun H1 S1 Q x q =>
  ha H1 S1 _ x fun v H2 k o => (hb.lift (x.then k)).go (Lv.same k x.live) fun u H3 k3 o3 => by
    obtain ⟨a, xs, rfl, ea, na, oa⟩ := o.lst_inv
    obtain ⟨b, ys, rfl, eb, nb, ob⟩ := o3.lst_inv
    have la := oa.len
    have lb := ob.len
    have oa' := oa.same k3
    refine ⟨a, b, xs, ys, rfl, rfl, k3 _ _ ea, eb, Nat.le_trans (show _ ≤ 1000000 by omega) (by decide), fun p hp => ?_⟩
    exact q _ _ ((k.trans k3).trans (same_upd hp)) (.lst upd_same (Lv.out (Lv.same k3 (Lv.same k x.live)) hp) ((oa'.append ob).same (same_upd hp)))
theorem fl_len {α : Type} (ds : List α) (f : α → List (List Int)) (m : Nat) (h : ∀ d ∈ ds, (f d).length ≤ m) : (ds.flatMap f).length ≤ ds.length * m := by
  induction ds with
  | nil => simp
  | cons d r ih =>
    have h1 := ih fun y hy => h y (List.mem_cons_of_mem _ hy)
    have h2 := h d List.mem_cons_self
    rw [List.flatMap_cons, List.length_append, List.length_cons, Nat.succ_mul]
    omega
theorem D_call {te : TE} {σ : L2.St} {H : Hp} {S : AS} {d : Dt} (h : ∀ (H1 : Hp) (S1 : AS) (Q : VK), Lift H S H1 S1 → (∀ v H2, Same H1 H2 → Oc H2 S1 v d → Q v H2) → te σ H1 Q) : DE te σ H S d := h
theorem S_setQ {te : TE} {i : Nat} {σ : L2.St} {H : Hp} {u : TS} {D : Ends} (h : te σ H fun v H2 => u D (σ.set i (some v)) H2) : tSeq (tAsg te (gName i)) u D σ H := h
/-- >= of data -/
def rGeD (K : PySem.W.Frag) : R2 := fun x y H Q => ∃ d e, Dp K H x d ∧ Dp K H y e ∧ alike d e = true ∧ d ≠ .none ∧ min d.depth e.depth ≤ 32 ∧ Q (.bl (!dataLt d e)) H
theorem op_geD {X : Cx} (K : PySem.W.Frag) (hu : X.A.units + 64 < cLine) (h : X.K = K := by rfl) : OpR X (compareOp .GtE) (rGeD K) := by
  subst h
  intro pins s σ H x y v u Q I rx ry h
  obtain ⟨d, e, hd, he, al, nn, dp, q⟩ := h
  obtain ⟨as, r1⟩ := Dp.reads I d x v hd rx
  obtain ⟨bs, r2⟩ := Dp.reads I e y u he ry
  exact ge_data r1 r2 al nn (by omega) ⟨.bl _, H, I, rfl, q⟩
theorem op_inDK {X : Cx} (K : PySem.W.Frag) (hu : X.A.units + 65 < cLine) (h : X.K = K := by rfl) : OpR X (compareOp .In) (rInD K) := h ▸ op_inD hu
theorem any_rows (a : List Int) : ∀ rows : List (List Int), ((rows.map intP).any fun z => PyData.eqv z (intP a)) = decide (a ∈ rows)
  | [] => rfl
  | r :: t => by
    rw [List.map_cons, List.any_cons, any_rows a t, eqv_rows]
    by_cases h : r = a
    · subst h; simp
    · have h2 : ¬ a = r := fun z => h z.symm
      simp [h, h2]
theorem shaped_rows (rows : List (List Int)) : SeqAt.shaped (.list (rows.map intP)) = true := by
  unfold SeqAt.shaped
  have e : PyData.canLayAll0 (rows.map intP) = true := by
    induction rows with
    | nil => rfl
    | cons x r ih =>
      rw [List.map_cons, PyData.canLayAll0, ih]
      have h := shaped_row x
      unfold SeqAt.shaped at h
      rw [Bool.and_eq_true] at h
      rw [h.1]; rfl
  have d := depth_rows rows
  rw [PyData.canLay0, e, PyData.depth, Bool.true_and, decide_eq_true_eq]
  omega
theorem T_inRows {σ : L2.St} {H : Hp} {S : AS} {K : PySem.W.Frag} {ta tb : TE} {a : List Int} {rows : List (List Int)} (ha : DE ta σ H S (intT' a)) (hb : DE tb σ H S (.lst (rows.map intT'))) : DT (tTest (tOp (rInD K) ta tb)) σ H S (decide (a ∈ rows)) := fun H1 S1 Q x q =>
  ha H1 S1 _ x fun v H2 k o => (hb.lift (x.then k)).go (Lv.same k x.live) fun u H3 k3 o3 => by
    have e1 := (o.same k3).dp (K := K)
    rw [pd_intT] at e1
    obtain ⟨b, ys, rfl, eb, nb, ob⟩ := o3.lst_inv
    refine ⟨intP a, rows.map intP, e1, .lst (SqL.of eb) (ocs_rows_dp ob), shaped_row a, shaped_rows rows, _, rfl, ?_⟩
    rw [any_rows]
    exact q _ (k.trans k3)
theorem units65 {k : Nat} {A : Around} (r : Room k A) : A.units + 65 < cLine := by have := r.un; omega
theorem eqv_lrows : ∀ a b : List (List Int), PyData.eqvAll (a.map intP) (b.map intP) = decide (a = b)
  | [], [] => by decide
  | [], y :: t => by simp [PyData.eqvAll]
  | x :: r, [] => by simp [PyData.eqvAll]
  | x :: r, y :: t => by
    rw [List.map_cons, List.map_cons, eqv_all_cons, eqv_lrows r t, eqv_rows]
    by_cases h : x = y
    · subst h; simp
    · simp [h]
theorem eqv_lists (a b : List (List Int)) : PyData.eqv (.list (a.map intP)) (.list (b.map intP)) = decide (a = b) := by rw [PyData.eqv, eqv_lrows]
theorem Oc.rows_dp {H : Hp} {S : AS} {K : PySem.W.Frag} {v : V} {rows : List (List Int)} (h : Oc H S v (.lst (rows.map intT'))) : Dp K H v (.list (rows.map intP)) := by
  obtain ⟨a, xs, rfl, ea, na, oa⟩ := h.lst_inv
  exact .lst (SqL.of ea) (ocs_rows_dp oa)
theorem D_eqL {σ : L2.St} {H : Hp} {S : AS} {K : PySem.W.Frag} {ta tb : TE} {a b : List (List Int)} (ha : DE ta σ H S (.lst (a.map intT'))) (hb : DE tb σ H S (.lst (b.map intT'))) : DE (tOp (rEqD K) ta tb) σ H S (.bl (decide (a = b))) := fun H1 S1 Q x q =>
  ha H1 S1 _ x fun v H2 k o => (hb.lift (x.then k)).go (Lv.same k x.live) fun u H3 k3 o3 => by
    refine ⟨_, _, (o.same k3).rows_dp, o3.rows_dp, shaped_rows a, shaped_rows b, ?_⟩
    rw [eqv_lists]
    exact q _ _ (k.trans k3) (.bl _)
theorem T_neRow {σ : L2.St} {H : Hp} {S : AS} {K : PySem.W.Frag} {ta tb : TE} {a b : List Int} (ha : DE ta σ H S (intT' a)) (hb : DE tb σ H S (intT' b)) : DT (tTest (tOp (rNeD K) ta tb)) σ H S (!decide (a = b)) := fun H1 S1 Q x q =>
  ha H1 S1 _ x fun v H2 k o => (hb.lift (x.then k)).go (Lv.same k x.live) fun u H3 k3 o3 => by
    have e1 := (o.same k3).dp (K := K)
    have e2 := o3.dp (K := K)
    rw [pd_intT] at e1 e2
    refine ⟨_, _, e1, e2, shaped_row a, shaped_row b, _, rfl, ?_⟩
    rw [eqv_rows]
    exact q _ (k.trans k3)
theorem DT.go {tt : TT} {σ : L2.St} {H : Hp} {S : AS} {b : Bool} {Q : Bool → Hp → Prop} (h : DT tt σ H S b) (l : Lv H S) (q : ∀ H2, Same H H2 → Q b H2) : tt σ H Q := h H S Q (Lift.refl l) q
theorem T_geRow {σ : L2.St} {H : Hp} {S : AS} {K : PySem.W.Frag} {ta tb : TE} {a b : List Int} (ha : DE ta σ H S (intT' a)) (hb : DE tb σ H S (intT' b)) : DT (tTest (tOp (rGeD K) ta tb)) σ H S (!ltI a b) := fun H1 S1 Q x q =>
  ha H1 S1 _ x fun v H2 k o => (hb.lift (x.then k)).go (Lv.same k x.live) fun u H3 k3 o3 => by
    have e1 := (o.same k3).dp (K := K)
    have e2 := o3.dp (K := K)
    rw [pd_intT] at e1 e2
    refine ⟨_, _, e1, e2, (alike_rows [a, b]).1 _ (by simp) _ (by simp), fun z => (by unfold intP at z; exact nomatch z), ?_, _, rfl, ?_⟩
    · have h2 : PyData.depth (intP a) = 1 := by unfold intP; rw [PyData.depth, depth_ints]
      omega
    · rw [lt_rows]
      exact q _ (k.trans k3)
theorem S_set {te : TE} {i : Nat} {σ : L2.St} {H : Hp} {S : AS} {d : Dt} {u : TS} {D : Ends} (h : DE te σ H S d) (lv : Lv H S) (k : ∀ v H2, Same H H2 → Oc H2 S v d → u D (σ.set i (some v)) H2) : tSeq (tAsg te (gName i)) u D σ H := h.go lv k
theorem S_set1 {te : TE} {i : Nat} {σ : L2.St} {H : Hp} {S : AS} {d : Dt} {D : Ends} (h : DE te σ H S d) (lv : Lv H S) (k : ∀ v H2, Same H H2 → Oc H2 S v d → D.nx (σ.set i (some v)) H2) : tAsg te (gName i) D σ H := h.go lv k
theorem S_ret {te : TE} {σ : L2.St} {H : Hp} {S : AS} {d : Dt} {D : Ends} (h : DE te σ H S d) (lv : Lv H S) (k : ∀ v H2, Same H H2 → Oc H2 S v d → D.rt v H2) : tRet te D σ H := h.go lv k
/-- i not in (a tuple of ints) -/
theorem inV_ints (i : Int) : ∀ ns : List Int, inV (.int i) (ns.map V.int) = decide (i ∈ ns)
  | [] => rfl
  | n :: r => by
    have ih := inV_ints i r
    unfold inV at ih ⊢
    rw [List.map_cons, List.any_cons, ih]
    show ((n == i) || decide (i ∈ r)) = decide (i ∈ n :: r)
    by_cases e : n = i
    · subst e; simp
    · have e2 : (n == i) = false := beq_eq_false_iff_ne.mpr e
      have e3 : ¬ i = n := fun z => e z.symm
      rw [e2, Bool.false_or]
      simp [e3]
theorem flat_ints : ∀ ns : List Int, (ns.map V.int).all flatV = true
  | [] => rfl
  | n :: r => by rw [List.map_cons, List.all_cons, flat_ints r]; rfl
theorem T_nin {σ : L2.St} {H : Hp} {S : AS} {K : PySem.W.Frag} {ta tb : TE} {i : Int} {ns : List Int} (ha : DE ta σ H S (.int i)) (hb : DE tb σ H S (intT' ns)) : DT (tTest (tOp (rIn K true) ta tb)) σ H S (!decide (i ∈ ns)) := fun H1 S1 Q x q =>
  ha H1 S1 _ x fun v H2 k o => (hb.lift (x.then k)).go (Lv.same k x.live) fun u H3 k3 o3 => by
    have e := o.int_inv
    subst e
    obtain ⟨a, xs, rfl, ea, na, oa⟩ := o3.tup_inv
    have ex := oa.ints
    subst ex
    refine ⟨a, _, rfl, .inr ea.sq, rfl, flat_ints ns, _, rfl, ?_⟩
    have e : (if true = true then !inV (V.int i) (ns.map V.int) else inV (V.int i) (ns.map V.int)) = !decide (i ∈ ns) := by
      rw [if_pos rfl, inV_ints]
    rw [e]
    exact q _ (k.trans k3)
/-- t[i] -/
theorem D_ixT {σ : L2.St} {H : Hp} {S : AS} {K : PySem.W.Frag} {ta tb : TE} {ds : List Dt} {z : Bool} {i : Nat} {d : Dt} (ha : DE ta σ H S (.tup z ds)) (hb : DE tb σ H S (.int (i : Nat))) (hd : ds[i]? = some d) : DE (tOp (rIxT K) ta tb) σ H S d := fun H1 S1 Q x q =>
  ha H1 S1 _ x fun v H2 k o => (hb.lift (x.then k)).go (Lv.same k x.live) fun u H3 k3 o3 => by
    have e := o3.int_inv
    subst e
    obtain ⟨a, xs, rfl, ea, na, oa⟩ := (o.same k3).tup_inv
    obtain ⟨w, hw, ow⟩ := oa.at hd
    exact ⟨a, xs, _, w, rfl, rfl, ea.sq, atI_nat hw, q _ _ (k.trans k3) ow⟩
theorem D_ixL {σ : L2.St} {H : Hp} {S : AS} {K : PySem.W.Frag} {ta tb : TE} {ds : List Dt} {i : Nat} {d : Dt} (ha : DE ta σ H S (.lst ds)) (hb : DE tb σ H S (.int (i : Nat))) (hd : ds[i]? = some d) : DE (tOp (rIxL K) ta tb) σ H S d := fun H1 S1 Q x q =>
  ha H1 S1 _ x fun v H2 k o => (hb.lift (x.then k)).go (Lv.same k x.live) fun u H3 k3 o3 => by
    have e := o3.int_inv
    subst e
    obtain ⟨a, xs, rfl, ea, na, oa⟩ := (o.same k3).lst_inv
    obtain ⟨w, hw, ow⟩ := oa.at hd
    exact ⟨a, xs, _, w, rfl, rfl, SqL.of ea, atI_nat hw, q _ _ (k.trans k3) ow⟩
end Lc
namespace Lc
open PySem PySem.Spec PyProof.Rows L2 RZ PySem.W
/-! ### ints, each once, ascending -/
def insU (x : Int) : List Int → List Int
  | [] => [x]
  | y :: r => if x < y then x :: y :: r else if x = y then y :: r else y :: insU x r
def sortU (xs : List Int) : List Int := xs.foldr insU []
theorem mem_insU {x k : Int} : ∀ {r : List Int}, k ∈ insU x r ↔ k = x ∨ k ∈ r
  | [] => by simp [insU]
  | y :: r => by
    unfold insU
    split
    · simp
    · split
      · rename_i h; subst h; simp
      · rw [List.mem_cons, mem_insU, List.mem_cons]
        constructor
        · rintro (h | h | h)
          · exact .inr (.inl h)
          · exact .inl h
          · exact .inr (.inr h)
        · rintro (h | h | h)
          · exact .inr (.inl h)
          · exact .inl h
          · exact .inr (.inr h)
theorem mem_sortU {k : Int} : ∀ {xs : List Int}, k ∈ sortU xs ↔ k ∈ xs
  | [] => by simp [sortU]
  | x :: r => by
    show k ∈ insU x (sortU r) ↔ _
    rw [mem_insU, mem_sortU, List.mem_cons]
theorem pw_insU {x : Int} : ∀ {r : List Int}, r.Pairwise (· < ·) → (insU x r).Pairwise (· < ·)
  | [], _ => by simp [insU]
  | y :: r, h => by
    obtain ⟨h1, h2⟩ := List.pairwise_cons.mp h
    unfold insU
    split
    · rename_i lt
      refine List.pairwise_cons.mpr ⟨fun z hz => ?_, h⟩
      rcases List.mem_cons.mp hz with rfl | hz
      · exact lt
      · exact Int.lt_trans lt (h1 z hz)
    · split
      · exact h
      · refine List.pairwise_cons.mpr ⟨fun z hz => ?_, pw_insU h2⟩
        rcases mem_insU.mp hz with rfl | hz
        · omega
        · exact h1 z hz
theorem pw_sortU : ∀ xs : List Int, (sortU xs).Pairwise (· < ·)
  | [] => List.Pairwise.nil
  | x :: r => pw_insU (pw_sortU r)
theorem insU_len (x : Int) : ∀ r : List Int, (insU x r).length ≤ r.length + 1
  | [] => by simp [insU]
  | y :: r => by
    unfold insU
    split
    · simp
    · split
      · simp
      · have := insU_len x r
        simp only [List.length_cons]; omega
theorem sortU_len : ∀ xs : List Int, (sortU xs).length ≤ xs.length
  | [] => Nat.le_refl _
  | x :: r => by
    have h1 := insU_len x (sortU r)
    have h2 := sortU_len r
    show (insU x (sortU r)).length ≤ _
    rw [List.length_cons]; omega
theorem fl_len2 {α β : Type} (ds : List α) (f : α → List β) (m : Nat) (h : ∀ d ∈ ds, (f d).length ≤ m) : (ds.flatMap f).length ≤ ds.length * m := by
  induction ds with
  | nil => simp
  | cons d r ih =>
    have h1 := ih fun y hy => h y (List.mem_cons_of_mem _ hy)
    have h2 := h d List.mem_cons_self
    rw [List.flatMap_cons, List.length_append, List.length_cons, Nat.succ_mul]
    omega
theorem up_unique : ∀ {a b : List Int}, a.Pairwise (· < ·) → b.Pairwise (· < ·) → (∀ k, k ∈ a ↔ k ∈ b) → a = b
  | [], [], _, _, _ => rfl
  | [], y :: t, _, _, h => absurd ((h y).mpr List.mem_cons_self) (by simp)
  | x :: r, [], _, _, h => absurd ((h x).mp List.mem_cons_self) (by simp)
  | x :: r, y :: t, ha, hb, h => by
    obtain ⟨a1, a2⟩ := List.pairwise_cons.mp ha
    obtain ⟨b1, b2⟩ := List.pairwise_cons.mp hb
    have e : x = y := by
      rcases List.mem_cons.mp ((h x).mp List.mem_cons_self) with e | e
      · exact e
      · rcases List.mem_cons.mp ((h y).mpr List.mem_cons_self) with e2 | e2
        · exact e2.symm
        · have := b1 x e
          have := a1 y e2
          omega
    subst e
    refine congrArg _ (up_unique a2 b2 fun k => ⟨fun hk => ?_, fun hk => ?_⟩)
    · rcases List.mem_cons.mp ((h k).mp (List.mem_cons_of_mem _ hk)) with rfl | e
      · exact absurd (a1 _ hk) (Int.lt_irrefl _)
      · exact e
    · rcases List.mem_cons.mp ((h k).mpr (List.mem_cons_of_mem _ hk)) with rfl | e
      · exact absurd (b1 _ hk) (Int.lt_irrefl _)
      · exact e
section
variable {σ : L2.St} {H : Hp} {S : AS} {K : PySem.W.Frag} {w : World}
/-- the members so far, at D -/
structure SetAt (w : World) (H2 : Hp) (D : Addr) (L : List Int) (H' : Hp) : Prop where
  same : Same H2 H'
  ex : ∃ n, H' D = some (SetO w D (fun k => decide (k ∈ L)) n) ∧ n ≤ L.length
theorem SetAt.nil {H2 : Hp} {D : Addr} (hD : H2 D = none) : SetAt w H2 D [] (upd H2 D (LcC.sO w D)) := ⟨same_upd hD, 0, by
  rw [upd_same]
  have e : (fun k : Int => decide (k ∈ ([] : List Int))) = fun _ => false := by funext k; simp
  rw [e], Nat.le_refl _⟩
theorem SetAt.lift {H2 H' : Hp} {D : Addr} {L : List Int} (l : Lv H2 S) (hD : H2 D = none) (m : SetAt w H2 D L H') : Lift H2 S H' (And1 S D) := by
  refine ⟨fun h => (h.add hD).same m.same, fun a ha z => ?_, fun a h => .inl h, m.same⟩
  rcases ha with ha | ha
  · exact Lv.same m.same l a ha z
  · obtain ⟨n, e, _⟩ := m.ex
    rw [ha, e] at z; cases z
theorem SetAt.step {H2 H' H4 : Hp} {D : Addr} {L : List Int} {k : Int} (hD : H2 D = none) (m : SetAt w H2 D L H') (s : Same H' H4) (hz : L.length ≤ 60) :
    ∃ (S : Int → Bool) (n : Nat), H4 D = some (SetO w D S n) ∧ n + 1 < scanBound ∧ SetAt w H2 D (L ++ [k]) (upd H4 D (SetO w D (fun j => S j || decide (j = k)) (if S k = true then n else n + 1))) := by
  obtain ⟨n, e, hn⟩ := m.ex
  refine ⟨_, n, s _ _ e, by unfold scanBound; omega, fun b o hb => ?_, (if decide (k ∈ L) = true then n else n + 1), ?_, ?_⟩
  · rw [upd_ne (ne_of_none hb hD)]
    exact s _ _ (m.same _ _ hb)
  · rw [upd_same]
    have e2 : (fun j : Int => decide (j ∈ L) || decide (j = k)) = fun j => decide (j ∈ L ++ [k]) := by funext j; simp
    rw [e2]
  · rw [List.length_append]; show _ ≤ L.length + 1; split <;> omega
theorem D_sortSc2 {i0 i1 ic : Nat} {te tn : TE} {cs : List Int} {n : Int → Nat} {f : Int → Nat → Int} {v : V} (hv : σ[ic]? = some (some v)) (ov : Oc H S v (intT' cs)) (h3 : cs.length ≤ 3) (hn5 : ∀ c ∈ cs, n c ≤ 5)
    (hw : ∀ v : V, wipe ((wipe σ [i0, i1]).set i0 (some v)) [i0, i1] = wipe σ [i0, i1]) (hw2 : ∀ v u : V, wipe ((wipe ((wipe σ [i0, i1]).set i0 (some v)) [i1]).set i1 (some u)) [i1] = wipe ((wipe σ [i0, i1]).set i0 (some v)) [i1])
    (hn : ∀ c H1 S1, c ∈ cs → Lift H S H1 S1 → DE tn ((wipe σ [i0, i1]).set i0 (some (.int c))) H1 S1 (.int (n c : Nat)))
    (hs : ∀ c (j : Nat) H1 S1, c ∈ cs → j < n c → Lift H S H1 S1 → DE te ((wipe ((wipe σ [i0, i1]).set i0 (some (.int c))) [i1]).set i1 (some (.int (j : Nat)))) H1 S1 (.int (f c j))) :
    DE (tCB (rSortedSet w) (tCons (LcC.tSc2 w (iTup K (tVar ic)) (gName i0) tYes (iRng1 (tCons tn tNil)) (gName i1) tYes te [i0, i1] [i1]) tNil)) σ H S
      (.lst ((sortU (cs.flatMap fun c => (List.range (n c)).map fun j => f c j)).map Dt.int)) := fun H1 S1 Q x q => by
  obtain ⟨a, xs, rfl, ea, na, oa⟩ := (x.ob ov).tup_inv
  have e := oa.ints
  subst e
  refine ⟨_, hv, a, rfl, ⟨_, ea.sq⟩, fun D hD => ?_⟩
  let F : Int → List Int := fun c => (List.range (n c)).map fun j => f c j
  have lenF : ∀ i, i ≤ cs.length → ((cs.take i).flatMap F).length ≤ i * 5 := by
    intro i
    induction i with
    | zero => intro _; simp
    | succ i ih =>
      intro hi
      have hg : cs[i]? = some cs[i] := List.getElem?_eq_getElem (by omega)
      have h5 := hn5 _ (List.mem_of_getElem? hg)
      rw [List.take_add_one, hg, List.flatMap_append, List.length_append]
      have := ih (by omega)
      have l1 : ((some cs[i]).toList.flatMap F).length = n cs[i] := by simp [F]
      omega
  refine ⟨fun i m H' => m = cs.length - i ∧ i ≤ cs.length ∧ SetAt w H1 D ((cs.take i).flatMap F) H', ⟨_, rfl, Nat.zero_le _, SetAt.nil hD⟩, ?_⟩
  rintro i m H2 ⟨rfl, hi, st⟩
  by_cases lt : i < cs.length
  · have hg : cs[i]? = some cs[i] := List.getElem?_eq_getElem lt
    have cm := List.mem_of_getElem? hg
    have c5 := hn5 _ cm
    refine .inr ⟨⟨_, .int cs[i], (ea.same st.same).sq, by rw [List.getElem?_map, hg]; rfl⟩, fun H3 => SetAt w H1 D ((cs.take (i + 1)).flatMap F) H3, fun H3 h => ⟨_, by omega, rfl, lt, h⟩, ?_⟩
    rintro y H3 ⟨rfl, fy⟩
    have ey := fy _ (ea.same st.same).sq
    rw [List.getElem?_map, hg] at ey
    have ey := Option.some.inj ey
    subst ey
    have lf := x.trans (st.lift x.live hD)
    refine ⟨hw _, (hn _ _ _ cm lf).go lf.live fun u H4 k4 o4 => ?_⟩
    have eu := o4.int_inv
    subst eu
    refine ⟨_, rfl, by omega, by omega, ?_⟩
    rw [Int.toNat_natCast]
    refine ⟨fun j k H' => k = n cs[i] - j ∧ j ≤ n cs[i] ∧ SetAt w H1 D ((cs.take i).flatMap F ++ (List.range j).map fun j => f cs[i] j) H', ⟨_, rfl, Nat.zero_le _, ?_⟩, ?_⟩
    · obtain ⟨m, e, hm⟩ := st.ex
      refine ⟨st.same.trans k4, m, ?_, ?_⟩
      · simpa using k4 _ _ e
      · simpa using hm
    rintro j kk H5 ⟨rfl, hj, st5⟩
    by_cases jl : j < n cs[i]
    · refine .inr ⟨jl, fun H6 => SetAt w H1 D ((cs.take i).flatMap F ++ (List.range (j + 1)).map fun j => f cs[i] j) H6, fun H6 h6 => ⟨_, by omega, rfl, jl, h6⟩, ?_⟩
      rintro y H6 ⟨rfl, rfl⟩
      rw [Int.zero_add]
      have lf5 := x.trans (st5.lift x.live hD)
      refine ⟨hw2 _ _, (hs _ j _ _ cm jl lf5).go lf5.live fun u H7 k7 o7 => ?_⟩
      have eu := o7.int_inv
      subst eu
      have sz : ((cs.take i).flatMap F ++ (List.range j).map fun j => f cs[i] j).length ≤ 60 := by
        rw [List.length_append, List.length_map, List.length_range]
        have := lenF i (by omega)
        omega
      obtain ⟨S0, m, e1, e2, st6⟩ := st5.step (k := f cs[i] j) hD k7 sz
      refine ⟨_, S0, m, rfl, e1, e2, ?_⟩
      rw [List.range_succ, List.map_append, ← List.append_assoc]
      exact st6
    · have ej : j = n cs[i] := by omega
      subst ej
      refine .inl ⟨Nat.le_refl _, ?_⟩
      rw [List.take_add_one, hg, List.flatMap_append]
      simpa [F] using st5
  · have ei : i = cs.length := by omega
    subst ei
    rw [List.take_length] at st
    have l15 := lenF cs.length (Nat.le_refl _)
    rw [List.take_length] at l15
    obtain ⟨m, e, hm⟩ := st.ex
    refine .inl ⟨⟨_, (ea.same st.same).sq, by rw [List.length_map]; exact Nat.le_refl _⟩, D, _, m, rfl, e, by omega, fun ns p pw hmem hl hp => ?_⟩
    have en : ns = sortU (cs.flatMap F) := up_unique pw (pw_sortU _) fun k => by rw [hmem, mem_sortU]; simp
    subst en
    refine q _ _ (st.same.trans (same_upd hp)) (.lst upd_same (fun z => ?_) (ocs_ints _))
    exact Lv.same st.same x.live p z hp
/-! ### sorted data -/
def rSortD (K : PySem.W.Frag) : List V → Hp → VK → Prop := fun vs H Q => ∃ (a : Addr) (xs : List V) (ds : List PyData), vs = [.ref a] ∧ SqL K H a xs ∧ DpAll K H xs ds ∧ AllAlike ds ∧ Sortable ds ∧ (∀ d ∈ ds, d.depth ≤ 16) ∧
  ∀ p, H p = none → Q (.ref p) (upd H p (.lst (((xs.zip ds).mergeSort (dataLe false Prod.snd)).map Prod.fst)))
theorem dp_len {K : PySem.W.Frag} {H : Hp} : ∀ {vs : List V} {ds : List PyData}, DpAll K H vs ds → vs.length = ds.length
  | _, _, .nil => rfl
  | _, _, .cons _ t => congrArg Nat.succ (dp_len t)
theorem each_zip {X : Cx} {pins : List (Addr × Obj)} {σ : L2.St} {H : Hp} {s : Shared} (I : Inv X pins σ H s) : ∀ {vs : List V} {us : List Value} {ds : List PyData}, DpAll X.K H vs ds → Vals vs us → EachIs (fun u (p : V × PyData) => RelV p.1 u) us (vs.zip ds) ∧ EachIs (fun u (p : V × PyData) => ∃ as, Reads s.heap u p.2 as) us (vs.zip ds)
  | _, _, _, .nil, .nil => ⟨.nil, .nil⟩
  | _, _, _, .cons h t, .cons r rs => by
    obtain ⟨e1, e2⟩ := each_zip I t rs
    exact ⟨.cons r e1, .cons (Dp.reads I _ _ _ h r) e2⟩
theorem vals_each : ∀ {us : List Value} {ps : List (V × PyData)}, EachIs (fun u (p : V × PyData) => RelV p.1 u) us ps → Vals (ps.map Prod.fst) us
  | _, _, .nil => .nil
  | _, _, .cons r t => .cons r (vals_each t)
theorem cr_sortD {X : Cx} (K : PySem.W.Frag) (hu : X.A.units + 64 < cLine) (h : X.K = K := by rfl) : CallR X (.builtin "sorted") (rSortD K) := by
  subst h
  intro pins s σ H vs us Q I r h
  obtain ⟨a, xs, ds, rfl, hs, hd, al, so, dp, q⟩ := h
  obtain ⟨its, rv, pl, hz⟩ := I.list hs
  obtain ⟨e1, e2⟩ := each_zip I hd rv
  rw [Vals.ref1 r]
  have em : (xs.zip ds).map Prod.snd = ds := List.map_snd_zip (Nat.le_of_eq (dp_len hd).symm)
  have lz : (xs.zip ds).length = xs.length := by rw [List.length_zip, dp_len hd, Nat.min_self]
  refine sorted_data (enc := Prod.snd) pl.isList e1 e2 (by rw [em]; exact al) (by rw [em]; exact so) (by rw [lz]; exact hz) (fun b hb => ?_) fun out hl eo => ?_
  · have := dp b.2 (List.of_mem_zip hb).2
    omega
  · obtain ⟨ep, he'⟩ := PyProof.Rows.sortedAll_at s.heap its out.toArray
    refine ⟨.ref _, upd H (s.heap.objs.size + 1) (.lst (((xs.zip ds).mergeSort (dataLe false Prod.snd)).map Prod.fst)), I.laid (t' := s.toks) (fun _ _ => PyProof.Rows.sortedAll_old) (Nat.le_succ _) ⟨?_, out, ep, vals_each eo, he'⟩, rfl, q _ (I.hok.fresh (Nat.le_succ _))⟩
    rw [List.length_map, List.length_mergeSort, lz]; exact hz
end
def encD (q : List Int × Int) : Dt := .tup true [intT' q.1, .int q.2]
def encP (q : List Int × Int) : PyData := .tuple [intP q.1, .int q.2]
theorem pd_encD (q : List Int × Int) : pd (encD q) = encP q := by
  show PyData.tuple [pd (intT' q.1), .int q.2] = _
  rw [pd_intT]; rfl
theorem pairs_dp {K : PySem.W.Frag} {H : Hp} {S : AS} {xs : List V} {rows : List (List Int × Int)} (h : Ocs H S xs (rows.map encD)) : DpAll K H xs (rows.map encP) := by
  have := h.dp (K := K) (pl_of_map (fun q => by show Dt.plAll [intT' q.1, .int q.2] = true; rw [Dt.plAll, show (intT' q.1).pl = true from pl_ints _]; rfl) _)
  rw [pdAll_map, List.map_map] at this
  have e : (rows.map (pd ∘ encD)) = rows.map encP := List.map_congr_left fun x _ => pd_encD x
  rw [e] at this
  exact this
theorem depth_encP (q : List Int × Int) : (encP q).depth = 2 := by
  unfold encP
  have h2 : PyData.depth (intP q.1) = 1 := by unfold intP; rw [PyData.depth, depth_ints]
  simp [PyData.depth, PyData.depthAll, h2]
theorem alike_encP (p q : List Int × Int) : alike (encP p) (encP q) = true := by
  unfold encP
  have e : alike (intP p.1) (intP q.1) = true := by
    show alike (.tuple _) (.tuple _) = true
    rw [alike]; exact alike_ints _ _
  simp [alike, alikeAll, e]
theorem ocs_zip {H : Hp} {S : AS} (f : α → Dt) : ∀ {vs : List V} {rs : List α}, Ocs H S vs (rs.map f) → ∀ z ∈ vs.zip rs, Oc H S z.1 (f z.2)
  | _, [], .nil, z, hz => by simp at hz
  | _, r :: rs, .cons h t, z, hz => by
    rw [List.zip_cons_cons] at hz
    rcases List.mem_cons.mp hz with rfl | hz
    · exact h
    · exact ocs_zip f t z hz
theorem ocs_of {H : Hp} {S : AS} (f : α → Dt) : ∀ (l : List (V × α)), (∀ z ∈ l, Oc H S z.1 (f z.2)) → Ocs H S (l.map Prod.fst) (l.map fun z => f z.2)
  | [], _ => .nil
  | z :: r, h => .cons (h z List.mem_cons_self) (ocs_of f r fun y hy => h y (List.mem_cons_of_mem _ hy))
def sortP (rows : List (List Int × Int)) : List (List Int × Int) := rows.mergeSort (dataLe false encP)
section
variable {σ : L2.St} {H : Hp} {S : AS} {K : PySem.W.Frag}
theorem none_back {H H1 : Hp} {t : Addr} (k : Same H H1) (h : H1 t = none) : H t = none := by
  cases e : H t with
  | none => rfl
  | some o => rw [k _ _ e] at h; cases h
theorem D_sortPF {tl : TE} {rows : List (List Int × Int)} (hl : DE tl σ H S (.lst (rows.map encD))) (H1 : Hp) (S1 : AS) (Q : VK) (x : Lift H S H1 S1) (q : ∀ v H2, Same H1 H2 → Oc H2 S1 v (.lst ((sortP rows).map encD)) → (∀ a, v = .ref a → H1 a = none) → Q v H2) : (tCB (rSortD K) (tCons tl tNil)) σ H1 Q :=
  hl H1 S1 _ x fun v H2 k o => by
    obtain ⟨a, xs, rfl, ea, na, oa⟩ := o.lst_inv
    have len := oa.len
    rw [List.length_map] at len
    refine ⟨a, xs, rows.map encP, rfl, SqL.of ea, pairs_dp oa, fun d hd e he => ?_, Sortable.tuples fun b => ⟨_, _, rfl⟩, fun d hd => ?_, fun p hp => ?_⟩
    · obtain ⟨b, _, rfl⟩ := List.mem_map.mp hd
      obtain ⟨c, _, rfl⟩ := List.mem_map.mp he
      exact alike_encP b c
    · obtain ⟨b, _, rfl⟩ := List.mem_map.mp hd
      rw [depth_encP]; decide
    · refine q _ _ (k.trans (same_upd hp)) (.lst upd_same (Lv.out (Lv.same k x.live) hp) ?_) fun b eb => by cases eb; exact none_back k hp
      let le2 : V × (List Int × Int) → V × (List Int × Int) → Bool := dataLe false fun z => encP z.2
      have e1 : (xs.zip (rows.map encP)).mergeSort (dataLe false Prod.snd) = ((xs.zip rows).mergeSort le2).map fun z => (z.1, encP z.2) := by
        rw [List.zip_map_right, List.map_mergeSort (r := le2) (s := dataLe false Prod.snd) fun a _ b _ => rfl]
        rfl
      have e2 : sortP rows = ((xs.zip rows).mergeSort le2).map Prod.snd := by
        rw [List.map_mergeSort (r := le2) (s := dataLe false encP) fun a _ b _ => rfl, List.map_snd_zip (by omega)]
        rfl
      rw [e1, e2, List.map_map, List.map_map]
      refine (ocs_of encD _ fun z hz => ?_).same (same_upd hp)
      exact ocs_zip encD oa z ((List.mergeSort_perm _ _).mem_iff.mp hz)
theorem D_sortP {tl : TE} {rows : List (List Int × Int)} (hl : DE tl σ H S (.lst (rows.map encD))) : DE (tCB (rSortD K) (tCons tl tNil)) σ H S (.lst ((sortP rows).map encD)) := fun H1 S1 Q x q => D_sortPF hl H1 S1 Q x fun v H2 k o _ => q v H2 k o
theorem D_sortG {α : Type} {f : α → Dt} {enc : α → PyData} {tl : TE} {rows : List α} (hpl : ∀ a, (f a).pl = true := by first | (intro a; rfl) | (intro a; exact pl_ints _)) (hpd : ∀ a, pd (f a) = enc a) (hal : ∀ a b, alike (enc a) (enc b) = true) (hso : Sortable (rows.map enc)) (hdp : ∀ a, (enc a).depth ≤ 16) (hl : DE tl σ H S (.lst (rows.map f))) : DE (tCB (rSortD K) (tCons tl tNil)) σ H S (.lst ((rows.mergeSort (dataLe false enc)).map f)) := fun H1 S1 Q x q =>
  hl H1 S1 _ x fun v H2 k o => by
    obtain ⟨a, xs, rfl, ea, na, oa⟩ := o.lst_inv
    have len := oa.len
    rw [List.length_map] at len
    have dps : DpAll K H2 xs (rows.map enc) := by
      have := oa.dp (K := K) (pl_of_map hpl _)
      rw [pdAll_map, List.map_map] at this
      have e : (rows.map (pd ∘ f)) = rows.map enc := List.map_congr_left fun x _ => hpd x
      rw [e] at this
      exact this
    refine ⟨a, xs, rows.map enc, rfl, SqL.of ea, dps, fun d hd e he => ?_, hso, fun d hd => ?_, fun p hp => ?_⟩
    · obtain ⟨b, _, rfl⟩ := List.mem_map.mp hd
      obtain ⟨c, _, rfl⟩ := List.mem_map.mp he
      exact hal b c
    · obtain ⟨b, _, rfl⟩ := List.mem_map.mp hd
      exact hdp b
    · refine q _ _ (k.trans (same_upd hp)) (.lst upd_same (Lv.out (Lv.same k x.live) hp) ?_)
      let le2 : V × α → V × α → Bool := dataLe false fun z => enc z.2
      have e1 : (xs.zip (rows.map enc)).mergeSort (dataLe false Prod.snd) = ((xs.zip rows).mergeSort le2).map fun z => (z.1, enc z.2) := by
        rw [List.zip_map_right, List.map_mergeSort (r := le2) (s := dataLe false Prod.snd) fun a _ b _ => rfl]
        rfl
      have e2 : rows.mergeSort (dataLe false enc) = ((xs.zip rows).mergeSort le2).map Prod.snd := by
        rw [List.map_mergeSort (r := le2) (s := dataLe false enc) fun a _ b _ => rfl, List.map_snd_zip (by omega)]
      rw [e1, e2, List.map_map, List.map_map]
      refine (ocs_of f _ fun z hz => ?_).same (same_upd hp)
      exact ocs_zip f oa z ((List.mergeSort_perm _ _).mem_iff.mp hz)
/-- xs[1:] -/
theorem D_slice1 {ts : TE} {ds : List Dt} (hl : DE ts σ H S (.lst ds)) : DE (tSl (rSlL K) ts (tPart (tC (.int 1))) tNoPart) σ H S (.lst (ds.drop 1)) := fun H1 S1 Q x q =>
  hl H1 S1 _ x fun v H2 k o => by
    obtain ⟨a, xs, rfl, ea, na, oa⟩ := o.lst_inv
    refine ⟨1, rfl, a, xs, rfl, SqL.of ea, fun p hp => ?_⟩
    rw [cut1]
    refine q _ _ (k.trans (same_upd hp)) (.lst upd_same (Lv.out (Lv.same k x.live) hp) ?_)
    cases oa with
    | nil => exact .nil
    | cons h t => exact t.same (same_upd hp)
/-- [e for a, b in zip(xs, ys)] -/
theorem D_lcZ {i1 i2 : Nat} {ta tb te : TE} {ds es : List Dt} {f : Dt × Dt → Dt} (ha : DE ta σ H S (.lst ds)) (hb : DE tb σ H S (.lst es)) (hz : ds.length ≤ 999999) (hw : ∀ x y : V, wipe (((wipe σ [i1, i2]).set i1 (some x)).set i2 (some y)) [i1, i2] = wipe σ [i1, i2])
    (hs : ∀ v u d e H1 S1, (d, e) ∈ ds.zip es → Lift H S H1 S1 → Oc H1 S1 v d → Oc H1 S1 u e → DE te (((wipe σ [i1, i2]).set i1 (some v)).set i2 (some u)) H1 S1 (f (d, e))) :
    DE (tLc (iZipA K (tCons ta (tCons tb tNil))) (gTup K 2 (gCons (gName i1) (gCons (gName i2) gNil))) tYes te [i1, i2]) σ H S (.lst ((ds.zip es).map f)) := fun H1 S1 Q x q =>
  ha H1 S1 _ x fun va H2 k o => (hb.lift (x.then k)).go (Lv.same k x.live) fun vb H3 k3 o3 => by
    obtain ⟨a, xs, rfl, ea, na, oa⟩ := (o.same k3).lst_inv
    obtain ⟨b, ys, rfl, eb, nb, ob⟩ := o3.lst_inv
    have l1 := oa.len
    have l2 := ob.len
    have L3 := Lv.same k3 (Lv.same k x.live)
    have x3 := (x.then k).then k3
    refine ⟨a, b, xs, ys, rfl, .inl ⟨SqL.of ea, SqL.of eb, fun D hD => ?_⟩⟩
    have lz : (ds.zip es).length ≤ 999999 := by rw [List.length_zip]; omega
    refine ⟨fun i m H' => m = (ds.zip es).length - i ∧ i ≤ (ds.zip es).length ∧ Made H3 S1 D (((ds.zip es).take i).map f) H', ⟨_, rfl, Nat.zero_le _, Made.nil hD⟩, ?_⟩
    rintro i m H' ⟨rfl, hi, md⟩
    by_cases lt : i < (ds.zip es).length
    · have lt2 := lt
      rw [List.length_zip] at lt2
      have gx : xs[i]? = some xs[i] := List.getElem?_eq_getElem (by omega)
      have gy : ys[i]? = some ys[i] := List.getElem?_eq_getElem (by omega)
      obtain ⟨d, gd, od⟩ := oa.get gx
      obtain ⟨e', ge, oe⟩ := ob.get gy
      have gz : (ds.zip es)[i]? = some (d, e') := by rw [List.getElem?_zip_eq_some]; exact ⟨gd, ge⟩
      refine .inr ⟨⟨xs, ys, _, _, SqL.of (md.same _ _ ea), SqL.of (md.same _ _ eb), gx, gy⟩, fun H2 => Made H3 S1 D (((ds.zip es).take (i + 1)).map f) H2, fun H2 h2 => ⟨_, by omega, rfl, lt, h2⟩, ?_⟩
      rintro v H4 ⟨t, x', y', rfl, ht, rfl, fx, fy⟩
      have ex : x' = xs[i] := Option.some.inj ((fx _ (SqL.of (md.same _ _ ea))).symm.trans gx)
      have ey : y' = ys[i] := Option.some.inj ((fy _ (SqL.of (md.same _ _ eb))).symm.trans gy)
      subst ex; subst ey
      have kt := same_upd (o := .tup [xs[i], ys[i]]) ht
      have lf := (md.lift L3 hD).then kt
      refine ⟨t, _, rfl, SqT.of upd_same, rfl, _, _, rfl, _, _, rfl, rfl, ?_⟩
      refine ⟨hw _ _, (hs _ _ d e' _ _ (List.mem_of_getElem? gz) (x3.trans lf) (lf.ob od) (lf.ob oe)).go lf.live fun z H5 k5 o5 => ?_⟩
      obtain ⟨acc, e1, e2, m2⟩ := md.step hD (kt.trans k5) o5 (by rw [List.length_map]; have := List.length_take_le i (ds.zip es); have := List.length_take_le' i (ds.zip es); omega)
      refine ⟨acc, e1, e2, ?_⟩
      rw [List.take_add_one, gz, List.map_append]; exact m2
    · have ei : i = (ds.zip es).length := by omega
      subst ei
      rw [List.take_length] at md
      refine .inl ⟨⟨xs, ys, SqL.of (md.same _ _ ea), SqL.of (md.same _ _ eb), ?_⟩, q _ _ ((k.trans k3).trans md.same) (md.done L3 hD)⟩
      rw [List.length_zip]; omega
end
end Lc
namespace Lc
open PySem PySem.Spec PyProof.Rows L2 RZ PySem.W
/-! ### t[lo:hi] of a tuple that has no dict -/
section
variable {X : Cx}
def rSlF (K : PySem.W.Frag) : V → Option Int → Option Int → Hp → VK → Prop := fun x lo hi H Q => ∃ a xs, x = .ref a ∧ SqT K H a xs ∧
  (HT.sIx xs.length 0 lo = 0 ∧ HT.sIx xs.length xs.length hi = xs.length → Q (.ref a) H) ∧ (¬ (HT.sIx xs.length 0 lo = 0 ∧ HT.sIx xs.length xs.length hi = xs.length) → ∀ p H2, H p = none → Same H H2 → Tp H2 p true (cutV xs lo hi) → Q (.ref p) H2)
theorem sl_tupF : SlR X (rSlF X.K) := by
  intro pins s σ H x v vl vu lo hi sl Q I rx hs pl pu h
  obtain ⟨a, xs, rfl, hx, q1, q2⟩ := h
  by_cases hw : HT.sIx xs.length 0 lo = 0 ∧ HT.sIx xs.length xs.length hi = xs.length
  · exact sl_tupA pins s σ H _ v vl vu lo hi sl Q I rx hs pl pu ⟨a, xs, rfl, hx, q1, fun n => absurd hw n⟩
  · cases rx
    obtain ⟨its, r, ht, hz⟩ := I.tuple hx
    have hlen : its.toArray.size = xs.length := by rw [List.size_toArray]; exact r.length.symm
    refine ⟨"tuple", _, PyProof.Rows.slot_tuple_getitem.lookup, ht.typeIs, ?_⟩
    refine HT.getItem_tuple_cut ht hs pl pu (by rw [hlen]; exact hw) ?_ (by rw [hlen]; exact hz)
    rw [hlen]
    have hf : H s.heap.objs.size = none := I.hok.fresh (Nat.le_refl _)
    refine ⟨.ref s.heap.objs.size, _, I.laid (t' := s.toks) (o := .frz { cls := .type "tuple", data := .seq ((its.drop (HT.sIx xs.length 0 lo)).take (HT.sIx xs.length xs.length hi - HT.sIx xs.length 0 lo)).toArray } (.tup (cutV xs lo hi))) (fun b ob q => Heap.get?_push_of_some _ q) (Nat.le_refl _) ?_, rfl, q2 hw _ _ hf (same_upd hf) (.bare rfl rfl upd_same)⟩
    exact ⟨Heap.get?_push_size _ rfl, Nat.le_trans (cutV_length xs lo hi) hz, _, (r.drop (HT.sIx xs.length 0 lo)).take (HT.sIx xs.length xs.length hi - HT.sIx xs.length 0 lo), IsTup.new _ _⟩
theorem sl_tupFK (K : PySem.W.Frag) (h : X.K = K := by rfl) : SlR X (rSlF K) := h ▸ sl_tupF
end
/-! ### enumerate(a tuple) -/
section
variable {prog : Program} {w : World} {A : Around} {E : Value → Shared → Prop} {s : Shared}
theorem wpAny_pyNext_enum_endT {e it t : Addr} {i : Nat} {c : Int} {items : Array Value} {old : Value} {Q : Option Value → Shared → Prop} (hh : A.handled = none) (hai : t ≠ it) (he : IsEnum s.heap e it c old) (hit : s.heap.IsTupleIter it t i) (ht : s.heap.IsTuple t items) (hx : items[i]? = none)
    (hQ : ∀ h', Heap.ExtBut it s.heap h' → Q none { s with heap := h' }) : wpAny (model prog w) A (pyNext (.ref e)) Q E s := by
  have hT : s.TypeIs (.ref e) "enumerate" := ⟨_, he, rfl⟩
  unfold pyNext
  refine wpAny_bind (wpAny_attempt (wpAny_callSpecial?_slot (name := Str.ofString "__next__") hT F.slot_enumerate_next
    (wpAny_call_entry F.slot_enumerate_next hT F.entry_enumerate_next ?_ (F.args_enumerate_next_1 _))))
  show wpAny _ _ (field (.ref e) 2 >>= _) _ _ _
  refine wpAny_bind (wpAny_field he rfl (x := .ref it) rfl ?_)
  refine wpAny_bind (wpAny_nextOf_tuple_end (by exact hh) hit ht hx fun h' x he' hx' => ?_)
  obtain ⟨o, ho, hc⟩ := hx'
  refine wpAny_bind (wpAny_isInstance (T := "StopIteration") (b := true) ⟨o, ho, hc⟩ isSubtype_stop ?_)
  exact wpAny_pure (hQ _ he')
theorem meets_enumerate_newT {v : Value} {o : Obj} {H : Heap → Prop} (B : Begins v o H) :
    Meets (Builtin.«enumerate.__new__» ⟨[.type "enumerate", v], []⟩) (fun _ R s => H s.heap ∧
      R (.ok (.ret (.ref (s.heap.push o).objs.size))) { s with heap := (s.heap.push o).push { cls := .type "enumerate", data := .fields #[.none, .bool false, .ref s.heap.objs.size, rawInt 0, .none, .none] } }) :=
  .of_wp fun prog w A R s h => by
    obtain ⟨hp, g, d, tk, os⟩ := s; obtain ⟨h1, h⟩ := h
    have hsub := sub_enumerate
    have q1 : ∀ {A' : Around} {E : Value → Shared → Prop} {Q : Value → Shared → Prop}, Q (.ref hp.objs.size) ⟨hp.push o, g, d, tk, os⟩ → wpAny (model prog w) A' (pyIter v) Q E ⟨hp, g, d, tk, os⟩ :=
      fun q => B.iter prog w _ _ ⟨hp, g, d, tk, os⟩ _ h1 q
    wp_walk using q1
    refine wpAny_stack_any fun st => wpAny_pure ?_
    split
    · rename_i c _ _ _ _ _
      cases (c == Value.type "enumerate")
      · wp_walk using q1
        exact ⟨_, rfl, h⟩
      · wp_walk using q1
        exact ⟨_, rfl, h⟩
    · wp_walk using q1
      exact ⟨_, rfl, h⟩
theorem enum_begins1 {v : Value} {o : Obj} {H : Heap → Prop} {Q : Value → Shared → Prop} (B : Begins v o H) (h1 : H s.heap)
    (h : ∀ h', IsEnum h' (s.heap.objs.size + 1) s.heap.objs.size 0 .none → h'.get? s.heap.objs.size = some o → h'.objs.size = s.heap.objs.size + 2 →
      (∀ b o, s.heap.get? b = some o → h'.get? b = some o) → Q (.ref (s.heap.objs.size + 1)) { s with heap := h' }) :
    wpAny (model prog w) A (call (.type "enumerate") [v]) Q E s := by
  refine callType_new F.called_enumerate (by decide) (F.typeCall_enumerate_1 _) (F.newCall_enumerate_1 _) (fun obj => F.args_object_init_2 obj _) F.entry_enumerate_new
    (meets_enumerate_newT B) ⟨h1, ?_⟩
  have hz : (s.heap.push o).objs.size = s.heap.objs.size + 1 := Heap.size_push ..
  show _ ∧ _
  rw [hz]
  have he : IsEnum ((s.heap.push o).push { cls := .type "enumerate", data := .fields #[.none, .bool false, .ref s.heap.objs.size, rawInt 0, .none, .none] }) (s.heap.objs.size + 1) s.heap.objs.size 0 .none := by
    have := Heap.get?_push_size (s.heap.push o) (o := { cls := .type "enumerate", data := .fields #[.none, .bool false, .ref s.heap.objs.size, rawInt 0, .none, .none] }) rfl
    rw [hz] at this; exact this
  refine ⟨⟨_, he, rfl⟩, h _ he (Heap.get?_push_of_some _ (Heap.get?_push_size _ B.free)) (by rw [Heap.size_push, hz]) fun b o x => Heap.get?_push_of_some _ (Heap.get?_push_of_some _ x)⟩
end
def IteT (K : PySem.W.Frag) (a : Addr) : It :=
  ⟨fun i H => ∃ (xs : List V) (x : V), SqT K H a xs ∧ xs[i]? = some x, fun i H v H' => ∃ T x, v = .ref T ∧ H T = none ∧ H' = upd H T (.tup [.int (i : Nat), x]) ∧ ∀ xs, SqT K H a xs → xs[i]? = some x, fun i H => ∃ xs : List V, SqT K H a xs ∧ xs.length ≤ i⟩
theorem turn_enumT {P : Program} {w : World} {K : PySem.W.Frag} {elts : List Expr} {kk : Nat} {tpos : Pos} (a e it : Addr) (hai : a ≠ it) (hae : a ≠ e) :
    Turn P w K (.Tuple elts kk tpos) (IteT K a) [e, it] e (fun i h => (∃ old, IsEnum h e it ((i : Nat) : Int) old) ∧ h.IsTupleIter it a i ∧ e ≠ it) where
  mem := by simp
  obj := fun i h st b hb => by
    obtain ⟨⟨old, he⟩, ⟨o, ho, hc, hd⟩, _⟩ := st
    have e' : b = e ∨ b = it := by simpa using hb
    rcases e' with z | z
    · rw [z]; exact ⟨_, he, fun v q => nomatch q⟩
    · rw [z]; exact ⟨o, ho, fun v q => by rw [hd] at q; cases q⟩
  keep := fun i h h' st k => let ⟨⟨old, he⟩, hi, hne⟩ := st; ⟨⟨old, k e (by simp) _ he⟩, hi.at fun o q => k it (by simp) o q, hne⟩
  item := by
    intro X hP hw hK hc i pins s σ H E I hf st hg
    subst hP hw hK
    obtain ⟨⟨old, he⟩, hit, hne⟩ := st
    obtain ⟨xs, x, hq, hx⟩ := hg
    obtain ⟨its, rv, p, hz⟩ := I.tuple hq
    obtain ⟨u, hu, ru⟩ := rv.get hx
    have hel : e < s.heap.objs.size := Heap.lt_size he
    have hil : it < s.heap.objs.size := by obtain ⟨_, q, _⟩ := hit; exact Heap.lt_size q
    have hlt : i < its.toArray.size := by
      have := (List.getElem?_eq_some_iff.mp hu).1
      simpa using this
    refine wpAny_pyNext_enum_itemD (Draws.tuple (by exact I.ok.hd hc) it a hai its.toArray) he ⟨hit, p⟩ hlt hne (by simp [Ne.symm hae, hne]) fun y h' tk hy ho hst hT hsz hk => ?_
    have ey : y = u := by
      have h1 : its.toArray[i]? = some u := by simpa using hu
      rw [h1] at hy; exact (Option.some.inj hy).symm
    subst ey
    refine ⟨_, rfl, wpAny_letOwnedTupleGo_enum (s := { s with heap := h', toks := tk + 1 }) ho fun h'' he' sb => ?_⟩
    have hT2 : h''.get? s.heap.objs.size = some { cls := .type "tuple", data := .seq #[.int i tk, y] } := (sb.2 _ (Nat.ne_of_gt hel)).trans hT
    have new : ObjOk X.prog X.w (upd H s.heap.objs.size (.tup [.int (i : Nat), x])) h'' s.heap.objs.size (.tup [.int (i : Nat), x]) :=
      ⟨by show 2 ≤ sizeLine; decide, [.int i tk, y], .cons ⟨_, rfl⟩ (.cons ru .nil), ⟨_, hT2, rfl, _, rfl⟩⟩
    have I1 : Inv X pins σ (upd H s.heap.objs.size (.tup [.int (i : Nat), x])) { s with heap := h'', toks := tk + 1 } :=
      I.turnedNew (ch := [e, it]) (fun b ob hb q => (sb.2 b (fun z => hb (by simp [z]))).trans (hk b ob (fun z => hb (by simp [z])) (fun z => hb (by simp [z])) q)) hf (Nat.le_refl _) new
    refine ⟨.ref s.heap.objs.size, _, I1, rfl, ⟨_, x, rfl, I.hok.fresh (Nat.le_refl _), rfl, fun ys hy => by rw [I.tuple_inj hy hq]; exact hx⟩, ⟨⟨y, ?_⟩, hst.1.at fun o q => (sb.2 it (Ne.symm hne)).trans q, hne⟩, fun b hb => ?_⟩
    · have e1 : ((i + 1 : Nat) : Int) = (i : Int) + 1 := by omega
      rw [e1]; exact he'
    · have hb' : b < s.heap.objs.size := by
        have e' : b = e ∨ b = it := by simpa using hb
        rcases e' with z | z
        · rw [z]; exact hel
        · rw [z]; exact hil
      rw [upd_ne (Nat.ne_of_lt hb')]
      exact (hf b hb).1
  done := by
    intro X hP hw hK hc i pins s σ H E I hf st hg
    subst hP hw hK
    obtain ⟨⟨old, he⟩, hit, hne⟩ := st
    obtain ⟨xs, hq, hx⟩ := hg
    obtain ⟨its, rv, p, hz⟩ := I.tuple hq
    obtain ⟨f0, f1, f2, f3, f4, f5⟩ := hf it (by simp)
    have hl := rv.length
    refine wpAny_pyNext_enum_endT (I.ok.hd hc) hai he hit p (by simp; omega) fun h' eb => ⟨rfl, I.turned (t' := s.toks) (fun b o hb q => eb b o hb q) f0 f1 f3 f4 f5⟩
  self := fun A i s Q E st h => let ⟨⟨_, he⟩, _⟩ := st; wpAny_pyIter_enum he h
/-- enumerate over a tuple -/
def iEnumT (K : PySem.W.Frag) (ta : TA) : TI := fun σ H R => ta σ H fun vs H1 => ∃ a xs, vs = [.ref a] ∧ SqT K H1 a xs ∧ R (IteT K a) H1
theorem pi_enumT {X : Cx} {e : Expr} {ta : TA} {p pos tpos : Pos} {elts : List Expr} {kk : Nat} (hg : Gl X "enumerate") (hm : X.mg "enumerate" = none) (ha : PA X [e] ta) (hs : starEach [e] X.env = [(false, eval e X.env)] := by rfl) :
    PI X (.Tuple elts kk tpos) (.Call (.Name "enumerate" p) [e] [] pos) (iEnumT X.K ta) := by
  refine ⟨fun pins s σ H R I h => ?_⟩
  refine Call_ (ld_blt I hg hm boot_enumerate (PyProof.Rows.callWith_type1 (thn (ha.run pos pins s σ H _ I h) fun us s1 ⟨vs, H1, I1, r1, q1⟩ => ?_) hs rfl))
  obtain ⟨a, xs, ex, hq, q⟩ := q1
  subst ex
  cases r1 with
  | cons r rr =>
    cases rr
    cases r
    obtain ⟨its, rv, p', hz⟩ := I1.tuple hq
    have p2 : s1.heap.IsTuple a its.toArray := p'
    obtain ⟨o1, ho1, _⟩ := id p2
    have al := Heap.lt_size ho1
    refine enum_begins1 (begins_tuple a its.toArray) p2 fun h' he hit hsz hk => wpAny_pyIter_enum he ?_
    have I2 : Inv X pins σ H1 { s1 with heap := h' } := I1.kept (t' := s1.toks) hk
    refine ⟨s1.heap.objs.size + 1, [s1.heap.objs.size + 1, s1.heap.objs.size], _, _, H1, rfl, I2, turn_enumT a (s1.heap.objs.size + 1) s1.heap.objs.size (Nat.ne_of_lt al) (Nat.ne_of_lt (Nat.lt_succ_of_lt al)), ⟨⟨.none, he⟩, ⟨_, hit, rfl, rfl⟩, Nat.succ_ne_self _⟩, fun b hb => ?_, q⟩
    have e' : b = s1.heap.objs.size + 1 ∨ b = s1.heap.objs.size := by simpa using hb
    have hle : s1.heap.objs.size ≤ b := by
      rcases e' with z | z
      · rw [z]; exact Nat.le_add_right _ _
      · rw [z]; exact Nat.le_refl _
    exact I1.fpOk hle (I1.hok.fresh hle)
theorem pi_enumTK {X : Cx} (K : PySem.W.Frag) {e : Expr} {ta : TA} {p pos tpos : Pos} {elts : List Expr} {kk : Nat} (hg : Gl X "enumerate") (hm : X.mg "enumerate" = none) (ha : PA X [e] ta) (h : X.K = K := by rfl) (hs : starEach [e] X.env = [(false, eval e X.env)] := by rfl) :
    PI X (.Tuple elts kk tpos) (.Call (.Name "enumerate" p) [e] [] pos) (iEnumT K ta) := h ▸ pi_enumT hg hm ha hs
theorem zi_get {ds : List Dt} {i : Nat} {d : Dt} (h : ds[i]? = some d) : ds.zipIdx[i]? = some (d, i) := by
  rw [List.getElem?_zipIdx, h]; simp
theorem zi_len (ds : List Dt) (r : Dt × Nat → Option Dt) (i : Nat) (h : ds.length ≤ 999999) : ((ds.zipIdx.take i).filterMap r).length < 1000000 := by
  have := List.length_filterMap_le r (ds.zipIdx.take i)
  have h2 := List.length_take_le' i ds.zipIdx
  rw [List.length_zipIdx] at h2
  omega
theorem zi_succ {ds : List Dt} {r : Dt × Nat → Option Dt} {i : Nat} {d : Dt} (h : ds[i]? = some d) : (ds.zipIdx.take (i + 1)).filterMap r = (ds.zipIdx.take i).filterMap r ++ (r (d, i)).toList := by
  rw [List.take_add_one, zi_get h, List.filterMap_append]
  show _ ++ List.filterMap r [(d, i)] = _
  cases e : r (d, i) <;> simp [List.filterMap, e]
/-- [e for i, x in enumerate(t) if ..] over a tuple -/
theorem D_lcE {K : PySem.W.Frag} {σ : L2.St} {H : Hp} {S : AS} {i1 i2 : Nat} {ta te : TE} {tt : TT} {z : Bool} {ds : List Dt} {r : Dt × Nat → Option Dt} (ha : DE ta σ H S (.tup z ds)) (hz : ds.length ≤ 999999) (hw : ∀ x y : V, wipe (((wipe σ [i1, i2]).set i1 (some x)).set i2 (some y)) [i1, i2] = wipe σ [i1, i2])
    (hs : ∀ v d (i : Nat) H1 S1, ds[i]? = some d → Lift H S H1 S1 → Oc H1 S1 v d → ∃ b, DT tt (((wipe σ [i1, i2]).set i1 (some (.int (i : Nat)))).set i2 (some v)) H1 S1 b ∧ (b = true → ∃ e, r (d, i) = some e ∧ DE te (((wipe σ [i1, i2]).set i1 (some (.int (i : Nat)))).set i2 (some v)) H1 S1 e) ∧ (b = false → r (d, i) = none)) :
    DE (tLc (iEnumT K (tCons ta tNil)) (gTup K 2 (gCons (gName i1) (gCons (gName i2) gNil))) tt te [i1, i2]) σ H S (.lst (ds.zipIdx.filterMap r)) := fun H1 S1 Q x q =>
  ha H1 S1 _ x fun va H2 k o => by
    obtain ⟨a, xs, rfl, ea, na, oa⟩ := o.tup_inv
    have l1 := oa.len
    have L2 := Lv.same k x.live
    have x3 := x.then k
    refine ⟨a, xs, rfl, ea.sq, fun D hD => ?_⟩
    refine ⟨fun i m H' => m = ds.length - i ∧ i ≤ ds.length ∧ Made H2 S1 D ((ds.zipIdx.take i).filterMap r) H', ⟨_, rfl, Nat.zero_le _, Made.nil hD⟩, ?_⟩
    rintro i m H' ⟨rfl, hi, md⟩
    by_cases lt : i < ds.length
    · have gx : xs[i]? = some xs[i] := List.getElem?_eq_getElem (by omega)
      obtain ⟨d, gd, od⟩ := oa.get gx
      refine .inr ⟨⟨xs, _, (ea.same md.same).sq, gx⟩, fun H2' => Made H2 S1 D ((ds.zipIdx.take (i + 1)).filterMap r) H2', fun H2' h2 => ⟨_, by omega, rfl, lt, h2⟩, ?_⟩
      rintro v H4 ⟨t, x', rfl, ht, rfl, fx⟩
      have ex : x' = xs[i] := Option.some.inj ((fx _ (ea.same md.same).sq).symm.trans gx)
      subst ex
      have kt := same_upd (o := .tup [.int (i : Nat), xs[i]]) ht
      have lf := (md.lift L2 hD).then kt
      refine ⟨t, _, rfl, SqT.of upd_same, rfl, _, _, rfl, _, _, rfl, rfl, ?_⟩
      obtain ⟨b, hb, h1, h0⟩ := hs _ d i _ _ gd (x3.trans lf) (lf.ob od)
      refine ⟨hw _ _, hb.go lf.live fun H5 k5 => ?_⟩
      cases b with
      | true =>
        obtain ⟨e, er, he⟩ := h1 rfl
        have lf5 := lf.then k5
        refine iteT ((he.lift ((Lift.refl lf.live).then k5)).go lf5.live fun y H6 k6 o6 => ?_)
        obtain ⟨acc, e1, e2, m2⟩ := md.step hD ((kt.trans k5).trans k6) o6 (zi_len ds r i hz)
        refine ⟨acc, e1, e2, ?_⟩
        rw [zi_succ gd, er]; exact m2
      | false =>
        refine iteF ?_
        rw [zi_succ gd, h0 rfl]
        show Made _ _ _ (_ ++ []) _
        rw [List.append_nil]
        obtain ⟨vs, e, oc⟩ := md.acc
        exact ⟨md.same.trans (kt.trans k5), vs, k5 _ _ (kt _ _ e), oc.same (kt.trans k5)⟩
    · have e : i = ds.length := by omega
      subst e
      refine .inl ⟨⟨xs, (ea.same md.same).sq, by omega⟩, ?_⟩
      rw [show ds.zipIdx.take ds.length = ds.zipIdx by rw [← List.length_zipIdx (l := ds)]; exact List.take_length] at md
      exact q _ _ (k.trans md.same) (md.done L2 hD)
end Lc
namespace Lc
open PySem PySem.Spec PyProof.Rows L2 RZ PySem.W
/-! ### a range held -/
section
variable {X : Cx}
theorem cr_range1 : CallR X (.type "range") (fun vs H Q => ∃ j, vs = [V.int j] ∧ ∀ p, H p = none → Q (.ref p) (upd H p (.rng 0 j))) := by
  intro pins s σ H vs us Q I r h
  obtain ⟨j, rfl, q⟩ := h
  cases r with
  | cons r rr =>
    cases rr
    obtain ⟨t, rfl⟩ := r
    refine call_range_1 ⟨.ref s.heap.objs.size, upd H s.heap.objs.size (.rng 0 j), I.laid (t' := s.toks + 1 + 1) (fun b o e => Heap.get?_push_of_some _ e) (Nat.le_refl _) ?_, rfl, q _ (I.hok.fresh (Nat.le_refl _))⟩
    exact ⟨s.toks, t, s.toks + 1, Heap.get?_push_size _ rfl⟩
def iRngV (te : TE) : TI := fun σ H R => te σ H fun x H1 => ∃ (p : Addr) (lo hi : Int), x = .ref p ∧ H1 p = some (.rng lo hi) ∧ (-(2 ^ 62) ≤ lo ∧ lo < 2 ^ 62 ∧ -(2 ^ 62) ≤ hi ∧ hi < 2 ^ 62) ∧ R (Itr lo (hi - lo).toNat) H1
theorem pi_rngV {tg e : Expr} {te : TE} (he : PE X e te) : PI X tg e (iRngV te) := by
  refine ⟨fun pins s σ H R I h => ?_⟩
  refine thn (he.run pins s σ H _ I h) fun v s1 ⟨x, H1, I1, r1, q1⟩ => ?_
  obtain ⟨p, lo, hi, e, hp, ⟨h1, h2, h3, h4⟩, q⟩ := q1
  subst e
  cases r1
  obtain ⟨t, u, v, ho⟩ := I1.hok p _ hp
  refine wpAny_pyIter_range (show IsRange s1.heap p lo hi 1 t u v from ho) (small_one h1 h2 h3 h4) ?_
  refine ⟨s1.heap.objs.size, [s1.heap.objs.size], _, _, H1, rfl, I1.kept (t' := s1.toks) fun b o e => Heap.get?_push_of_some _ e, turn_range _ lo (hi - lo).toNat, ?_, fun b hb => ?_, q⟩
  · have e1 : lo + ((0 : Nat) : Int) * 1 = lo := by simp
    have e2 : (((hi - lo).toNat : Nat) : Int) - ((0 : Nat) : Int) = Builtin.Range.rangeSize lo hi 1 := by rw [rangeSize_one]; split <;> omega
    show IsRangeIter _ _ (lo + ((0 : Nat) : Int) * 1) ((((hi - lo).toNat : Nat) : Int) - ((0 : Nat) : Int)) 1
    rw [e1, e2]
    exact Heap.get?_push_size _ rfl
  · have e : b = s1.heap.objs.size := by simpa using hb
    subst e
    exact I1.fpOk (Nat.le_refl _) (I1.hok.fresh (Nat.le_refl _))
end
/-! ### min(a list of ints, default=d) -/
theorem minD_intsL (x : Int) (xs : List Int) : minD (.int x) (xs.map PyData.int) = .int (minL (x :: xs)) := PySem.W.minD_ints x xs
def rMinDf (K : PySem.W.Frag) : List V → List V → Hp → VK → Prop := fun vs zs H Q => ∃ (a : Addr) (ns : List Int) (z : V), vs = [.ref a] ∧ zs = [z] ∧ SqL K H a (ns.map V.int) ∧ (ns = [] → Q z H) ∧ (ns ≠ [] → Q (.int (minL ns)) H)
theorem depth_ints (ns : List Int) : PyData.depthAll (ns.map PyData.int) = 0 := by
  induction ns with
  | nil => rfl
  | cons x r ih => rw [List.map_cons, PyData.depthAll, ih]; rfl
theorem crk_minD {X : Cx} (K : PySem.W.Frag) (hc : X.calm = true) (hu : X.A.units + 64 < cLine) (h : X.K = K := by rfl) : CallRK X (.builtin "min") ["default"] (rMinDf K) := by
  subst h
  intro pins s σ H vs zs us ws Q I r rz h
  obtain ⟨a, ns, z, rfl, rfl, hs, q0, q1⟩ := h
  obtain ⟨its, rv, pl, hz⟩ := I.list hs
  have hd := dp_ints (K := X.K) (H := H) ns
  obtain ⟨as, ra⟩ := Dp.readsAll I _ _ _ hd rv
  rw [Vals.ref1 r]
  cases rz with
  | cons rz rr =>
    cases rr
    refine min_list_default (I.ok.hd hc) pl.isList (by simpa using ra) (alike_int_all ns) (by rw [depth_ints]; omega) (fun e h' tk hk => ?_) fun y ys i v h' tk bs e hv hr hk => ?_
    · exact ⟨z, H, I.kept (t' := tk) hk, rz, q0 (List.map_eq_nil_iff.mp e)⟩
    · have hv' : its[i]? = some v := by rw [← hv]; simp
      obtain ⟨y', hy, ry⟩ := vals_at rv hv'
      obtain ⟨d, he, de⟩ := dp_at hd hy
      obtain ⟨cs, re⟩ := Dp.reads I _ _ _ de ry
      have ee := (PySem.Reads.unique (reads_keeps hk re) _ _ hr).1
      rw [List.getElem?_map] at hy he
      obtain ⟨n, hn, rfl⟩ := Option.map_eq_some_iff.mp hy
      rw [hn] at he
      have e3 := Option.some.inj (show some (PyData.int n) = some d from he)
      subst e3
      cases ns with
      | nil => cases hn
      | cons x r =>
        rw [List.map_cons] at e
        injection e with e1 e2
        subst e1; subst e2
        rw [minD_intsL] at ee
        injection ee with ee
        refine ⟨.int n, H, I.kept (t' := tk) hk, ry, ?_⟩
        rw [ee]
        exact q1 (by simp)
theorem D_minDf {σ : L2.St} {H : Hp} {S : AS} {K : PySem.W.Frag} {tl tz : TE} {ns : List Int} {m : Int} (hl : DE tl σ H S (.lst (ns.map Dt.int))) (hz : DE tz σ H S (.int m)) : DE (tCKw (rMinDf K) (tCons tl tNil) (tCons tz tNil)) σ H S (.int (if ns = [] then m else minL ns)) := fun H1 S1 Q y q =>
  hl H1 S1 _ y fun v H2 k o => (hz.lift (y.then k)).go (Lv.same k y.live) fun u H3 k3 o3 => by
    obtain ⟨a, ys, rfl, ea, na, oa⟩ := (o.same k3).lst_inv
    have e := oa.ints
    subst e
    have eu := o3.int_inv
    subst eu
    refine ⟨a, ns, _, rfl, rfl, SqL.of ea, fun e => ?_, fun e => ?_⟩
    · have h := q (.int m) _ (k.trans k3); rw [if_pos e] at h; exact h (.int _)
    · have h := q (.int (minL ns)) _ (k.trans k3); rw [if_neg e] at h; exact h (.int _)
end Lc
namespace Lc
open PySem PySem.Spec PyProof.Rows L2 RZ PySem.W
section
variable {σ : L2.St} {H : Hp} {S : AS} {K : PySem.W.Frag}
/-! ### stars in a display -/
theorem D_starL {te : TE} {t : TA} {ds es : List Dt} (h : DE te σ H S (.lst ds)) (ht : DA t σ H S es) : DA (StX.tStar K te t) σ H S (ds ++ es) := fun H1 S1 Q x q =>
  h H1 S1 _ x fun v H2 k o => by
    obtain ⟨a, xs, rfl, ea, na, oa⟩ := o.lst_inv
    exact ⟨a, xs, rfl, .inr (SqL.of ea), ht H2 S1 _ (x.then k) fun vs H3 k3 o3 => q _ _ (k.trans k3) ((oa.same k3).append o3)⟩
theorem D_starT {te : TE} {t : TA} {z : Bool} {ds es : List Dt} (h : DE te σ H S (.tup z ds)) (ht : DA t σ H S es) : DA (StX.tStar K te t) σ H S (ds ++ es) := fun H1 S1 Q x q =>
  h H1 S1 _ x fun v H2 k o => by
    obtain ⟨a, xs, rfl, ea, na, oa⟩ := o.tup_inv
    exact ⟨a, xs, rfl, .inl ea.sq, ht H2 S1 _ (x.then k) fun vs H3 k3 o3 => q _ _ (k.trans k3) ((oa.same k3).append o3)⟩
/-! ### [e for x in a range held] -/
theorem D_lcRV {g : TG} {tt : TT} {te : TE} {vs : List Nat} {j n : Nat} {p : Addr} {r : Dt → Option Dt} (hj : σ[j]? = some (some (.ref p))) (hp : H p = some (.rng 0 (n : Nat))) (hz : n ≤ 999999) (hs : ∀ (i : Nat) H1 S1, i < n → Lift H S H1 S1 → Turn1 g tt te vs σ (.int (i : Nat)) H1 S1 (r (.int (i : Nat)))) : DE (tLc (iRngV (tVar j)) g tt te vs) σ H S (.lst ((upto n).filterMap r)) := fun H1 S1 Q x q => by
    have L2 := x.live
    refine ⟨_, hj, p, 0, (n : Nat), rfl, x.same _ _ hp, ⟨by omega, by omega, by omega, by omega⟩, fun D hD => ?_⟩
    have et : (((n : Nat) : Int) - 0).toNat = n := by omega
    rw [et]
    refine lc_range (lo := 0) (n := n) (fun i H' => Made H1 S1 D (((upto n).take i).filterMap r) H') (Made.nil hD) ?_ ?_
    · intro i H' hi m
      have lf := m.lift L2 hD
      rw [Int.zero_add]
      have hd := upto_get hi
      refine hs i H' _ hi (x.trans lf) _ _ (fun z e H4 er k4 o4 => ?_) fun H4 er k4 => ?_
      · obtain ⟨acc, e1, e2, m2⟩ := m.step hD k4 o4 (fm_len _ r i (by rw [upto_len]; exact hz))
        refine ⟨acc, e1, e2, ?_⟩
        rw [fm_succ hd, er]; exact m2
      · rw [fm_succ hd, er]
        show Made _ _ _ (_ ++ []) _
        rw [List.append_nil]
        obtain ⟨vs, e, oc⟩ := m.acc
        exact ⟨m.same.trans k4, vs, k4 _ _ e, oc.same k4⟩
    · intro H' m
      have e2 : (upto n).take n = upto n := List.take_of_length_le (by rw [upto_len]; exact Nat.le_refl _)
      rw [e2] at m
      exact q _ _ m.same (m.done L2 hD)
/-! ### fields -/
inductive Fds (H : Hp) (S : AS) : List (Str × V) → List (Str × Dt) → Prop where
  | nil : Fds H S [] []
  | cons {f : Str} {v : V} {d : Dt} {fs : List (Str × V)} {ds : List (Str × Dt)} (h : Oc H S v d) (t : Fds H S fs ds) : Fds H S ((f, v) :: fs) ((f, d) :: ds)
theorem Fds.get {fs : List (Str × V)} {ds : List (Str × Dt)} {f : Str} {d : Dt} (h : Fds H S fs ds) (e : ds.lookup f = some d) : ∃ v, fs.lookup f = some v ∧ Oc H S v d := by
  induction h with
  | nil => cases e
  | @cons g v d' fs ds o t ih =>
    rw [List.lookup_cons] at e ⊢
    cases c : f == g with
    | true => rw [c] at e; cases e; exact ⟨v, rfl, o⟩
    | false => rw [c] at e; exact ih e
theorem Fds.map {H' : Hp} {S' : AS} {fs : List (Str × V)} {ds : List (Str × Dt)} (k : ∀ v d, Oc H S v d → Oc H' S' v d) (h : Fds H S fs ds) : Fds H' S' fs ds := by
  induction h with
  | nil => exact .nil
  | cons o t ih => exact .cons (k _ _ o) ih
theorem Fds.snoc {fs : List (Str × V)} {ds : List (Str × Dt)} {f : Str} {v : V} {d : Dt} (h : Fds H S fs ds) (o : Oc H S v d) : Fds H S (fs ++ [(f, v)]) (ds ++ [(f, d)]) := by
  induction h with
  | nil => exact .cons o .nil
  | cons o' t ih => exact .cons o' ih
theorem Fds.len {fs : List (Str × V)} {ds : List (Str × Dt)} (h : Fds H S fs ds) : fs.length = ds.length := by
  induction h with
  | nil => rfl
  | cons _ _ ih => rw [List.length_cons, List.length_cons, ih]
theorem Fds.new {fs : List (Str × V)} {ds : List (Str × Dt)} {f : Str} {y : V} (h : Fds H S fs ds) (e : ds.lookup f = none) : putF f y fs = fs ++ [(f, y)] := by
  induction h with
  | nil => rfl
  | @cons g v d' fs ds o t ih =>
    rw [List.lookup_cons] at e
    have ne : (f == g) = false := by
      cases c : f == g with
      | true => rw [c] at e; cases e
      | false => rfl
    rw [ne] at e
    have ng : ¬ g = f := fun z => by subst z; simp at ne
    show (if g = f then _ else (g, v) :: putF f y fs) = _
    rw [if_neg ng, ih e]; rfl
/-! ### instances -/
def InsAt (H : Hp) (S : AS) (C : Addr) (v : V) (ds : List (Str × Dt)) : Prop := ∃ p dx fs, v = .ref p ∧ H p = some (.ins C dx fs) ∧ ¬ S p ∧ Fds H S fs ds
theorem InsAt.but {H' : Hp} {C : Addr} {v : V} {ds : List (Str × Dt)} (b : ButS S H H') (h : InsAt H S C v ds) : InsAt H' S C v ds := by
  obtain ⟨p, dx, fs, rfl, e, n, f⟩ := h
  exact ⟨p, dx, fs, rfl, b _ _ n e, n, f.map fun _ _ o => o.but b⟩
theorem InsAt.same {H' : Hp} {C : Addr} {v : V} {ds : List (Str × Dt)} (k : Same H H') (h : InsAt H S C v ds) : InsAt H' S C v ds := h.but (Same.butS k)
theorem InsAt.sub {S' : AS} {C : Addr} {v : V} {ds : List (Str × Dt)} (k : ∀ a, S' a → S a) (h : InsAt H S C v ds) : InsAt H S' C v ds := by
  obtain ⟨p, dx, fs, rfl, e, n, f⟩ := h
  exact ⟨p, dx, fs, rfl, e, fun z => n (k _ z), f.map fun _ _ o => o.sub k⟩
inductive Inss (H : Hp) (S : AS) (C : Addr) : List V → List (List (Str × Dt)) → Prop where
  | nil : Inss H S C [] []
  | cons {v : V} {d : List (Str × Dt)} {vs : List V} {ds : List (List (Str × Dt))} (h : InsAt H S C v d) (t : Inss H S C vs ds) : Inss H S C (v :: vs) (d :: ds)
theorem Inss.map {H' : Hp} {S' : AS} {C : Addr} {vs : List V} {ds : List (List (Str × Dt))} (k : ∀ v d, InsAt H S C v d → InsAt H' S' C v d) (h : Inss H S C vs ds) : Inss H' S' C vs ds := by
  induction h with
  | nil => exact .nil
  | cons o t ih => exact .cons (k _ _ o) ih
theorem Inss.snoc {C : Addr} {vs : List V} {ds : List (List (Str × Dt))} {v : V} {d : List (Str × Dt)} (h : Inss H S C vs ds) (o : InsAt H S C v d) : Inss H S C (vs ++ [v]) (ds ++ [d]) := by
  induction h with
  | nil => exact .cons o .nil
  | cons o' t ih => exact .cons o' ih
theorem Inss.len {C : Addr} {vs : List V} {ds : List (List (Str × Dt))} (h : Inss H S C vs ds) : vs.length = ds.length := by
  induction h with
  | nil => rfl
  | cons _ _ ih => rw [List.length_cons, List.length_cons, ih]
theorem Inss.at {C : Addr} {vs : List V} {ds : List (List (Str × Dt))} (h : Inss H S C vs ds) : ∀ {i : Nat} {d : List (Str × Dt)}, ds[i]? = some d → ∃ v, vs[i]? = some v ∧ InsAt H S C v d := by
  induction h with
  | nil => intro i d e; simp at e
  | cons o t ih =>
    intro i d e
    cases i with
    | zero =>
      have e := Option.some.inj (show some _ = some _ from e)
      subst e; exact ⟨_, rfl, o⟩
    | succ i => exact ih (i := i) (by simpa using e)
/-- a list of instances -/
def InssAt (H : Hp) (S : AS) (C : Addr) (v : V) (ds : List (List (Str × Dt))) : Prop := ∃ p vs, v = .ref p ∧ H p = some (.lst vs) ∧ ¬ S p ∧ Inss H S C vs ds
theorem InssAt.but {H' : Hp} {C : Addr} {v : V} {ds : List (List (Str × Dt))} (b : ButS S H H') (h : InssAt H S C v ds) : InssAt H' S C v ds := by
  obtain ⟨p, vs, rfl, e, n, f⟩ := h
  exact ⟨p, vs, rfl, b _ _ n e, n, f.map fun _ _ o => o.but b⟩
theorem InssAt.sub {S' : AS} {C : Addr} {v : V} {ds : List (List (Str × Dt))} (k : ∀ a, S' a → S a) (h : InssAt H S C v ds) : InssAt H S' C v ds := by
  obtain ⟨p, vs, rfl, e, n, f⟩ := h
  exact ⟨p, vs, rfl, e, fun z => n (k _ z), f.map fun _ _ o => o.sub k⟩
/-! ### reading a field -/
theorem D_fld {i : Nat} {p C dx : Addr} {fs : List (Str × V)} {f : Str} {v : V} {d : Dt} (hj : σ[i]? = some (some (.ref p))) (hp : H p = some (.ins C dx fs)) (c : Cls K C) (n : NoAttr K C f) (hl : fs.lookup f = some v) (o : Oc H S v d) : DE (tFld K (tVar i) f) σ H S d := fun H1 S1 Q x q =>
  ⟨_, hj, p, C, dx, fs, v, rfl, x.same _ _ hp, c, n, hl, q _ _ (fun _ _ z => z) (x.ob o)⟩
/-! ### what an __init__ has made so far -/
structure Ini (H0 : Hp) (S : AS) (x C dx : Addr) (ds : List (Str × Dt)) (H : Hp) : Prop where
  at_ : ∃ fs, H x = some (.ins C dx fs) ∧ Fds H S fs ds
  but : ∀ b o, b ≠ x → H0 b = some o → H b = some o
  lv : Lv H S
theorem Ini.ob {H0 : Hp} {x C dx : Addr} {ds : List (Str × Dt)} {v : V} {d : Dt} (I : Ini H0 S x C dx ds H) (sx : S x) (o : Oc H0 S v d) : Oc H S v d := o.but fun b u n e => I.but b u (fun z => n (z ▸ sx)) e
theorem Ini.step {H0 H2 : Hp} {x C dx : Addr} {ds : List (Str × Dt)} {fs : List (Str × V)} {f : Str} {y : V} {d : Dt} (I : Ini H0 S x C dx ds H) (sx : S x) (e : H x = some (.ins C dx fs)) (F : Fds H S fs ds) (k : Same H H2) (o : Oc H2 S y d) : Ini H0 S x C dx (ds ++ [(f, d)]) (upd H2 x (.ins C dx (fs ++ [(f, y)]))) := by
  refine ⟨⟨_, upd_same, (F.map fun v d o => (o.same k).put sx).snoc (o.put sx)⟩, fun b u nb hb => ?_, fun a ha z => ?_⟩
  · rw [upd_ne nb]; exact k _ _ (I.but b u nb hb)
  · by_cases c : a = x
    · subst c; rw [upd_same] at z; cases z
    · rw [upd_ne c] at z; exact Lv.same k I.lv a ha z
theorem Ini.same {H0 H2 : Hp} {x C dx : Addr} {ds : List (Str × Dt)} (I : Ini H0 S x C dx ds H) (k : Same H H2) : Ini H0 S x C dx ds H2 := by
  obtain ⟨fs, e, F⟩ := I.at_
  exact ⟨⟨fs, k _ _ e, F.map fun _ _ o => o.same k⟩, fun b u nb hb => k _ _ (I.but b u nb hb), Lv.same k I.lv⟩
theorem D_self {H0 : Hp} {x C dx : Addr} {ds : List (Str × Dt)} {f : Str} {d : Dt} (I : Ini H0 S x C dx ds H) (hj : σ[0]? = some (some (.ref x))) (c : Cls K C) (n : NoAttr K C f) (e : ds.lookup f = some d) : DE (tFld K (tVar 0) f) σ H S d := by
  obtain ⟨fs, h, F⟩ := I.at_
  obtain ⟨v, hl, o⟩ := F.get e
  exact D_fld hj h c n hl o
theorem S_fld {H0 : Hp} {x C dx : Addr} {ds : List (Str × Dt)} {f : Str} {d : Dt} {tv : TE} {u : TS} {D : Ends} (I : Ini H0 S x C dx ds H) (sx : S x) (hj : σ[0]? = some (some (.ref x))) (h : DE tv σ H S d) (c : Cls K C) (n : NoAttr K C f) (e : ds.lookup f = none) (hl : ds.length < 900)
    (k : ∀ H3, Ini H0 S x C dx (ds ++ [(f, d)]) H3 → u D σ H3) : tSeq (sFld K (tVar 0) tv f) u D σ H := by
  refine h.go I.lv fun y H2 k2 o => ?_
  obtain ⟨fs, hx, F⟩ := I.at_
  refine ⟨_, hj, x, C, dx, fs, rfl, k2 _ _ hx, c, n, by rw [F.len]; omega, ?_⟩
  rw [F.new e]
  exact k _ (I.step sx hx F k2 o)
theorem S_fld1 {H0 : Hp} {x C dx : Addr} {ds : List (Str × Dt)} {f : Str} {d : Dt} {tv : TE} {D : Ends} (I : Ini H0 S x C dx ds H) (sx : S x) (hj : σ[0]? = some (some (.ref x))) (h : DE tv σ H S d) (c : Cls K C) (n : NoAttr K C f) (e : ds.lookup f = none) (hl : ds.length < 900)
    (k : ∀ H3, Ini H0 S x C dx (ds ++ [(f, d)]) H3 → D.nx σ H3) : sFld K (tVar 0) tv f D σ H := by
  refine h.go I.lv fun y H2 k2 o => ?_
  obtain ⟨fs, hx, F⟩ := I.at_
  refine ⟨_, hj, x, C, dx, fs, rfl, k2 _ _ hx, c, n, by rw [F.len]; omega, ?_⟩
  rw [F.new e]
  exact k _ (I.step sx hx F k2 o)
/-- an __init__ that puts data of its arguments into the fields -/
def spInit (C : Addr) (ok : List Dt → Prop) (f : List Dt → List (Str × Dt)) : Sp := fun vs H Q _ => ∃ (x dx : Addr) (S : AS) (us : List V) (ds : List Dt), vs = .ref x :: us ∧ H x = some (.ins C dx []) ∧ S x ∧ Lv H S ∧ Ocs H S us ds ∧ ok ds ∧ ∀ H', Ini H S x C dx (f ds) H' → Q .non H'
theorem make_ins {C : Addr} {ok : List Dt → Prop} {f : List Dt → List (Str × Dt)} {E : XK} {t : TA} {ds : List Dt} (ha : DA t σ H S ds) (ho : ok ds) {H1 : Hp} {S1 : AS} {Q : VK} (x : Lift H S H1 S1) (q : ∀ v H2, Same H1 H2 → InsAt H2 S1 C v (f ds) → Q v H2) : tMake C (spInit C ok f) [] E t σ H1 Q := by
  refine ha H1 S1 _ x fun vs H2 k o => ?_
  intro a dx na nd ne
  have hd := same_upd (o := .own a) nd
  have ea : upd H2 dx (.own a) a = none := by rw [upd_ne (Ne.symm ne)]; exact na
  have lv2 := Lv.same hd (Lv.same k x.live)
  have o2 := ((o.same hd).add ea).put (D := a) (o := .ins C dx []) (.inr rfl)
  refine ⟨a, dx, And1 S1 a, vs, ds, by rw [List.append_nil], upd_same, .inr rfl, lv2.add ea, o2, ho, fun H' I => ⟨rfl, ?_⟩⟩
  obtain ⟨fs, e, F⟩ := I.at_
  refine q _ _ (fun b u hb => ?_) ⟨a, dx, fs, rfl, e, Lv.out lv2 ea, F.map fun _ _ o => o.sub fun _ h => .inl h⟩
  have hb2 := k _ _ hb
  have nb : b ≠ a := fun z => by rw [z, na] at hb2; cases hb2
  refine I.but b u nb ?_
  rw [upd_ne nb]
  exact hd _ _ hb2
/-! ### a list of new instances -/
structure MadeI (H2 : Hp) (S : AS) (C D : Addr) (ds : List (List (Str × Dt))) (H' : Hp) : Prop where
  same : Same H2 H'
  acc : ∃ vs, H' D = some (.lst vs) ∧ Inss H' (And1 S D) C vs ds
theorem lc_ins {C : Addr} {te tn : TE} {j n : Nat} {f : Nat → List (Str × Dt)} (hn : DE tn σ H S (.int (n : Nat))) (hz : n ≤ 999999) (hw : ∀ x : V, wipe ((wipe σ [j]).set j (some x)) [j] = wipe σ [j]) (lv : Lv H S)
    (hs : ∀ (i : Nat) H1 S1 (R : VK), i < n → Lift H S H1 S1 → (∀ v H2, Same H1 H2 → InsAt H2 S1 C v (f i) → R v H2) → te ((wipe σ [j]).set j (some (.int (i : Nat)))) H1 R) {Q : VK} (q : ∀ v H2, Same H H2 → InssAt H2 S C v ((List.range n).map f) → Q v H2) : tLc (iRng1 (tCons tn tNil)) (gName j) tYes te [j] σ H Q := by
  refine hn.go lv fun v H2 k o => ?_
  have e := o.int_inv
  subst e
  have L2 := Lv.same k lv
  have x := (Lift.refl lv).then k
  refine ⟨_, rfl, by omega, by omega, fun D hD => ?_⟩
  have et : ((n : Nat) : Int).toNat = n := Int.toNat_natCast n
  rw [et]
  refine lc_range (lo := 0) (n := n) (fun i H' => MadeI H2 S C D ((List.range i).map f) H') ⟨same_upd hD, [], upd_same, .nil⟩ ?_ ?_
  · intro i H' hi m
    rw [Int.zero_add]
    obtain ⟨vs, ev, oi⟩ := m.acc
    have lf : Lift H2 S H' (And1 S D) := by
      refine ⟨fun h => (h.add hD).same m.same, fun a ha z => ?_, fun a h => .inl h, m.same⟩
      rcases ha with ha | ha
      · exact Lv.same m.same L2 a ha z
      · rw [ha, ev] at z; cases z
    refine ⟨hw _, hs i H' _ _ hi (x.trans lf) fun y H4 k4 o4 => ?_⟩
    refine ⟨vs, k4 _ _ ev, Nat.lt_of_lt_of_le (show _ < 1000000 by rw [oi.len, List.length_map, List.length_range]; omega) (by decide), fun b u hb => ?_, _, upd_same, ?_⟩
    · rw [upd_ne (ne_of_none hb hD)]
      exact k4 _ _ (m.same _ _ hb)
    · rw [List.range_succ, List.map_append]
      have kb : ButS (And1 S D) H4 (upd H4 D (.lst (vs ++ [y]))) := fun b u nb e => by
        rw [upd_ne (fun z => nb (.inr z))]; exact e
      exact ((oi.map fun _ _ o => o.same k4).snoc o4).map fun _ _ o => o.but kb
  · intro H' m
    obtain ⟨vs, ev, oi⟩ := m.acc
    exact q _ _ (k.trans m.same) ⟨D, vs, rfl, ev, Lv.out L2 hD, oi.map fun _ _ o => o.sub fun _ h => .inl h⟩
end
end Lc
namespace Lc
open PySem PySem.Spec PyProof.Rows L2 RZ PySem.W
section
variable {σ : L2.St} {H : Hp} {S : AS} {K : PySem.W.Frag}
theorem D_bl (b : Bool) : DE (tC (.bl b)) σ H S (.bl b) := fun H1 S1 Q x q => q _ _ (fun _ _ z => z) (.bl b)
theorem D_if {tt : TT} {ta tb : TE} {b : Bool} {d : Dt} (ht : DT tt σ H S b) (h1 : b = true → DE ta σ H S d) (h0 : b = false → DE tb σ H S d) : DE (tIf tt ta tb) σ H S d := fun H1 S1 Q x q =>
  ht H1 S1 _ x fun H2 k => by
    cases b with
    | true => exact iteT ((h1 rfl) H2 S1 _ (x.then k) fun v H3 k3 o3 => q _ _ (k.trans k3) o3)
    | false => exact iteF ((h0 rfl) H2 S1 _ (x.then k) fun v H3 k3 o3 => q _ _ (k.trans k3) o3)
theorem T_truL {te : TE} {ds : List Dt} (h : DE te σ H S (.lst ds)) : DT (fun σ H Q => te σ H fun x H' => ∃ k, TruV K x H' k ∧ Q k H') σ H S (!ds.isEmpty) := fun H1 S1 Q x q =>
  h H1 S1 _ x fun v H2 k o => by
    obtain ⟨a, xs, rfl, ea, na, oa⟩ := o.lst_inv
    refine ⟨!xs.isEmpty, ?_, ?_⟩
    · exact .inl ⟨xs, SqL.of ea, rfl⟩
    · have e : xs.isEmpty = ds.isEmpty := by
        have := oa.len
        cases xs <;> cases ds <;> simp_all
      rw [e]; exact q _ k
theorem T_eqS {ta tb : TE} {a b : Str} (ha : DE ta σ H S (.str a)) (hb : DE tb σ H S (.str b)) : DT (tTest (tOp rEq ta tb)) σ H S (decide (a = b)) := fun H1 S1 Q x q =>
  ha H1 S1 _ x fun v H2 k o => (hb.lift (x.then k)).go (Lv.same k x.live) fun u H3 k3 o3 => by
    have e1 := (o.same k3).str_inv
    have e2 := o3.str_inv
    subst e1; subst e2
    refine ⟨rfl, _, rfl, ?_⟩
    have e : (decide (V.str a = V.str b)) = decide (a = b) := by
      by_cases c : a = b
      · subst c; simp
      · rw [decide_eq_false c, decide_eq_false (fun z => c (V.str.inj z))]
    rw [e]; exact q _ (k.trans k3)
theorem D_gt {ta tb : TE} {a b : Int} (ha : DE ta σ H S (.int a)) (hb : DE tb σ H S (.int b)) : DE (tOp (rI0 fun i j => .bl (decide (j < i))) ta tb) σ H S (.bl (decide (b < a))) := fun H1 S1 Q x q =>
  ha H1 S1 _ x fun v H2 k o => (hb.lift (x.then k)).go (Lv.same k x.live) fun u H3 k3 o3 => by
    have e1 := (o.same k3).int_inv
    have e2 := o3.int_inv
    subst e1; subst e2
    exact ⟨_, _, rfl, rfl, q _ _ (k.trans k3) (.bl _)⟩
theorem D_any {tl : TE} {bs : List Bool} (hl : DE tl σ H S (.lst (bs.map Dt.bl))) : DE (tCB (rAny K) (tCons tl tNil)) σ H S (.bl (bs.any id)) := fun H1 S1 Q y q =>
  hl H1 S1 _ y fun v H2 k o => by
    obtain ⟨a, ys, rfl, ea, na, oa⟩ := o.lst_inv
    have e := oa.bls
    subst e
    exact ⟨a, bs, rfl, SqL.of ea, q _ _ k (.bl _)⟩
theorem T_val {te : TE} {b : Bool} (h : DE te σ H S (.bl b)) : DT (tB te) σ H S b := fun H1 S1 Q x q => h H1 S1 _ x fun v H2 k o => by
  rw [o.bl_inv]
  exact ⟨b, rfl, q H2 k⟩
theorem T_not {tt : TT} {b : Bool} (h : DT tt σ H S b) : DT (tNot tt) σ H S (!b) := fun H1 S1 Q x q => h H1 S1 _ x q
/-- the last of a list -/
theorem D_last {ta tb : TE} {ds : List Dt} {d : Dt} (ha : DE ta σ H S (.lst (ds ++ [d]))) : DE (tOp (rIxL K) ta (tUn (rU fun i => .int (-i)) (tC (.int 1)))) σ H S d := fun H1 S1 Q x q =>
  ha H1 S1 _ x fun v H2 k o => by
    obtain ⟨a, xs, rfl, ea, na, oa⟩ := o.lst_inv
    have l := oa.len
    rw [List.length_append, List.length_singleton] at l
    have e : xs = xs.dropLast ++ [xs.getLast (by intro z; subst z; simp at l)] := (List.dropLast_concat_getLast _).symm
    generalize xs.getLast (by intro z; subst z; simp at l) = y at e
    generalize xs.dropLast = ys at e
    subst e
    obtain ⟨d', e1, o1⟩ := oa.get (i := ys.length) (x := y) (by rw [List.getElem?_append_right (Nat.le_refl _), Nat.sub_self]; rfl)
    rw [List.length_append, List.length_singleton] at l
    have l2 : ys.length = ds.length := by omega
    rw [l2, List.getElem?_append_right (Nat.le_refl _), Nat.sub_self] at e1
    have e3 := Option.some.inj (show some d = some d' from e1)
    subst e3
    exact ⟨_, rfl, a, _, _, y, rfl, rfl, SqL.of ea, atI_last ys y, q _ _ k o1⟩
/-! ### slices of tuples without a dict -/
theorem ocs_take {vs : List V} {ds : List Dt} (n : Nat) (h : Ocs H S vs ds) : Ocs H S (vs.take n) (ds.take n) := by
  induction n generalizing vs ds with
  | zero => rw [List.take_zero, List.take_zero]; exact .nil
  | succ n ih =>
    cases h with
    | nil => exact .nil
    | cons h t => exact .cons h (ih t)
theorem ocs_drop {vs : List V} {ds : List Dt} (n : Nat) (h : Ocs H S vs ds) : Ocs H S (vs.drop n) (ds.drop n) := by
  induction n generalizing vs ds with
  | zero => exact h
  | succ n ih =>
    cases h with
    | nil => exact .nil
    | cons h t => exact ih t
def sub3 (ds : List Dt) (lo : Nat) (hi : Option Nat) : List Dt := match hi with
  | none => ds.drop lo
  | some k => (ds.drop lo).take (k - lo)
def hiN (n : Nat) : Option Nat → Nat
  | none => n
  | some k => min k n
theorem slF_go {v : V} {ds : List Dt} {lo : Nat} {hi : Option Nat} {l : Option Int} {Q : VK} (hl : l = none ∧ lo = 0 ∨ l = some (lo : Int)) (o : Oc H S v (.tup true ds)) (lv : Lv H S) (q : ∀ u H2, Same H H2 → Oc H2 S u (.tup true (sub3 ds lo hi)) → Q u H2) : rSlF K v l (hi.map fun k => ((k : Nat) : Int)) H Q := by
  obtain ⟨a, xs, rfl, ea, na, oa⟩ := o.tup_inv
  have n1 := oa.len
  have e1 : HT.sIx xs.length 0 l = min lo xs.length := by
    rcases hl with ⟨rfl, rfl⟩ | rfl
    · rw [HT.sIx_none]; omega
    · exact HT.sIx_nat _ _ _
  have e2 : HT.sIx xs.length xs.length (hi.map fun k => ((k : Nat) : Int)) = hiN xs.length hi := by
    cases hi with
    | none => rfl
    | some k => exact HT.sIx_nat _ _ _
  have oc : Ocs H S (cutV xs l (hi.map fun k => ((k : Nat) : Int))) (sub3 ds lo hi) := by
    have h0 := ocs_take (hiN xs.length hi - min lo xs.length) (ocs_drop (min lo xs.length) oa)
    have e3 : cutV xs l (hi.map fun k => ((k : Nat) : Int)) = (xs.drop (min lo xs.length)).take (hiN xs.length hi - min lo xs.length) := by
      unfold cutV
      rw [e1, e2]
    have e4 : (ds.drop (min lo xs.length)).take (hiN xs.length hi - min lo xs.length) = sub3 ds lo hi := by
      rw [n1]
      have d1 : ds.drop (min lo ds.length) = ds.drop lo := by
        by_cases c : lo ≤ ds.length
        · rw [Nat.min_eq_left c]
        · rw [Nat.min_eq_right (by omega), List.drop_length, List.drop_eq_nil_of_le (by omega)]
      rw [d1]
      cases hi with
      | none => exact List.take_of_length_le (by rw [List.length_drop]; show ds.length - lo ≤ ds.length - min lo ds.length; omega)
      | some k =>
        show (ds.drop lo).take (min k ds.length - min lo ds.length) = (ds.drop lo).take (k - lo)
        by_cases c : k ≤ ds.length
        · by_cases c2 : lo ≤ ds.length
          · rw [Nat.min_eq_left c, Nat.min_eq_left c2]
          · rw [List.drop_eq_nil_of_le (by omega), List.take_nil, List.take_nil]
        · rw [List.take_of_length_le (by rw [List.length_drop]; omega), List.take_of_length_le (by rw [List.length_drop]; omega)]
    rw [e3, ← e4]; exact h0
  refine ⟨a, xs, rfl, ea.sq, fun w => ?_, fun w p H2 hp k tp => ?_⟩
  · refine q _ _ (fun _ _ z => z) (.tup ea na ?_)
    have e5 : cutV xs l (hi.map fun k => ((k : Nat) : Int)) = xs := by
      unfold cutV
      rw [w.1, w.2, List.drop_zero, Nat.sub_zero, List.take_length]
    rw [e5] at oc; exact oc
  · exact q _ _ k (.tup tp (Lv.out lv hp) (oc.same k))
theorem D_slTo {ts th : TE} {ds : List Dt} {k : Nat} (h : DE ts σ H S (.tup true ds)) (hh : DE th σ H S (.int (k : Nat))) : DE (tSl (rSlF K) ts tNoPart (tPart th)) σ H S (.tup true (ds.take k)) := fun H1 S1 Q x q =>
  h H1 S1 _ x fun v H2 k2 o => (hh.lift (x.then k2)).go (Lv.same k2 x.live) fun u H3 k3 o3 => by
    have e := o3.int_inv
    subst e
    refine ⟨_, rfl, slF_go (lo := 0) (hi := some k) (.inl ⟨rfl, rfl⟩) (o.same k3) (Lv.same k3 (Lv.same k2 x.live)) fun u H4 k4 o4 => q _ _ ((k2.trans k3).trans k4) ?_⟩
    rw [show ds.take k = sub3 ds 0 (some k) from rfl]; exact o4
theorem D_slFrom {ts tl : TE} {ds : List Dt} {k : Nat} (h : DE ts σ H S (.tup true ds)) (hl : DE tl σ H S (.int (k : Nat))) : DE (tSl (rSlF K) ts (tPart tl) tNoPart) σ H S (.tup true (ds.drop k)) := fun H1 S1 Q x q =>
  h H1 S1 _ x fun v H2 k2 o => (hl.lift (x.then k2)).go (Lv.same k2 x.live) fun u H3 k3 o3 => by
    have e := o3.int_inv
    subst e
    exact ⟨_, rfl, slF_go (lo := k) (hi := none) (.inr rfl) (o.same k3) (Lv.same k3 (Lv.same k2 x.live)) fun u H4 k4 o4 => q _ _ ((k2.trans k3).trans k4) o4⟩
theorem D_slMid {ts tl th : TE} {ds : List Dt} {k m : Nat} (h : DE ts σ H S (.tup true ds)) (hl : DE tl σ H S (.int (k : Nat))) (hh : DE th σ H S (.int (m : Nat))) : DE (tSl (rSlF K) ts (tPart tl) (tPart th)) σ H S (.tup true ((ds.drop k).take (m - k))) := fun H1 S1 Q x q =>
  h H1 S1 _ x fun v H2 k2 o => (hl.lift (x.then k2)).go (Lv.same k2 x.live) fun u H3 k3 o3 => by
    have e := o3.int_inv
    subst e
    refine ⟨_, rfl, (hh.lift ((x.then k2).then k3)).go (Lv.same k3 (Lv.same k2 x.live)) fun u H4 k4 o4 => ?_⟩
    have e := o4.int_inv
    subst e
    exact ⟨_, rfl, slF_go (lo := k) (hi := some m) (.inr rfl) ((o.same k3).same k4) (Lv.same k4 (Lv.same k3 (Lv.same k2 x.live))) fun u H5 k5 o5 => q _ _ (((k2.trans k3).trans k4).trans k5) o5⟩
/-- t.count(a text) of a tuple of texts without a dict -/
theorem D_count {to : TE} {ws : List Str} {k : Str} (h : DE to σ H S (.tup true (ws.map Dt.str))) : DE (tBMF (rTCnt K) to (tCons (tC (.str k)) tNil)) σ H S (.int ((ws.countP fun y => decide (y = k) : Nat))) := fun H1 S1 Q x q =>
  h H1 S1 _ x fun v H2 k2 o => by
    obtain ⟨a, xs, rfl, ea, na, oa⟩ := o.tup_inv
    have e := oa.strs
    subst e
    exact ⟨⟨a, _, rfl, ea⟩, a, ws, k, rfl, rfl, ea.sq, q _ _ k2 (.int _)⟩
end
end Lc
namespace Lc
open PySem PySem.Spec PyProof.Rows L2 RZ PySem.W
/-! ### what the slots hold, no heap in sight -/
/-- a slot: nothing known, a datum, a list of its own that may change, just that value -/
inductive Sl where | no | d (d : Dt) | o (ds : List Dt) | v (v : V)
abbrev Rho := List Sl
structure En (H : Hp) (S : AS) (σ : L2.St) (ρ : Rho) : Prop where
  len : σ.length = ρ.length
  lv : Lv H S
  dat : ∀ {i : Nat} {d : Dt}, ρ[i]? = some (.d d) → ∃ v, σ[i]? = some (some v) ∧ Oc H S v d
  own : ∀ {i : Nat} {ds : List Dt}, ρ[i]? = some (.o ds) → ∃ a vs, σ[i]? = some (some (.ref a)) ∧ S a ∧ H a = some (.lst vs) ∧ Ocs H S vs ds
  val : ∀ {i : Nat} {u : V}, ρ[i]? = some (.v u) → σ[i]? = some (some u)
  inj : ∀ {i j : Nat} {ds es : List Dt} {a : Addr}, ρ[i]? = some (.o ds) → ρ[j]? = some (.o es) → σ[i]? = some (some (.ref a)) → σ[j]? = some (some (.ref a)) → i = j
/-- data stay data -/
structure Mv (H : Hp) (S : AS) (H' : Hp) (S' : AS) : Prop where
  ob : ∀ {u : V} {e : Dt}, Oc H S u e → Oc H' S' u e
  lv : Lv H' S'
theorem Mv.refl {H : Hp} {S : AS} (l : Lv H S) : Mv H S H S := ⟨fun h => h, l⟩
theorem Mv.trans {H H1 H2 : Hp} {S S1 S2 : AS} (x : Mv H S H1 S1) (y : Mv H1 S1 H2 S2) : Mv H S H2 S2 := ⟨fun h => y.ob (x.ob h), y.lv⟩
theorem Lift.mv {H H' : Hp} {S S' : AS} (x : Lift H S H' S') : Mv H S H' S' := ⟨fun h => x.ob h, x.live⟩
theorem Mv.same {H H' : Hp} {S : AS} (l : Lv H S) (k : Same H H') : Mv H S H' S := ⟨fun h => h.same k, Lv.same k l⟩
theorem Mv.obs {H H1 : Hp} {S S1 : AS} (x : Mv H S H1 S1) : ∀ {us : List V} {es : List Dt}, Ocs H S us es → Ocs H1 S1 us es
  | _, _, .nil => .nil
  | _, _, .cons h t => .cons (x.ob h) (Mv.obs x t)
section
variable {H H' : Hp} {S S' : AS} {σ : L2.St} {ρ : Rho} {K : PySem.W.Frag}
theorem En.lift (e : En H S σ ρ) (x : Lift H S H' S') : En H' S' σ ρ where
  len := e.len
  lv := x.live
  dat h := let ⟨v, hv, o⟩ := e.dat h; ⟨v, hv, x.ob o⟩
  own h := let ⟨a, vs, hv, sa, ha, o⟩ := e.own h; ⟨a, vs, hv, x.sub _ sa, x.same _ _ ha, x.obs o⟩
  val := e.val
  inj := e.inj
theorem En.same (e : En H S σ ρ) (k : Same H H') : En H' S σ ρ := e.lift ((Lift.refl e.lv).then k)
theorem sl_set {α : Type} {l : List α} {i j : Nat} {x y : α} (h : (l.set i x)[j]? = some y) : (i = j ∧ x = y) ∨ (i ≠ j ∧ l[j]? = some y) := by
  by_cases e : i = j
  · subst e
    by_cases hl : i < l.length
    · rw [List.getElem?_set_self hl] at h; exact .inl ⟨rfl, Option.some.inj h⟩
    · rw [List.getElem?_eq_none (by rw [List.length_set]; omega)] at h; cases h
  · rw [List.getElem?_set_ne e] at h; exact .inr ⟨e, h⟩
theorem En.set {i : Nat} {v : V} {d : Dt} (e : En H S σ ρ) (o : Oc H S v d) : En H S (σ.set i (some v)) (ρ.set i (.d d)) where
  len := by rw [List.length_set, List.length_set]; exact e.len
  lv := e.lv
  dat {j d'} h := by
    rcases sl_set h with ⟨rfl, z⟩ | ⟨ne, h⟩
    · cases z
      have hl : i < ρ.length := by
        have := (List.getElem?_eq_some_iff.mp h).1; rwa [List.length_set] at this
      exact ⟨v, List.getElem?_set_self (by rw [e.len]; exact hl), o⟩
    · obtain ⟨u, hu, ou⟩ := e.dat h
      exact ⟨u, by rw [List.getElem?_set_ne ne]; exact hu, ou⟩
  own {j ds} h := by
    rcases sl_set h with ⟨rfl, z⟩ | ⟨ne, h⟩
    · cases z
    · obtain ⟨a, vs, hu, x⟩ := e.own h
      exact ⟨a, vs, by rw [List.getElem?_set_ne ne]; exact hu, x⟩
  val {j u} h := by
    rcases sl_set h with ⟨rfl, z⟩ | ⟨ne, h⟩
    · cases z
    · rw [List.getElem?_set_ne ne]; exact e.val h
  inj {j k ds es a} h1 h2 g1 g2 := by
    rcases sl_set h1 with ⟨rfl, z⟩ | ⟨n1, h1⟩
    · cases z
    rcases sl_set h2 with ⟨rfl, z⟩ | ⟨n2, h2⟩
    · cases z
    rw [List.getElem?_set_ne n1] at g1
    rw [List.getElem?_set_ne n2] at g2
    exact e.inj h1 h2 g1 g2
theorem En.clr {i : Nat} {v : Option V} (e : En H S σ ρ) : En H S (σ.set i v) (ρ.set i .no) where
  len := by rw [List.length_set, List.length_set]; exact e.len
  lv := e.lv
  dat {j d'} h := by
    rcases sl_set h with ⟨rfl, z⟩ | ⟨ne, h⟩
    · cases z
    · obtain ⟨u, hu, ou⟩ := e.dat h
      exact ⟨u, by rw [List.getElem?_set_ne ne]; exact hu, ou⟩
  own {j ds} h := by
    rcases sl_set h with ⟨rfl, z⟩ | ⟨ne, h⟩
    · cases z
    · obtain ⟨a, vs, hu, x⟩ := e.own h
      exact ⟨a, vs, by rw [List.getElem?_set_ne ne]; exact hu, x⟩
  val {j u} h := by
    rcases sl_set h with ⟨rfl, z⟩ | ⟨ne, h⟩
    · cases z
    · rw [List.getElem?_set_ne ne]; exact e.val h
  inj {j k ds es a} h1 h2 g1 g2 := by
    rcases sl_set h1 with ⟨rfl, z⟩ | ⟨n1, h1⟩
    · cases z
    rcases sl_set h2 with ⟨rfl, z⟩ | ⟨n2, h2⟩
    · cases z
    rw [List.getElem?_set_ne n1] at g1
    rw [List.getElem?_set_ne n2] at g2
    exact e.inj h1 h2 g1 g2
/-- a new list of its own -/
theorem En.setO {i : Nat} {a : Addr} {vs : List V} {ds : List Dt} (e : En H S σ ρ) (k : Same H H') (na : H a = none) (ha : H' a = some (.lst vs)) (oc : Ocs H' (And1 S a) vs ds) : En H' (And1 S a) (σ.set i (some (.ref a))) (ρ.set i (.o ds)) where
  len := by rw [List.length_set, List.length_set]; exact e.len
  lv := fun b hb => by
    rcases hb with hb | rfl
    · exact Lv.same k e.lv b hb
    · rw [ha]; exact fun z => nomatch z
  dat {j d'} h := by
    rcases sl_set h with ⟨rfl, z⟩ | ⟨ne, h⟩
    · cases z
    · obtain ⟨u, hu, ou⟩ := e.dat h
      exact ⟨u, by rw [List.getElem?_set_ne ne]; exact hu, (ou.add na).same k⟩
  own {j ds'} h := by
    rcases sl_set h with ⟨rfl, z⟩ | ⟨ne, h⟩
    · cases z
      have hl : i < ρ.length := by
        have := (List.getElem?_eq_some_iff.mp h).1; rwa [List.length_set] at this
      exact ⟨a, vs, List.getElem?_set_self (by rw [e.len]; exact hl), .inr rfl, ha, oc⟩
    · obtain ⟨b, ws, hu, sb, hb, ob⟩ := e.own h
      exact ⟨b, ws, by rw [List.getElem?_set_ne ne]; exact hu, .inl sb, k _ _ hb, (ob.add na).same k⟩
  val {j u} h := by
    rcases sl_set h with ⟨rfl, z⟩ | ⟨ne, h⟩
    · cases z
    · rw [List.getElem?_set_ne ne]; exact e.val h
  inj {j k' ds' es b} h1 h2 g1 g2 := by
    rcases sl_set h1 with ⟨rfl, z⟩ | ⟨n1, h1⟩ <;> rcases sl_set h2 with ⟨rfl, z2⟩ | ⟨n2, h2⟩
    · rfl
    · have hl : i < σ.length := by
        have := (List.getElem?_eq_some_iff.mp g1).1; rwa [List.length_set] at this
      rw [List.getElem?_set_self hl] at g1
      rw [List.getElem?_set_ne n2] at g2
      cases g1
      obtain ⟨c, ws, hc, _, hb, _⟩ := e.own h2
      rw [g2] at hc; cases hc
      rw [na] at hb; cases hb
    · have hl : i < σ.length := by
        have := (List.getElem?_eq_some_iff.mp g2).1; rwa [List.length_set] at this
      rw [List.getElem?_set_self hl] at g2
      rw [List.getElem?_set_ne n1] at g1
      cases g2
      obtain ⟨c, ws, hc, _, hb, _⟩ := e.own h1
      rw [g1] at hc; cases hc
      rw [na] at hb; cases hb
    · rw [List.getElem?_set_ne n1] at g1
      rw [List.getElem?_set_ne n2] at g2
      exact e.inj h1 h2 g1 g2
/-- a list of its own changes -/
theorem En.put {i : Nat} {a : Addr} {ws : List V} {ds es : List Dt} (e : En H S σ ρ) (hi : ρ[i]? = some (.o ds)) (ha : σ[i]? = some (some (.ref a))) (oc : Ocs H S ws es) : En (upd H a (.lst ws)) S σ (ρ.set i (.o es)) where
  len := by rw [List.length_set]; exact e.len
  lv := fun b hb z => by
    by_cases c : b = a
    · subst c; rw [upd_same] at z; cases z
    · rw [upd_ne c] at z; exact e.lv b hb z
  dat {j d'} h := by
    rcases sl_set h with ⟨rfl, z⟩ | ⟨ne, h⟩
    · cases z
    · obtain ⟨u, hu, ou⟩ := e.dat h
      obtain ⟨b, _, hb, sb, _⟩ := e.own hi
      rw [ha] at hb; cases hb
      exact ⟨u, hu, ou.put sb⟩
  own {j ds'} h := by
    obtain ⟨b, _, hb, sb, _⟩ := e.own hi
    rw [ha] at hb; cases hb
    rcases sl_set h with ⟨rfl, z⟩ | ⟨ne, h⟩
    · cases z
      exact ⟨a, ws, ha, sb, upd_same, oc.put sb⟩
    · obtain ⟨c, us, hu, sc, hc, oc2⟩ := e.own h
      have nc : c ≠ a := fun z => by subst z; exact ne (e.inj hi h ha hu)
      exact ⟨c, us, hu, sc, by rw [upd_ne nc]; exact hc, oc2.put sb⟩
  val {j u} h := by
    rcases sl_set h with ⟨rfl, z⟩ | ⟨ne, h⟩
    · cases z
    · exact e.val h
  inj {j k' ds' es' b} h1 h2 g1 g2 := by
    have f : ∀ {j : Nat} {es' : List Dt}, (ρ.set i (.o es))[j]? = some (.o es') → ∃ x, ρ[j]? = some (.o x) := fun h => by
      rcases sl_set h with ⟨rfl, z⟩ | ⟨ne, h⟩
      · exact ⟨_, hi⟩
      · exact ⟨_, h⟩
    obtain ⟨x, h1⟩ := f h1
    obtain ⟨y, h2⟩ := f h2
    exact e.inj h1 h2 g1 g2
/-- a list of its own is a datum from now on -/
theorem En.frz {i : Nat} {a : Addr} {ds : List Dt} (e : En H S σ ρ) (hi : ρ[i]? = some (.o ds)) (ha : σ[i]? = some (some (.ref a))) : En H (fun b => S b ∧ b ≠ a) σ (ρ.set i (.d (.lst ds))) where
  len := by rw [List.length_set]; exact e.len
  lv := fun b hb => e.lv b hb.1
  dat {j d'} h := by
    rcases sl_set h with ⟨rfl, z⟩ | ⟨ne, h⟩
    · cases z
      obtain ⟨b, vs, hb, sb, hv, ov⟩ := e.own hi
      rw [ha] at hb; cases hb
      exact ⟨_, ha, .lst hv (fun z => z.2 rfl) (ov.sub fun _ z => z.1)⟩
    · obtain ⟨u, hu, ou⟩ := e.dat h
      exact ⟨u, hu, ou.sub fun _ z => z.1⟩
  own {j ds'} h := by
    rcases sl_set h with ⟨rfl, z⟩ | ⟨ne, h⟩
    · cases z
    · obtain ⟨c, us, hu, sc, hc, oc2⟩ := e.own h
      have nc : c ≠ a := fun z => by subst z; exact ne (e.inj hi h ha hu)
      exact ⟨c, us, hu, ⟨sc, nc⟩, hc, oc2.sub fun _ z => z.1⟩
  val {j u} h := by
    rcases sl_set h with ⟨rfl, z⟩ | ⟨ne, h⟩
    · cases z
    · exact e.val h
  inj {j k' ds' es' b} h1 h2 g1 g2 := by
    rcases sl_set h1 with ⟨rfl, z⟩ | ⟨n1, h1⟩
    · cases z
    rcases sl_set h2 with ⟨rfl, z⟩ | ⟨n2, h2⟩
    · cases z
    exact e.inj h1 h2 g1 g2
def wipeR (ρ : Rho) : List Nat → Rho
  | [] => ρ
  | v :: vs => (wipeR ρ vs).set v .no
theorem En.wipe (e : En H S σ ρ) : ∀ vs : List Nat, En H S (L2.wipe σ vs) (wipeR ρ vs)
  | [] => e
  | v :: vs => (En.wipe e vs).clr

theorem wipe_set {σ : L2.St} {v : Option V} {i : Nat} : ∀ {vs : List Nat}, i ∈ vs → L2.wipe (σ.set i v) vs = L2.wipe σ vs
  | j :: vs, h => by
    show (L2.wipe (σ.set i v) vs).set j none = (L2.wipe σ vs).set j none
    by_cases c : i ∈ vs
    · rw [wipe_set c]
    · have e : i = j := by
        rcases List.mem_cons.mp h with e | e
        · exact e
        · exact absurd e c
      subst e
      have f : ∀ us : List Nat, i ∉ us → L2.wipe (σ.set i v) us = (L2.wipe σ us).set i v := by
        intro us
        induction us with
        | nil => intro _; rfl
        | cons k us ih =>
          intro hn
          show (L2.wipe (σ.set i v) us).set k none = ((L2.wipe σ us).set k none).set i v
          have hk : i ≠ k := fun z => hn (z ▸ List.mem_cons_self)
          rw [ih (fun z => hn (List.mem_cons_of_mem _ z)), List.set_comm _ _ hk]
      rw [f vs c, List.set_set]
theorem wipe_wipe (σ : L2.St) (vs : List Nat) : L2.wipe (L2.wipe σ vs) vs = L2.wipe σ vs := by
  have g : ∀ (us : List Nat) (τ : L2.St), (∀ x ∈ us, x ∈ vs) → L2.wipe (L2.wipe τ us) vs = L2.wipe τ vs := by
    intro us
    induction us with
    | nil => intro τ _; rfl
    | cons k us ih =>
      intro τ h
      show L2.wipe ((L2.wipe τ us).set k none) vs = _
      rw [wipe_set (h k List.mem_cons_self)]
      exact ih τ fun x hx => h x (List.mem_cons_of_mem _ hx)
  exact g vs σ fun _ h => h
end
/-! ### expressions -/
def Ep (te : TE) (ρ : Rho) (d : Dt) : Prop := ∀ H S σ, En H S σ ρ → DE te σ H S d
def Et (tt : TT) (ρ : Rho) (b : Bool) : Prop := ∀ H S σ, En H S σ ρ → DT tt σ H S b
def Ea (ta : TA) (ρ : Rho) (ds : List Dt) : Prop := ∀ H S σ, En H S σ ρ → DA ta σ H S ds
/-- a list to be read -/
def El (te : TE) (ρ : Rho) (ds : List Dt) : Prop := ∀ H S σ (Q : VK), En H S σ ρ → (∀ a vs H2, Same H H2 → H2 a = some (.lst vs) → Ocs H2 S vs ds → Q (.ref a) H2) → te σ H Q
/-- a new list -/
def Ef (te : TE) (ρ : Rho) (ds : List Dt) : Prop := ∀ H S σ (Q : VK), En H S σ ρ → (∀ a vs H2, Same H H2 → H a = none → H2 a = some (.lst vs) → Ocs H2 (And1 S a) vs ds → Q (.ref a) H2) → te σ H Q
section
variable {ρ : Rho} {K : PySem.W.Frag} {te ta tb tl : TE} {tt tu : TT} {d e : Dt} {ds es : List Dt} {i j : Int}
theorem Ep.go {H : Hp} {S : AS} {σ : L2.St} {Q : VK} (h : Ep te ρ d) (en : En H S σ ρ) (q : ∀ v H2, Same H H2 → Oc H2 S v d → Q v H2) : te σ H Q := (h H S σ en).go en.lv q
theorem Et.go {H : Hp} {S : AS} {σ : L2.St} {Q : Bool → Hp → Prop} {b : Bool} (h : Et tt ρ b) (en : En H S σ ρ) (q : ∀ H2, Same H H2 → Q b H2) : tt σ H Q := (h H S σ en).go en.lv q
theorem Ef.l (h : Ef te ρ ds) : El te ρ ds := fun H S σ Q en q => h H S σ Q en fun a vs H2 k na ha oc => q a vs H2 k ha (oc.sub fun _ z => .inl z)
theorem Ep.l (h : Ep te ρ (.lst ds)) : El te ρ ds := fun H S σ Q en q => h.go en fun v H2 k o => by
  obtain ⟨a, vs, rfl, ha, _, oc⟩ := o.lst_inv
  exact q a vs H2 k ha oc
theorem Ef.p (h : Ef te ρ ds) : Ep te ρ (.lst ds) := fun H S σ en H1 S1 Q x q => h H1 S1 σ Q (en.lift x) fun a vs H2 k na ha oc => q _ _ k (.lst ha (Lv.out x.live na) (oc.sub fun _ z => .inl z))
theorem E_var {i : Nat} (h : ρ[i]? = some (.d d)) : Ep (tVar i) ρ d := fun H S σ en => by
  obtain ⟨v, hv, o⟩ := en.dat h
  exact D_var hv o
theorem E_own {i : Nat} (h : ρ[i]? = some (.o ds)) : El (tVar i) ρ ds := fun H S σ Q en q => by
  obtain ⟨a, vs, hv, _, ha, oc⟩ := en.own h
  exact ⟨_, hv, q a vs H (fun _ _ z => z) ha oc⟩
theorem E_int (i : Int) : Ep (tC (.int i)) ρ (.int i) := fun H S σ en => D_int i
theorem E_str (i : Str) : Ep (tC (.str i)) ρ (.str i) := fun H S σ en => D_str i
theorem E_bl (i : Bool) : Ep (tC (.bl i)) ρ (.bl i) := fun H S σ en => D_bl i
theorem E_non : Ep (tC .non) ρ .non := fun H S σ en H1 S1 Q x q => q _ _ (fun _ _ z => z) .non
theorem E_eq (h : Ep te ρ d) (z : d = e) : Ep te ρ e := z ▸ h
theorem Ef.eq (h : Ef te ρ ds) (z : ds = es) : Ef te ρ es := z ▸ h
theorem El.eq (h : El te ρ ds) (z : ds = es) : El te ρ es := z ▸ h
theorem Et.eq {b c : Bool} (h : Et tt ρ b) (z : b = c) : Et tt ρ c := z ▸ h
theorem Ea.eq {ta : TA} (h : Ea ta ρ ds) (z : ds = es) : Ea ta ρ es := z ▸ h
theorem E_add (ha : Ep ta ρ (.int i)) (hb : Ep tb ρ (.int j)) : Ep (tOp (rI0 fun i j => .int (i + j)) ta tb) ρ (.int (i + j)) := fun H S σ en => D_add (ha H S σ en) (hb H S σ en)
theorem E_sub (ha : Ep ta ρ (.int i)) (hb : Ep tb ρ (.int j)) : Ep (tOp (rI0 fun i j => .int (i - j)) ta tb) ρ (.int (i - j)) := fun H S σ en => D_sub (ha H S σ en) (hb H S σ en)
theorem E_op0 {f : Int → Int → V} {g : Int → Int → Dt} (hf : ∀ H S i j, Oc H S (f i j) (g i j)) (ha : Ep ta ρ (.int i)) (hb : Ep tb ρ (.int j)) : Ep (tOp (rI0 f) ta tb) ρ (g i j) := fun H S σ en H1 S1 Q x q =>
  (ha.go (en.lift x)) fun v H2 k o => (hb.go ((en.lift x).same k)) fun u H3 k3 o3 => by
    rw [o.int_inv, o3.int_inv]
    exact ⟨i, j, rfl, rfl, q _ _ (k.trans k3) (hf _ _ _ _)⟩
theorem E_lt (ha : Ep ta ρ (.int i)) (hb : Ep tb ρ (.int j)) : Ep (tOp (rI0 fun i j => .bl (decide (i < j))) ta tb) ρ (.bl (decide (i < j))) := E_op0 (g := fun i j => .bl (decide (i < j))) (fun _ _ _ _ => .bl _) ha hb
theorem E_le (ha : Ep ta ρ (.int i)) (hb : Ep tb ρ (.int j)) : Ep (tOp (rI0 fun i j => .bl (decide (i ≤ j))) ta tb) ρ (.bl (decide (i ≤ j))) := E_op0 (g := fun i j => .bl (decide (i ≤ j))) (fun _ _ _ _ => .bl _) ha hb
theorem E_gt (ha : Ep ta ρ (.int i)) (hb : Ep tb ρ (.int j)) : Ep (tOp (rI0 fun i j => .bl (decide (j < i))) ta tb) ρ (.bl (decide (j < i))) := E_op0 (g := fun i j => .bl (decide (j < i))) (fun _ _ _ _ => .bl _) ha hb
theorem E_ge (ha : Ep ta ρ (.int i)) (hb : Ep tb ρ (.int j)) : Ep (tOp (rI0 fun i j => .bl (decide (j ≤ i))) ta tb) ρ (.bl (decide (j ≤ i))) := E_op0 (g := fun i j => .bl (decide (j ≤ i))) (fun _ _ _ _ => .bl _) ha hb
theorem E_neg {n : Int} (h : Ep te ρ (.int n)) : Ep (tUn (rU fun i => .int (-i)) te) ρ (.int (-n)) := fun H S σ en H1 S1 Q x q => (h.go (en.lift x)) fun v H2 k o => by
  rw [o.int_inv]; exact ⟨n, rfl, q _ _ k (.int _)⟩
theorem E_nil : Ea tNil ρ [] := fun H S σ en => D_nil
theorem E_cons {t : TA} (h : Ep te ρ d) (ht : Ea t ρ ds) : Ea (tCons te t) ρ (d :: ds) := fun H S σ en => D_cons (h H S σ en) (ht H S σ en)
theorem E_starL {t : TA} (h : El te ρ ds) (ht : Ea t ρ es) : Ea (StX.tStar K te t) ρ (ds ++ es) := fun H S σ en H1 S1 Q x q =>
  h H1 S1 σ _ (en.lift x) fun a vs H2 k ha oa => ⟨a, vs, rfl, .inr (SqL.of ha), (ht H2 S1 σ ((en.lift x).same k)) H2 S1 _ (Lift.refl (Lv.same k x.live)) fun ws H3 k3 o3 => q _ _ (k.trans k3) ((oa.same k3).append o3)⟩
theorem E_starT {t : TA} {z : Bool} (h : Ep te ρ (.tup z ds)) (ht : Ea t ρ es) : Ea (StX.tStar K te t) ρ (ds ++ es) := fun H S σ en => D_starT (h H S σ en) (ht H S σ en)
theorem E_tup {t : TA} (h : Ea t ρ ds) (hz : ds.length ≤ 1000) : Ep (tTupF t) ρ (.tup true ds) := fun H S σ en => D_tup (h H S σ en) hz
theorem E_lst {t : TA} (h : Ea t ρ ds) (hz : ds.length ≤ 1000000) : Ef (tLst t) ρ ds := fun H S σ Q en q =>
  h H S σ en H S _ (Lift.refl en.lv) fun vs H2 k o => ⟨Nat.le_trans (show _ ≤ 1000000 by rw [o.len]; exact hz) (by decide), fun p hp => by
    have hn : H p = none := by
      cases c : H p with
      | none => rfl
      | some u => rw [k _ _ c] at hp; cases hp
    exact q p vs _ (k.trans (same_upd hp)) hn upd_same ((o.add hp).same (same_upd hp))⟩
theorem E_cat (ha : Ep ta ρ (.tup true ds)) (hb : Ep tb ρ (.tup true es)) (hz : ds.length + es.length ≤ 1000) : Ep (tOp (rCatF K) ta tb) ρ (.tup true (ds ++ es)) := fun H S σ en => D_cat (ha H S σ en) (hb H S σ en) hz
theorem E_catL (ha : El ta ρ ds) (hb : El tb ρ es) (hz : ds.length + es.length ≤ 1000000) : Ef (tOp rCat ta tb) ρ (ds ++ es) := fun H S σ Q en q =>
  ha H S σ _ en fun a xs H2 k ea oa => hb H2 S σ _ (en.same k) fun b ys H3 k3 eb ob => by
    have la := oa.len
    have lb := ob.len
    refine ⟨a, b, xs, ys, rfl, rfl, k3 _ _ ea, eb, Nat.le_trans (show _ ≤ 1000000 by omega) (by decide), fun p hp => ?_⟩
    have hn : H p = none := none_back (k.trans k3) hp
    exact q p _ _ ((k.trans k3).trans (same_upd hp)) hn upd_same ((((oa.same k3).append ob).add hp).same (same_upd hp))
theorem E_tupOf (h : El te ρ ds) : Ep (tTupOfF K te) ρ (.tup true ds) := fun H S σ en H1 S1 Q x q =>
  h H1 S1 σ _ (en.lift x) fun a vs H2 k ha oa => ⟨a, vs, rfl, SqL.of ha, fun p H3 hp k3 tp g => q _ _ (k.trans k3) (.tup tp (Lv.out (Lv.same k x.live) hp) (oa.same k3))⟩
theorem E_ixT {z : Bool} {n : Nat} (ha : Ep ta ρ (.tup z ds)) (hb : Ep tb ρ (.int (n : Nat))) (hd : ds[n]? = some d) : Ep (tOp (rIxT K) ta tb) ρ d := fun H S σ en => D_ixT (ha H S σ en) (hb H S σ en) hd
theorem E_ixL {n : Nat} (ha : El ta ρ ds) (hb : Ep tb ρ (.int (n : Nat))) (hd : ds[n]? = some d) : Ep (tOp (rIxL K) ta tb) ρ d := fun H S σ en H1 S1 Q x q =>
  ha H1 S1 σ _ (en.lift x) fun a xs H2 k ea oa => (hb.go ((en.lift x).same k)) fun u H3 k3 o3 => by
    have e := o3.int_inv
    subst e
    obtain ⟨w, hw, ow⟩ := (oa.same k3).at hd
    exact ⟨a, xs, _, w, rfl, rfl, SqL.of (k3 _ _ ea), atI_nat hw, q _ _ (k.trans k3) ow⟩
theorem E_last (ha : El ta ρ (ds ++ [d])) : Ep (tOp (rIxL K) ta (tUn (rU fun i => .int (-i)) (tC (.int 1)))) ρ d := fun H S σ en H1 S1 Q x q =>
  ha H1 S1 σ _ (en.lift x) fun a xs H2 k ea oa => by
    have l := oa.len
    rw [List.length_append, List.length_singleton] at l
    have e : xs = xs.dropLast ++ [xs.getLast (by intro z; subst z; simp at l)] := (List.dropLast_concat_getLast _).symm
    generalize xs.getLast (by intro z; subst z; simp at l) = y at e
    generalize xs.dropLast = ys at e
    subst e
    obtain ⟨d', e1, o1⟩ := oa.get (i := ys.length) (x := y) (by rw [List.getElem?_append_right (Nat.le_refl _), Nat.sub_self]; rfl)
    rw [List.length_append, List.length_singleton] at l
    have l2 : ys.length = ds.length := by omega
    rw [l2, List.getElem?_append_right (Nat.le_refl _), Nat.sub_self] at e1
    have e3 := Option.some.inj (show some d = some d' from e1)
    subst e3
    exact ⟨_, rfl, a, _, _, y, rfl, rfl, SqL.of ea, atI_last ys y, q _ _ k o1⟩
theorem E_lenL (h : El te ρ ds) : Ep (tCB (fun xs H Q => ∃ p ys, xs = [.ref p] ∧ (SqL K H p ys ∨ SqT K H p ys) ∧ Q (.int ys.length) H) (tCons te tNil)) ρ (.int (ds.length : Nat)) := fun H S σ en H1 S1 Q x q =>
  h H1 S1 σ _ (en.lift x) fun a vs H2 k ha oa => ⟨a, vs, rfl, .inl (SqL.of ha), by rw [oa.len]; exact q _ _ k (.int _)⟩
theorem E_lenT {z : Bool} (h : Ep te ρ (.tup z ds)) : Ep (tCB (fun xs H Q => ∃ p ys, xs = [.ref p] ∧ (SqL K H p ys ∨ SqT K H p ys) ∧ Q (.int ys.length) H) (tCons te tNil)) ρ (.int (ds.length : Nat)) := fun H S σ en H1 S1 Q x q =>
  h.go (en.lift x) fun v H2 k o => by
    obtain ⟨a, xs, rfl, ea, na, oa⟩ := o.tup_inv
    exact ⟨a, xs, rfl, .inr ea.sq, by rw [oa.len]; exact q _ _ k (.int _)⟩
theorem E_if {b : Bool} (ht : Et tt ρ b) (h1 : b = true → Ep ta ρ d) (h0 : b = false → Ep tb ρ d) : Ep (tIf tt ta tb) ρ d := fun H S σ en => D_if (ht H S σ en) (fun z => h1 z H S σ en) fun z => h0 z H S σ en
theorem E_test {b : Bool} (h : Ep te ρ (.bl b)) : Et (tTest te) ρ b := fun H S σ en H1 S1 Q x q => h.go (en.lift x) fun v H2 k o => by
  rw [o.bl_inv]; exact ⟨b, rfl, q H2 k⟩
theorem E_val {b : Bool} (h : Ep te ρ (.bl b)) : Et (tB te) ρ b := fun H S σ en => T_val (h H S σ en)
theorem E_not {b : Bool} (h : Et tt ρ b) : Et (tNot tt) ρ (!b) := fun H S σ en => T_not (h H S σ en)
theorem E_tand {b c : Bool} (h : Et tt ρ b) (h2 : b = true → Et tu ρ c) : Et (tAnd tt tu) ρ (b && c) := fun H S σ en H1 S1 Q x q => h.go (en.lift x) fun H2 k => by
  cases b with
  | false => exact iteF (q _ k)
  | true => exact iteT ((h2 rfl).go ((en.lift x).same k) fun H3 k3 => q _ (k.trans k3))
theorem E_tor {b c : Bool} (h : Et tt ρ b) (h2 : b = false → Et tu ρ c) : Et (tOr tt tu) ρ (b || c) := fun H S σ en H1 S1 Q x q => h.go (en.lift x) fun H2 k => by
  cases b with
  | true => exact iteT (q _ k)
  | false => exact iteF ((h2 rfl).go ((en.lift x).same k) fun H3 k3 => q _ (k.trans k3))
theorem E_and {b c : Bool} (h : Ep ta ρ (.bl b)) (h2 : b = true → Ep tb ρ (.bl c)) : Ep (tAndV ta tb) ρ (.bl (b && c)) := fun H S σ en H1 S1 Q x q => h.go (en.lift x) fun v H2 k o => by
  rw [o.bl_inv]
  refine ⟨b, rfl, ?_⟩
  cases b with
  | false => exact iteF (q _ _ k (.bl _))
  | true => exact iteT ((h2 rfl).go ((en.lift x).same k) fun u H3 k3 o3 => by rw [o3.bl_inv]; exact q _ _ (k.trans k3) (.bl _))
theorem E_or {b c : Bool} (h : Ep ta ρ (.bl b)) (h2 : b = false → Ep tb ρ (.bl c)) : Ep (tOrV ta tb) ρ (.bl (b || c)) := fun H S σ en H1 S1 Q x q => h.go (en.lift x) fun v H2 k o => by
  rw [o.bl_inv]
  refine ⟨b, rfl, ?_⟩
  cases b with
  | true => exact iteT (q _ _ k (.bl _))
  | false => exact iteF ((h2 rfl).go ((en.lift x).same k) fun u H3 k3 o3 => by rw [o3.bl_inv]; exact q _ _ (k.trans k3) (.bl _))
/-- o.f -/
theorem E_fld {C : Addr} {ns : List Str} {f : Str} (h : Ep te ρ (.ins C ns ds)) (c : Cls K C) (n : NoAttr K C f) (l : (ns.zip ds).lookup f = some d) : Ep (tFld K te f) ρ d := fun H S σ en H1 S1 Q x q => h.go (en.lift x) fun v H2 k o => by
  obtain ⟨a, dx, fs, rfl, ha, na, hn, oa⟩ := o.ins_inv
  have key : ∀ (fs : List (Str × V)) (ns : List Str) (ds : List Dt), fs.map Prod.fst = ns → Ocs H2 S1 (fs.map Prod.snd) ds → (ns.zip ds).lookup f = some d → ∃ v, fs.lookup f = some v ∧ Oc H2 S1 v d := by
    intro fs
    induction fs with
    | nil => intro ns ds h1 h2 h3; cases h1; cases h2; cases h3
    | cons q r ih =>
      intro ns ds h1 h2 h3
      subst h1
      cases h2 with
      | @cons _ d' _ ds' o t =>
        obtain ⟨g, u⟩ := q
        rw [List.map_cons, List.zip_cons_cons, List.lookup_cons] at h3
        rw [List.lookup_cons]
        cases c : f == g with
        | true => rw [c] at h3; cases h3; exact ⟨u, rfl, o⟩
        | false => rw [c] at h3; exact ih _ _ rfl t h3
  obtain ⟨u, hl, ou⟩ := key fs ns ds hn oa l
  exact ⟨_, C, dx, fs, u, rfl, ha, c, n, hl, q _ _ k ou⟩
/-! ### calls -/
/-- a def that makes a datum of data -/
def spF (pre : List Dt → Prop) (F : List Dt → Dt) : Sp := fun vs H Q _ => ∃ (S : AS) (ds : List Dt), Ocs H S vs ds ∧ Lv H S ∧ pre ds ∧ ∀ v H', Same H H' → Oc H' S v (F ds) → Q v H'
theorem E_call {pre : List Dt → Prop} {F : List Dt → Dt} {E : XK} {t : TA} (h : Ea t ρ ds) (hp : pre ds) : Ep (tCall (spF pre F) [] E t) ρ (F ds) := fun H S σ en => D_fn (h H S σ en) fun H1 S1 vs Q x o q => ⟨S1, ds, o, x.live, hp, fun v H' k o => q v H' k o⟩
end
end Lc
namespace Lc
open PySem PySem.Spec PyProof.Rows L2 RZ PySem.W
/-! ### statements -/
structure Eo where
  nx : Rho → Prop
  rt : Dt → Prop
  bk : Rho → Prop := fun _ => False
  ct : Rho → Prop := fun _ => False
/-- since the entry: what stood stands, own lists are younger -/
structure Rl (H0 : Hp) (S0 : AS) (H : Hp) (S : AS) (σ : L2.St) (ρ : Rho) : Prop where
  same : Same H0 H
  sub : ∀ a, S0 a → S a
  lv0 : Lv H0 S0
  fresh : ∀ {i : Nat} {ds : List Dt} {a : Addr}, ρ[i]? = some (.o ds) → σ[i]? = some (some (.ref a)) → H0 a = none
/-- own lists are some that were -/
structure Ow (σ : L2.St) (ρ : Rho) (σ' : L2.St) (ρ' : Rho) : Prop where
  go : ∀ (i : Nat) (ds : List Dt) (a : Addr), ρ'[i]? = some (.o ds) → σ'[i]? = some (some (.ref a)) → ∃ (j : Nat) (es : List Dt), ρ[j]? = some (.o es) ∧ σ[j]? = some (some (.ref a))
theorem Ow.refl (σ : L2.St) (ρ : Rho) : Ow σ ρ σ ρ := ⟨fun _ _ _ h g => ⟨_, _, h, g⟩⟩
theorem Ow.trans {σ σ1 σ2 : L2.St} {ρ ρ1 ρ2 : Rho} (x : Ow σ ρ σ1 ρ1) (y : Ow σ1 ρ1 σ2 ρ2) : Ow σ ρ σ2 ρ2 := ⟨fun i ds a h g => let ⟨_, _, h1, g1⟩ := y.go i ds a h g; x.go _ _ _ h1 g1⟩
theorem Ow.set {σ : L2.St} {ρ : Rho} {i : Nat} {v : Option V} {d : Dt} : Ow σ ρ (σ.set i v) (ρ.set i (.d d)) := ⟨fun j ds a h g => by
  rcases sl_set h with ⟨rfl, z⟩ | ⟨ne, h⟩
  · cases z
  · rw [List.getElem?_set_ne ne] at g
    exact ⟨_, _, h, g⟩⟩
section
variable {H0 : Hp} {S0 : AS} {H H' : Hp} {S S' : AS} {σ σ' : L2.St} {ρ ρ' : Rho} {K : PySem.W.Frag}
theorem Rl.step (r : Rl H0 S0 H S σ ρ) (k : Same H H') (w : Ow σ ρ σ' ρ') : Rl H0 S0 H' S σ' ρ' := ⟨r.same.trans k, r.sub, r.lv0, fun h g => let ⟨_, _, h1, g1⟩ := w.go _ _ _ h g; r.fresh h1 g1⟩
theorem Rl.refl (l : Lv H S) (n : ∀ (i : Nat) (ds : List Dt), ρ[i]? ≠ some (.o ds)) : Rl H S H S σ ρ := ⟨fun _ _ z => z, fun _ z => z, l, fun h _ => absurd h (n _ _)⟩
theorem Rl.back {v : V} {d : Dt} (r : Rl H0 S0 H S σ ρ) (o : Oc H S v d) : Oc H S0 v d := o.sub r.sub
def Sv (H0 : Hp) (S0 : AS) (ts : TS) (ρ : Rho) (O : Eo) : Prop := ∀ (H : Hp) (S : AS) (σ : L2.St) (D : Ends), En H S σ ρ → Rl H0 S0 H S σ ρ →
  (∀ ρ' H' S' σ', O.nx ρ' → En H' S' σ' ρ' → Rl H0 S0 H' S' σ' ρ' → Mv H S H' S' → D.nx σ' H') →
  (∀ d v H', O.rt d → Same H0 H' → Oc H' S0 v d → D.rt v H') →
  (∀ ρ' H' S' σ', O.bk ρ' → En H' S' σ' ρ' → Rl H0 S0 H' S' σ' ρ' → Mv H S H' S' → D.bk σ' H') →
  (∀ ρ' H' S' σ', O.ct ρ' → En H' S' σ' ρ' → Rl H0 S0 H' S' σ' ρ' → Mv H S H' S' → D.ct σ' H') → ts D σ H
variable {O : Eo} {ts tu : TS} {te tl : TE} {tt : TT} {d : Dt} {ds es : List Dt}
theorem Sv_seq (N : Rho → Prop) (h1 : Sv H0 S0 ts ρ { O with nx := N }) (h2 : ∀ ρ', N ρ' → Sv H0 S0 tu ρ' O) : Sv H0 S0 (tSeq ts tu) ρ O := fun H S σ D en rl kn kr kb kc =>
  h1 H S σ { D with nx := tu D } en rl (fun ρ' H' S' σ' n e r m => h2 ρ' n H' S' σ' D e r (fun ρ2 H2 S2 σ2 n2 e2 r2 m2 => kn ρ2 H2 S2 σ2 n2 e2 r2 (m.trans m2)) kr (fun ρ2 H2 S2 σ2 n2 e2 r2 m2 => kb ρ2 H2 S2 σ2 n2 e2 r2 (m.trans m2)) (fun ρ2 H2 S2 σ2 n2 e2 r2 m2 => kc ρ2 H2 S2 σ2 n2 e2 r2 (m.trans m2))) kr kb kc
/-- what follows is the one state -/
theorem Sv_then {ρ1 : Rho} (h1 : Sv H0 S0 ts ρ { O with nx := fun r => r = ρ1 }) (h2 : Sv H0 S0 tu ρ1 O) : Sv H0 S0 (tSeq ts tu) ρ O := Sv_seq (fun r => r = ρ1) h1 fun r e => e ▸ h2
theorem Sv_skip (h : O.nx ρ) : Sv H0 S0 tNext ρ O := fun H S σ D en rl kn kr kb kc => kn ρ H S σ h en rl (Mv.refl en.lv)
theorem Sv_set {i : Nat} (h : Ep te ρ d) (n : O.nx (ρ.set i (.d d))) : Sv H0 S0 (tAsg te (gName i)) ρ O := fun H S σ D en rl kn kr kb kc =>
  h.go en fun v H2 k o => kn _ _ _ _ n ((en.same k).set o) (rl.step k (Ow.set)) (Mv.same en.lv k)
theorem Sv_new {i : Nat} (h : Ef te ρ ds) (n : O.nx (ρ.set i (.o ds))) : Sv H0 S0 (tAsg te (gName i)) ρ O := fun H S σ D en rl kn kr kb kc =>
  h H S σ _ en fun a vs H2 k na ha oc => kn _ _ _ _ n (en.setO k na ha oc) ⟨rl.same.trans k, fun b z => .inl (rl.sub b z), rl.lv0, fun {j ds' b} h g => by
    rcases sl_set h with ⟨rfl, z⟩ | ⟨ne, h⟩
    · have hl : i < σ.length := by
        have := (List.getElem?_eq_some_iff.mp g).1; rwa [List.length_set] at this
      rw [List.getElem?_set_self hl] at g
      cases g
      exact none_back rl.same na
    · rw [List.getElem?_set_ne ne] at g
      exact rl.fresh h g⟩ ⟨fun o => (o.add na).same k, fun b hb => by
        rcases hb with hb | rfl
        · exact Lv.same k en.lv b hb
        · rw [ha]; exact fun z => nomatch z⟩
theorem Sv_setT {i : Nat} {ρ1 : Rho} (h : Ep te ρ d) (e : ρ.set i (.d d) = ρ1) (h2 : Sv H0 S0 tu ρ1 O) : Sv H0 S0 (tSeq (tAsg te (gName i)) tu) ρ O := Sv_then (Sv_set h e) h2
theorem Sv_newT {i : Nat} {ρ1 : Rho} (h : Ef te ρ ds) (e : ρ.set i (.o ds) = ρ1) (h2 : Sv H0 S0 tu ρ1 O) : Sv H0 S0 (tSeq (tAsg te (gName i)) tu) ρ O := Sv_then (Sv_new h e) h2
theorem Sv_drop (h : Ep te ρ d) (n : O.nx ρ) : Sv H0 S0 (tDrop te) ρ O := fun H S σ D en rl kn kr kb kc =>
  h.go en fun v H2 k o => kn _ _ _ _ n (en.same k) (rl.step k (Ow.refl _ _)) (Mv.same en.lv k)
theorem Sv_if {b : Bool} (h : Et tt ρ b) (h1 : b = true → Sv H0 S0 ts ρ O) (h0 : b = false → Sv H0 S0 tu ρ O) : Sv H0 S0 (tIfS tt ts tu) ρ O := fun H S σ D en rl kn kr kb kc =>
  h.go en fun H2 k => by
    have en2 := en.same k
    have rl2 := rl.step k (Ow.refl σ ρ)
    have m0 := Mv.same en.lv k
    cases b with
    | true => exact iteT (h1 rfl H2 S σ D en2 rl2 (fun ρ' H' S' σ' n e r m => kn ρ' H' S' σ' n e r (m0.trans m)) kr (fun ρ' H' S' σ' n e r m => kb ρ' H' S' σ' n e r (m0.trans m)) (fun ρ' H' S' σ' n e r m => kc ρ' H' S' σ' n e r (m0.trans m)))
    | false => exact iteF (h0 rfl H2 S σ D en2 rl2 (fun ρ' H' S' σ' n e r m => kn ρ' H' S' σ' n e r (m0.trans m)) kr (fun ρ' H' S' σ' n e r m => kb ρ' H' S' σ' n e r (m0.trans m)) (fun ρ' H' S' σ' n e r m => kc ρ' H' S' σ' n e r (m0.trans m)))
theorem Sv_ret (h : Ep te ρ d) (n : O.rt d) : Sv H0 S0 (tRet te) ρ O := fun H S σ D en rl kn kr kb kc =>
  h.go en fun v H2 k o => kr d v H2 n (rl.same.trans k) (o.sub rl.sub)
theorem Sv_bk (n : O.bk ρ) : Sv H0 S0 (fun D σ H => D.bk σ H) ρ O := fun H S σ D en rl kn kr kb kc => kb ρ H S σ n en rl (Mv.refl en.lv)
theorem Sv_ct (n : O.ct ρ) : Sv H0 S0 (fun D σ H => D.ct σ H) ρ O := fun H S σ D en rl kn kr kb kc => kc ρ H S σ n en rl (Mv.refl en.lv)
/-- an own list is a datum from here on -/
theorem Sv_frz {i : Nat} {ρ1 : Rho} (hi : ρ[i]? = some (.o ds)) (e : ρ.set i (.d (.lst ds)) = ρ1) (h : Sv H0 S0 ts ρ1 O) : Sv H0 S0 ts ρ O := fun H S σ D en rl kn kr kb kc => by
  obtain ⟨a, vs, ha, sa, hv, oc⟩ := en.own hi
  have na := rl.fresh hi ha
  subst e
  have back : ∀ {u : V} {e : Dt}, Oc H S u e → Oc H (fun b => S b ∧ b ≠ a) u e := fun o => o.sub fun _ z => z.1
  refine h H _ σ D (en.frz hi ha) ⟨rl.same, fun b hb => ⟨rl.sub b hb, fun z => rl.lv0 b hb (z ▸ na)⟩, rl.lv0, fun {j ds' b} h g => ?_⟩ (fun ρ' H' S' σ' n e r m => kn ρ' H' S' σ' n e r ⟨fun o => m.ob (back o), m.lv⟩) kr (fun ρ' H' S' σ' n e r m => kb ρ' H' S' σ' n e r ⟨fun o => m.ob (back o), m.lv⟩) (fun ρ' H' S' σ' n e r m => kc ρ' H' S' σ' n e r ⟨fun o => m.ob (back o), m.lv⟩)
  rcases sl_set h with ⟨rfl, z⟩ | ⟨ne, h⟩
  · cases z
  · exact rl.fresh h g
/-- xs.append(e) -/
theorem Sv_app {i : Nat} (hi : ρ[i]? = some (.o ds)) (h : Ep te ρ d) (hz : ds.length < 1000000) (n : O.nx (ρ.set i (.o (ds ++ [d])))) : Sv H0 S0 (tDrop (tBM K "list" rAppend (tVar i) (tCons te tNil))) ρ O := fun H S σ D en rl kn kr kb kc => by
  obtain ⟨a, vs, ha, sa, hv, oc⟩ := en.own hi
  refine ⟨_, ha, .inl ⟨rfl, _, SqL.of hv⟩, h.go en fun v H2 k o => ⟨a, vs, v, rfl, rfl, k _ _ hv, Nat.lt_of_lt_of_le (show _ < 1000000 by rw [oc.len]; exact hz) (by decide), ?_⟩⟩
  have e2 := (en.same k).put hi ha ((oc.same k).snoc o)
  refine kn _ _ _ _ n e2 ⟨fun b u hb => ?_, rl.sub, rl.lv0, fun {j ds' b} h g => ?_⟩ ⟨fun o => (o.same k).put sa, e2.lv⟩
  · rw [upd_ne (fun z => by rw [z, rl.fresh hi ha] at hb; cases hb)]
    exact k _ _ (rl.same _ _ hb)
  · rcases sl_set h with ⟨rfl, z⟩ | ⟨ne, h⟩
    · exact rl.fresh hi g
    · exact rl.fresh h g
/-- xs.extend(a list) -/
theorem Sv_ext {i : Nat} (hi : ρ[i]? = some (.o ds)) (h : Ep te ρ (.lst es)) (hz : ds.length + es.length ≤ 1000000) (n : O.nx (ρ.set i (.o (ds ++ es)))) : Sv H0 S0 (tDrop (tBM K "list" rExtend (tVar i) (tCons te tNil))) ρ O := fun H S σ D en rl kn kr kb kc => by
  obtain ⟨a, vs, ha, sa, hv, oc⟩ := en.own hi
  refine ⟨_, ha, .inl ⟨rfl, _, SqL.of hv⟩, h.go en fun v H2 k o => ?_⟩
  obtain ⟨b, ws, rfl, hb, nb, ob⟩ := o.lst_inv
  refine ⟨a, b, vs, ws, rfl, rfl, k _ _ hv, hb, Nat.le_trans (show _ ≤ 1000000 by rw [oc.len, ob.len]; exact hz) (by decide), ?_⟩
  have e2 := (en.same k).put hi ha ((oc.same k).append ob)
  refine kn _ _ _ _ n e2 ⟨fun b u hb => ?_, rl.sub, rl.lv0, fun {j ds' b} h g => ?_⟩ ⟨fun o => (o.same k).put sa, e2.lv⟩
  · rw [upd_ne (fun z => by rw [z, rl.fresh hi ha] at hb; cases hb)]
    exact k _ _ (rl.same _ _ hb)
  · rcases sl_set h with ⟨rfl, z⟩ | ⟨ne, h⟩
    · exact rl.fresh hi g
    · exact rl.fresh h g
/-- the body of a def that makes a datum -/
theorem fn_go {D : Ends} (en : En H S σ ρ) (n : ∀ (i : Nat) (ds : List Dt), ρ[i]? ≠ some (.o ds)) (h : Sv H S ts ρ ⟨fun _ => False, fun e => e = d, fun _ => False, fun _ => False⟩) (q : ∀ v H', Same H H' → Oc H' S v d → D.rt v H') : ts D σ H :=
  h H S σ D en (Rl.refl en.lv n) (fun _ _ _ _ z => z.elim) (fun e v H' z k o => q v H' k (z ▸ o)) (fun _ _ _ _ z => z.elim) (fun _ _ _ _ z => z.elim)
/-! ### targets -/
def Eg (g : TG) (d : Dt) (ρ ρ' : Rho) (vs : List Nat) : Prop := ∀ (H : Hp) (S : AS) (σ : L2.St) (v : V) (Q : L2.St → Hp → Prop), En H S σ ρ → Oc H S v d → (∀ σ', En H S σ' ρ' → Ow σ ρ σ' ρ' → L2.wipe σ' vs = L2.wipe σ vs → Q σ' H) → g v σ H Q
theorem G_name {i : Nat} {vs : List Nat} (hm : i ∈ vs) : Eg (gName i) d ρ (ρ.set i (.d d)) vs := fun H S σ v Q en o q => q _ (en.set o) (Ow.set) (wipe_set hm)
def Egs (g : TGs) (ds : List Dt) (ρ ρ' : Rho) (vs : List Nat) : Prop := ∀ (H : Hp) (S : AS) (σ : L2.St) (us : List V) (Q : L2.St → Hp → Prop), En H S σ ρ → Ocs H S us ds → (∀ σ', En H S σ' ρ' → Ow σ ρ σ' ρ' → L2.wipe σ' vs = L2.wipe σ vs → Q σ' H) → g us σ H Q
theorem G_nil {vs : List Nat} : Egs gNil [] ρ ρ vs := fun H S σ us Q en o q => by
  cases o
  exact ⟨rfl, q _ en (Ow.refl _ _) rfl⟩
theorem G_cons {g : TG} {gs : TGs} {ρ1 ρ2 : Rho} {vs : List Nat} (h : Eg g d ρ ρ1 vs) (ht : Egs gs ds ρ1 ρ2 vs) : Egs (gCons g gs) (d :: ds) ρ ρ2 vs := fun H S σ us Q en o q => by
  cases o with
  | cons o t => exact ⟨_, _, rfl, h H S σ _ _ en o fun σ' en' w e => ht H S σ' _ Q en' t fun σ2 en2 w2 e2 => q σ2 en2 (w.trans w2) (e2.trans e)⟩
theorem G_tup {n : Nat} {gs : TGs} {vs : List Nat} {z : Bool} (h : Egs gs ds ρ ρ' vs) (hn : ds.length = n := by rfl) : Eg (gTup K n gs) (.tup z ds) ρ ρ' vs := fun H S σ v Q en o q => by
  obtain ⟨a, xs, rfl, ea, na, oa⟩ := o.tup_inv
  exact ⟨a, xs, rfl, ea.sq, by rw [oa.len]; exact hn, h H S σ xs Q en oa q⟩
/-- a, b, .. = e -/
theorem Sv_asg {g : TG} {vs : List Nat} {ρ1 : Rho} (h : Ep te ρ d) (hg : Eg g d ρ ρ1 vs) (n : O.nx ρ1) : Sv H0 S0 (tAsg te g) ρ O := fun H S σ D en rl kn kr kb kc =>
  h.go en fun v H2 k o => hg H2 S σ v _ (en.same k) o fun σ' en' w _ => kn _ _ _ _ n en' (rl.step k w) (Mv.same en.lv k)
theorem Sv_asgT {g : TG} {vs : List Nat} {ρ1 : Rho} (h : Ep te ρ d) (hg : Eg g d ρ ρ1 vs) (h2 : Sv H0 S0 tu ρ1 O) : Sv H0 S0 (tSeq (tAsg te g) tu) ρ O := Sv_then (Sv_asg h hg rfl) h2
/-! ### what is walked -/
structure Yl (H2 : Hp) (S : AS) (J : It) (g : TG) (n : Nat) (f : Nat → Rho → Rho) (vs : List Nat) : Prop where
  go : ∀ i H' S', Mv H2 S H' S' → i < n → J.go i H'
  stop : ∀ i H' S', Mv H2 S H' S' → n ≤ i → J.stop i H'
  yld : ∀ i H' S' x H'', Mv H2 S H' S' → i < n → J.yld i H' x H'' → Same H' H'' ∧ ∀ (σ : L2.St) (ρ : Rho) (Q : L2.St → Hp → Prop), En H' S' σ ρ → (∀ σ', En H'' S' σ' (f i ρ) → Ow σ ρ σ' (f i ρ) → L2.wipe σ' vs = L2.wipe σ vs → Q σ' H'') → g x σ H'' Q
def Es (wi : TI) (g : TG) (ρ : Rho) (n : Nat) (f : Nat → Rho → Rho) (vs : List Nat) : Prop := ∀ (H : Hp) (S : AS) (σ : L2.St) (R : It → Hp → Prop), En H S σ ρ → (∀ J H2, Same H H2 → Yl H2 S J g n f vs → R J H2) → wi σ H R
theorem Es_list {g : TG} {f : Nat → Rho → Rho} {vs : List Nat} (h : Ep te ρ (.lst ds)) (hg : ∀ i d, ds[i]? = some d → ∀ ρ, Eg g d ρ (f i ρ) vs) : Es (iList K te) g ρ ds.length f vs := fun H S σ R en q =>
  h.go en fun v H2 k o => by
    obtain ⟨a, xs, rfl, ea, na, oa⟩ := o.lst_inv
    refine ⟨a, rfl, ⟨_, SqL.of ea⟩, q _ _ k ⟨fun i H' S' m hi => ?_, fun i H' S' m hi => ?_, fun i H' S' x H'' m hi y => ?_⟩⟩
    · obtain ⟨b, ys, eb, hb, nb, ob⟩ := (m.ob o).lst_inv
      cases eb
      exact ⟨ys, _, SqL.of hb, List.getElem?_eq_getElem (by rw [ob.len]; exact hi)⟩
    · obtain ⟨b, ys, eb, hb, nb, ob⟩ := (m.ob o).lst_inv
      cases eb
      exact ⟨ys, SqL.of hb, by rw [ob.len]; exact hi⟩
    · obtain ⟨b, ys, eb, hb, nb, ob⟩ := (m.ob o).lst_inv
      cases eb
      obtain ⟨e1, fx⟩ := y
      subst e1
      have hx := fx _ (SqL.of hb)
      obtain ⟨d', hd, od⟩ := ob.get hx
      exact ⟨fun _ _ z => z, fun σ' ρ' Q' en' q' => hg i d' hd ρ' _ _ σ' x Q' en' od q'⟩
theorem Es_tup {g : TG} {f : Nat → Rho → Rho} {vs : List Nat} {z : Bool} (h : Ep te ρ (.tup z ds)) (hg : ∀ i d, ds[i]? = some d → ∀ ρ, Eg g d ρ (f i ρ) vs) : Es (iTup K te) g ρ ds.length f vs := fun H S σ R en q =>
  h.go en fun v H2 k o => by
    obtain ⟨a, xs, rfl, ea, na, oa⟩ := o.tup_inv
    refine ⟨a, rfl, ⟨_, ea.sq⟩, q _ _ k ⟨fun i H' S' m hi => ?_, fun i H' S' m hi => ?_, fun i H' S' x H'' m hi y => ?_⟩⟩
    · obtain ⟨b, ys, eb, hb, nb, ob⟩ := (m.ob o).tup_inv
      cases eb
      exact ⟨ys, _, hb.sq, List.getElem?_eq_getElem (by rw [ob.len]; exact hi)⟩
    · obtain ⟨b, ys, eb, hb, nb, ob⟩ := (m.ob o).tup_inv
      cases eb
      exact ⟨ys, hb.sq, by rw [ob.len]; exact hi⟩
    · obtain ⟨b, ys, eb, hb, nb, ob⟩ := (m.ob o).tup_inv
      cases eb
      obtain ⟨e1, fx⟩ := y
      subst e1
      have hx := fx _ (hb.sq)
      obtain ⟨d', hd, od⟩ := ob.get hx
      exact ⟨fun _ _ z => z, fun σ' ρ' Q' en' q' => hg i d' hd ρ' _ _ σ' x Q' en' od q'⟩
theorem Es_rng {n : Nat} {g : TG} {f : Nat → Rho → Rho} {vs : List Nat} (h : Ep te ρ (.int (n : Nat))) (hz : n ≤ 1000000) (hg : ∀ i, i < n → ∀ ρ, Eg g (.int (i : Nat)) ρ (f i ρ) vs) : Es (iRng1 (tCons te tNil)) g ρ n f vs := fun H S σ R en q =>
  h.go en fun v H2 k o => by
    have e := o.int_inv
    subst e
    refine ⟨_, rfl, by omega, by omega, q _ _ k ?_⟩
    rw [Int.toNat_natCast]
    refine ⟨fun i H' S' m hi => hi, fun i H' S' m hi => hi, fun i H' S' x H'' m hi y => ?_⟩
    obtain ⟨e1, e2⟩ := y
    subst e1 e2
    rw [Int.zero_add]
    exact ⟨fun _ _ z => z, fun σ' ρ' Q' en' q' => hg i hi ρ' _ _ σ' _ Q' en' (.int _) q'⟩
/-- enumerate over a tuple -/
theorem Es_enumT {i1 : Nat} {g : TG} {f : Nat → Rho → Rho} {vs : List Nat} {z : Bool} (h : Ep te ρ (.tup z ds)) (hm : i1 ∈ vs) (hg : ∀ i d, ds[i]? = some d → ∀ ρ, Eg g d (ρ.set i1 (.d (.int (i : Nat)))) (f i ρ) vs) : Es (iEnumT K (tCons te tNil)) (gTup K 2 (gCons (gName i1) (gCons g gNil))) ρ ds.length f vs := fun H S σ R en q =>
  h.go en fun v H2 k o => by
    obtain ⟨a, xs, rfl, ea, na, oa⟩ := o.tup_inv
    refine ⟨a, xs, rfl, ea.sq, q _ _ k ⟨fun i H' S' m hi => ?_, fun i H' S' m hi => ?_, fun i H' S' x H'' m hi y => ?_⟩⟩
    · obtain ⟨b, ys, eb, hb, nb, ob⟩ := (m.ob o).tup_inv
      cases eb
      exact ⟨ys, _, hb.sq, List.getElem?_eq_getElem (by rw [ob.len]; exact hi)⟩
    · obtain ⟨b, ys, eb, hb, nb, ob⟩ := (m.ob o).tup_inv
      cases eb
      exact ⟨ys, hb.sq, by rw [ob.len]; exact hi⟩
    · obtain ⟨b, ys, eb, hb, nb, ob⟩ := (m.ob o).tup_inv
      cases eb
      obtain ⟨t, y, rfl, ht, rfl, fx⟩ := y
      have hx := fx _ (hb.sq)
      obtain ⟨d', hd, od⟩ := ob.get hx
      have kt := same_upd (o := .tup [.int (i : Nat), y]) ht
      refine ⟨kt, fun σ' ρ' Q' en' q' => ⟨t, _, rfl, SqT.of upd_same, rfl, _, _, rfl, ?_⟩⟩
      exact ⟨_, _, rfl, hg i d' hd ρ' _ _ _ y _ ((en'.same kt).set (.int (i : Nat))) (od.same kt) fun σ2 en2 w2 e2 => ⟨rfl, q' σ2 en2 (Ow.set.trans w2) (e2.trans (wipe_set hm))⟩⟩
/-- zip of two lists, of two tuples -/
theorem Es_zipL {ta tb : TE} {g1 g2 : TG} {f : Nat → Rho → Rho} {vs : List Nat} (ha : Ep ta ρ (.lst ds)) (hb : Ep tb ρ (.lst es)) (hg : ∀ (i : Nat) (d e : Dt), ds[i]? = some d → es[i]? = some e → ∀ ρ, ∃ ρ1, Eg g1 d ρ ρ1 vs ∧ Eg g2 e ρ1 (f i ρ) vs) : Es (iZipA K (tCons ta (tCons tb tNil))) (gTup K 2 (gCons g1 (gCons g2 gNil))) ρ (min ds.length es.length) f vs := fun H S σ R en q =>
  ha.go en fun va H2 k o => hb.go (en.same k) fun vb H3 k3 o3 => by
    have o' := o.same k3
    obtain ⟨a, xs, rfl, ea, na, oa⟩ := o'.lst_inv
    obtain ⟨b, ys, rfl, eb, nb, ob⟩ := o3.lst_inv
    refine ⟨a, b, xs, ys, rfl, .inl ⟨SqL.of ea, SqL.of eb, q _ _ (k.trans k3) ⟨fun i H' S' m hi => ?_, fun i H' S' m hi => ?_, fun i H' S' x H'' m hi y => ?_⟩⟩⟩
    · obtain ⟨b', xs', e', ha', _, oa'⟩ := (m.ob o').lst_inv
      cases e'
      obtain ⟨b', ys', e', hb', _, ob'⟩ := (m.ob o3).lst_inv
      cases e'
      exact ⟨xs', ys', _, _, SqL.of ha', SqL.of hb', List.getElem?_eq_getElem (by rw [oa'.len]; omega), List.getElem?_eq_getElem (by rw [ob'.len]; omega)⟩
    · obtain ⟨b', xs', e', ha', _, oa'⟩ := (m.ob o').lst_inv
      cases e'
      obtain ⟨b', ys', e', hb', _, ob'⟩ := (m.ob o3).lst_inv
      cases e'
      exact ⟨xs', ys', SqL.of ha', SqL.of hb', by rw [oa'.len, ob'.len]; omega⟩
    · obtain ⟨b', xs', e', ha', _, oa'⟩ := (m.ob o').lst_inv
      cases e'
      obtain ⟨b', ys', e', hb', _, ob'⟩ := (m.ob o3).lst_inv
      cases e'
      obtain ⟨t, u, w, rfl, ht, rfl, fx, fy⟩ := y
      obtain ⟨d', hd, od⟩ := oa'.get (fx _ (SqL.of ha'))
      obtain ⟨e', he, oe⟩ := ob'.get (fy _ (SqL.of hb'))
      have kt := same_upd (o := .tup [u, w]) ht
      refine ⟨kt, fun σ' ρ' Q' en' q' => ⟨t, _, rfl, SqT.of upd_same, rfl, _, _, rfl, ?_⟩⟩
      obtain ⟨ρ1, g1', g2'⟩ := hg i d' e' hd he ρ'
      exact g1' _ _ σ' u _ (en'.same kt) (od.same kt) fun σ1 en1 w1 e1 => ⟨_, _, rfl, g2' _ _ σ1 w _ en1 (oe.same kt) fun σ2 en2 w2 e2 => ⟨rfl, q' σ2 en2 (w1.trans w2) (e2.trans e1)⟩⟩
theorem Es_zipT {ta tb : TE} {z1 z2 : Bool} {g1 g2 : TG} {f : Nat → Rho → Rho} {vs : List Nat} (ha : Ep ta ρ (.tup z1 ds)) (hb : Ep tb ρ (.tup z2 es)) (hg : ∀ (i : Nat) (d e : Dt), ds[i]? = some d → es[i]? = some e → ∀ ρ, ∃ ρ1, Eg g1 d ρ ρ1 vs ∧ Eg g2 e ρ1 (f i ρ) vs) : Es (iZipA K (tCons ta (tCons tb tNil))) (gTup K 2 (gCons g1 (gCons g2 gNil))) ρ (min ds.length es.length) f vs := fun H S σ R en q =>
  ha.go en fun va H2 k o => hb.go (en.same k) fun vb H3 k3 o3 => by
    have o' := o.same k3
    obtain ⟨a, xs, rfl, ea, na, oa⟩ := o'.tup_inv
    obtain ⟨b, ys, rfl, eb, nb, ob⟩ := o3.tup_inv
    refine ⟨a, b, xs, ys, rfl, .inr ⟨ea.sq, eb.sq, q _ _ (k.trans k3) ⟨fun i H' S' m hi => ?_, fun i H' S' m hi => ?_, fun i H' S' x H'' m hi y => ?_⟩⟩⟩
    · obtain ⟨b', xs', e', ha', _, oa'⟩ := (m.ob o').tup_inv
      cases e'
      obtain ⟨b', ys', e', hb', _, ob'⟩ := (m.ob o3).tup_inv
      cases e'
      exact ⟨xs', ys', _, _, ha'.sq, hb'.sq, List.getElem?_eq_getElem (by rw [oa'.len]; omega), List.getElem?_eq_getElem (by rw [ob'.len]; omega)⟩
    · obtain ⟨b', xs', e', ha', _, oa'⟩ := (m.ob o').tup_inv
      cases e'
      obtain ⟨b', ys', e', hb', _, ob'⟩ := (m.ob o3).tup_inv
      cases e'
      exact ⟨xs', ys', ha'.sq, hb'.sq, by rw [oa'.len, ob'.len]; omega⟩
    · obtain ⟨b', xs', e', ha', _, oa'⟩ := (m.ob o').tup_inv
      cases e'
      obtain ⟨b', ys', e', hb', _, ob'⟩ := (m.ob o3).tup_inv
      cases e'
      obtain ⟨t, u, w, rfl, ht, rfl, fx, fy⟩ := y
      obtain ⟨d', hd, od⟩ := oa'.get (fx _ ha'.sq)
      obtain ⟨e', he, oe⟩ := ob'.get (fy _ hb'.sq)
      have kt := same_upd (o := .tup [u, w]) ht
      refine ⟨kt, fun σ' ρ' Q' en' q' => ⟨t, _, rfl, SqT.of upd_same, rfl, _, _, rfl, ?_⟩⟩
      obtain ⟨ρ1, g1', g2'⟩ := hg i d' e' hd he ρ'
      exact g1' _ _ σ' u _ (en'.same kt) (od.same kt) fun σ1 en1 w1 e1 => ⟨_, _, rfl, g2' _ _ σ1 w _ en1 (oe.same kt) fun σ2 en2 w2 e2 => ⟨rfl, q' σ2 en2 (w1.trans w2) (e2.trans e1)⟩⟩
/-! ### for -/
theorem Sv_for {wi : TI} {g : TG} {tb : TS} {n : Nat} {f : Nat → Rho → Rho} {vs : List Nat} (h : Es wi g ρ n f vs) (I : Nat → Rho → Prop) (h0 : I 0 ρ) (hs : ∀ i ρ', i < n → I i ρ' → Sv H0 S0 tb (f i ρ') ⟨I (i + 1), O.rt, O.nx, I (i + 1)⟩) (hd : ∀ ρ', I n ρ' → O.nx ρ') : Sv H0 S0 (tFor wi g tb) ρ O := fun H S σ D en rl kn kr kb kc =>
  h H S σ _ en fun J H2 k y => by
    have l2 := Lv.same k en.lv
    have m0 := Mv.same en.lv k
    refine ⟨fun i m σ' H' => m = n - i ∧ i ≤ n ∧ ∃ ρ' S', I i ρ' ∧ En H' S' σ' ρ' ∧ Rl H0 S0 H' S' σ' ρ' ∧ Mv H2 S H' S', ⟨_, rfl, Nat.zero_le _, ρ, S, h0, en.same k, rl.step k (Ow.refl _ _), Mv.refl l2⟩, ?_⟩
    rintro i m σ' H' ⟨rfl, hi, ρ', S', iv, en', rl', mv⟩
    by_cases lt : i < n
    · refine .inr ⟨y.go i H' S' mv lt, fun σ' H' => ∃ ρ' S', I (i + 1) ρ' ∧ En H' S' σ' ρ' ∧ Rl H0 S0 H' S' σ' ρ' ∧ Mv H2 S H' S', fun σ2 H3 z => ⟨_, by omega, rfl, lt, z⟩, fun x H'' yy => ?_⟩
      obtain ⟨kk, gg⟩ := y.yld i H' S' x H'' mv lt yy
      refine gg σ' ρ' _ en' fun σ2 en2 w2 _ => ?_
      have mv2 : Mv H2 S H'' S' := mv.trans (Mv.same en'.lv kk)
      refine hs i ρ' lt iv H'' S' σ2 _ en2 (rl'.step kk w2) (fun ρ3 H3 S3 σ3 n3 e3 r3 m3 => ⟨ρ3, S3, n3, e3, r3, mv2.trans m3⟩) kr (fun ρ3 H3 S3 σ3 n3 e3 r3 m3 => kn ρ3 H3 S3 σ3 n3 e3 r3 (m0.trans (mv2.trans m3))) (fun ρ3 H3 S3 σ3 n3 e3 r3 m3 => ⟨ρ3, S3, n3, e3, r3, mv2.trans m3⟩)
    · have e : i = n := by omega
      subst e
      exact .inl ⟨y.stop i H' S' mv (Nat.le_refl _), kn ρ' H' S' σ' (hd ρ' iv) en' rl' (m0.trans mv)⟩
/-! ### [e for ..] -/
def Ec (tt : TT) (te : TE) (ρ : Rho) (r : Option Dt) : Prop := ∃ b, Et tt ρ b ∧ (b = true → ∃ e, r = some e ∧ Ep te ρ e) ∧ (b = false → r = none)
theorem E_yes : Et tYes ρ true := fun H S σ en H1 S1 Q x q => q H1 fun _ _ z => z
theorem C_map (h : Ep te ρ d) : Ec tYes te ρ (some d) := ⟨true, E_yes, fun _ => ⟨d, rfl, h⟩, fun z => nomatch z⟩
theorem C_if {b : Bool} (ht : Et tt ρ b) (h : b = true → Ep te ρ d) : Ec tt te ρ (if b = true then some d else none) := ⟨b, ht, fun z => ⟨d, if_pos z, h z⟩, fun z => by rw [z]; rfl⟩
theorem C_eq {r r' : Option Dt} (h : Ec tt te ρ r) (e : r = r') : Ec tt te ρ r' := e ▸ h
theorem rng_succ {α : Type} (r : Nat → Option α) (i : Nat) : (List.range (i + 1)).filterMap r = (List.range i).filterMap r ++ (r i).toList := by
  rw [List.range_succ, List.filterMap_append]
  cases e : r i <;> simp [List.filterMap, e]
theorem E_lc {wi : TI} {g : TG} {n : Nat} {f : Nat → Rho → Rho} {vs : List Nat} {r : Nat → Option Dt} (h : Es wi g ρ n f vs) (hz : n ≤ 999999) (hs : ∀ i, i < n → Ec tt te (f i (wipeR ρ vs)) (r i)) : Ef (tLc wi g tt te vs) ρ ((List.range n).filterMap r) := fun H S σ Q en q =>
  h H S σ _ en fun J H2 k y => by
    intro D hD
    have l2 := Lv.same k en.lv
    have en2 := en.same k
    refine ⟨fun i m H' => m = n - i ∧ i ≤ n ∧ Made H2 S D ((List.range i).filterMap r) H', ⟨_, rfl, Nat.zero_le _, Made.nil hD⟩, ?_⟩
    rintro i m H' ⟨rfl, hi, md⟩
    have lf := md.lift l2 hD
    by_cases lt : i < n
    · refine .inr ⟨y.go i H' _ lf.mv lt, fun H' => Made H2 S D ((List.range (i + 1)).filterMap r) H', fun H3 z => ⟨_, by omega, rfl, lt, z⟩, fun x H'' yy => ?_⟩
      obtain ⟨kk, gg⟩ := y.yld i H' _ x H'' lf.mv lt yy
      refine gg _ _ _ ((en2.lift lf).wipe vs) fun σ2 e2 w2 ew => ⟨ew.trans (wipe_wipe σ vs), ?_⟩
      obtain ⟨b, hb, h1, h0⟩ := hs i lt
      refine hb.go e2 fun H3 k3 => ?_
      cases b with
      | true =>
        obtain ⟨e, er, he⟩ := h1 rfl
        refine iteT (he.go (e2.same k3) fun v H4 k4 o4 => ?_)
        have ln : ((List.range i).filterMap r).length < 1000000 := by
          have := List.length_filterMap_le r (List.range i)
          rw [List.length_range] at this
          omega
        obtain ⟨acc, e1, e3, m2⟩ := md.step hD ((kk.trans k3).trans k4) o4 ln
        refine ⟨acc, e1, e3, ?_⟩
        rw [rng_succ, er]; exact m2
      | false =>
        refine iteF ?_
        rw [rng_succ, h0 rfl]
        show Made _ _ _ (_ ++ []) _
        rw [List.append_nil]
        obtain ⟨vs', e, oc⟩ := md.acc
        exact ⟨md.same.trans (kk.trans k3), vs', k3 _ _ (kk _ _ e), oc.same (kk.trans k3)⟩
    · have e : i = n := by omega
      subst e
      obtain ⟨vs', e, oc⟩ := md.acc
      exact .inl ⟨y.stop i H' _ lf.mv (Nat.le_refl _), q D vs' H' (k.trans md.same) (none_back k hD) e oc⟩
theorem rng_fm {α β : Type} (l : List α) (r : α → Option β) (z : Nat → Option β) (h : ∀ i a, l[i]? = some a → z i = r a) : (List.range l.length).filterMap z = l.filterMap r := by
  have key : ∀ n, n ≤ l.length → (List.range n).filterMap z = (l.take n).filterMap r := by
    intro n
    induction n with
    | zero => intro _; rfl
    | succ n ih =>
      intro hn
      have e : l[n]? = some l[n] := List.getElem?_eq_getElem hn
      rw [rng_succ, ih (by omega), List.take_add_one, e, List.filterMap_append, h n _ e]
      congr 1
  rw [key _ (Nat.le_refl _), List.take_length]
/-- over a list, a tuple -/
theorem E_lcL {j : Nat} {r : Dt → Option Dt} (h : Ep tl ρ (.lst ds)) (hz : ds.length ≤ 999999) (hs : ∀ d ∈ ds, Ec tt te ((wipeR ρ [j]).set j (.d d)) (r d)) : Ef (tLc (iList K tl) (gName j) tt te [j]) ρ (ds.filterMap r) := by
  refine (E_lc (Es_list h fun i d hd ρ => (?_ : Eg _ _ _ ((fun i ρ => ρ.set j (.d (ds.getD i .non))) i ρ) _)) hz (r := fun i => r (ds.getD i .non)) fun i hi => ?_).eq (rng_fm ds r _ fun i a e => by rw [List.getD_eq_getElem?_getD, e]; rfl)
  · show Eg _ _ _ (ρ.set j (.d (ds.getD i .non))) _
    rw [List.getD_eq_getElem?_getD, hd]
    exact G_name List.mem_cons_self
  · refine hs _ ?_
    rw [List.getD_eq_getElem?_getD, List.getElem?_eq_getElem hi]
    exact List.getElem_mem _
theorem E_lcT {j : Nat} {z : Bool} {r : Dt → Option Dt} (h : Ep tl ρ (.tup z ds)) (hz : ds.length ≤ 999999) (hs : ∀ d ∈ ds, Ec tt te ((wipeR ρ [j]).set j (.d d)) (r d)) : Ef (tLc (iTup K tl) (gName j) tt te [j]) ρ (ds.filterMap r) := by
  refine (E_lc (Es_tup h fun i d hd ρ => (?_ : Eg _ _ _ ((fun i ρ => ρ.set j (.d (ds.getD i .non))) i ρ) _)) hz (r := fun i => r (ds.getD i .non)) fun i hi => ?_).eq (rng_fm ds r _ fun i a e => by rw [List.getD_eq_getElem?_getD, e]; rfl)
  · show Eg _ _ _ (ρ.set j (.d (ds.getD i .non))) _
    rw [List.getD_eq_getElem?_getD, hd]
    exact G_name List.mem_cons_self
  · refine hs _ ?_
    rw [List.getD_eq_getElem?_getD, List.getElem?_eq_getElem hi]
    exact List.getElem_mem _
theorem E_lcR {j n : Nat} {r : Nat → Option Dt} (h : Ep tl ρ (.int (n : Nat))) (hz : n ≤ 999999) (hs : ∀ i, i < n → Ec tt te ((wipeR ρ [j]).set j (.d (.int (i : Nat)))) (r i)) : Ef (tLc (iRng1 (tCons tl tNil)) (gName j) tt te [j]) ρ ((List.range n).filterMap r) :=
  E_lc (Es_rng h (by omega) (f := fun i ρ => ρ.set j (.d (.int (i : Nat)))) fun i hi ρ => G_name List.mem_cons_self) hz hs
end
end Lc
namespace Lc
open PySem PySem.Spec PyProof.Rows L2 RZ PySem.W
section
variable {ρ : Rho} {K : PySem.W.Frag} {te ta tb tl : TE} {tt tu : TT} {d e : Dt} {ds es : List Dt} {i j : Int}
theorem E_isi {nm : String} {b : Bool} (h : Ep te ρ d) (k : PySem.W.kitOne K (.type (tyName d)) (.type nm) = some b) (n : d.pl = true := by rfl) : Ep (tCB (rIsi K) (tCons te (tCons (tC (.ty nm)) tNil))) ρ (.bl b) := fun H S σ en H1 S1 Q x q =>
  h.go (en.lift x) fun v H2 k2 o => ⟨v, .ty nm, .type (tyName d), .type nm, b, rfl, .ty nm, (o.arg n).ty, k, q _ _ k2 (.bl _)⟩
theorem E_all {bs : List Bool} (h : El tl ρ (bs.map Dt.bl)) : Ep (tCB (rAll K) (tCons tl tNil)) ρ (.bl (bs.all id)) := fun H S σ en H1 S1 Q x q =>
  h H1 S1 σ _ (en.lift x) fun a vs H2 k ha oa => by
    have e := oa.bls
    subst e
    exact ⟨a, bs, rfl, SqL.of ha, q _ _ k (.bl _)⟩
theorem E_any {bs : List Bool} (h : El tl ρ (bs.map Dt.bl)) : Ep (tCB (rAny K) (tCons tl tNil)) ρ (.bl (bs.any id)) := fun H S σ en H1 S1 Q x q =>
  h H1 S1 σ _ (en.lift x) fun a vs H2 k ha oa => by
    have e := oa.bls
    subst e
    exact ⟨a, bs, rfl, SqL.of ha, q _ _ k (.bl _)⟩
theorem E_word {c : Addr} {ws : List Str} {E : XK} (h : Ep te ρ d) (hc : ∀ H, SqT K H c (ws.map V.str)) (n : d.pl = true := by rfl) : Ep (tCall (spWord K) [] E (tCons te (tCons (tC (.ref c)) tNil))) ρ (.bl (wordD d ws)) := fun H S σ en H1 S1 Q x q =>
  h.go (en.lift x) fun v H2 k2 o => by
    have e : wordV v ws = wordD d ws := by cases o <;> first | rfl | cases n
    refine ⟨v, c, ws, tyName d, rfl, hc H2, o.arg n, ?_⟩
    rw [e]; exact q _ _ k2 (.bl _)
theorem E_whole {lo hi : Int} {E : XK} (h : Ep te ρ d) (ha : Ep ta ρ (.int lo)) (hb : Ep tb ρ (.int hi)) (n : d.pl = true := by rfl) : Ep (tCall (spWhole K) [] E (tCons te (tCons ta (tCons tb tNil)))) ρ (.bl (wholeD d lo hi)) := fun H S σ en H1 S1 Q x q =>
  h.go (en.lift x) fun v H2 k2 o => ha.go ((en.lift x).same k2) fun u H3 k3 o3 => hb.go ((en.lift x).same (k2.trans k3)) fun w H4 k4 o4 => by
    rw [o3.int_inv, o4.int_inv]
    have o' := (o.same k3).same k4
    have e : wholeV v lo hi = wholeD d lo hi := by cases o' <;> first | rfl | cases n
    refine ⟨v, lo, hi, tyName d, rfl, o'.arg n, ?_⟩
    rw [e]; exact q _ _ ((k2.trans k3).trans k4) (.bl _)
/-- flat data as a value -/
def vOf : Dt → Option V
  | .non => some .non
  | .bl b => some (.bl b)
  | .int i => some (.int i)
  | .str s => some (.str s)
  | _ => none
theorem Oc.flat {H : Hp} {S : AS} {v u : V} (o : Oc H S v d) (h : vOf d = some u) : v = u := by
  cases o <;> first | exact Option.some.inj h | cases h
theorem E_eqV {u v : V} (ha : Ep ta ρ d) (hb : Ep tb ρ e) (hu : vOf d = some u := by rfl) (hv : vOf e = some v := by rfl) (sc : scal u v = true := by rfl) : Ep (tOp rEq ta tb) ρ (.bl (decide (u = v))) := fun H S σ en H1 S1 Q x q =>
  ha.go (en.lift x) fun _ H2 k o => hb.go ((en.lift x).same k) fun _ H3 k3 o3 => by
    rw [(o.same k3).flat hu, o3.flat hv]
    exact ⟨sc, q _ _ (k.trans k3) (.bl _)⟩
theorem E_neV {u v : V} (ha : Ep ta ρ d) (hb : Ep tb ρ e) (hu : vOf d = some u := by rfl) (hv : vOf e = some v := by rfl) (sc : scal u v = true := by rfl) : Ep (tOp rNe ta tb) ρ (.bl (!decide (u = v))) := fun H S σ en H1 S1 Q x q =>
  ha.go (en.lift x) fun _ H2 k o => hb.go ((en.lift x).same k) fun _ H3 k3 o3 => by
    rw [(o.same k3).flat hu, o3.flat hv]
    exact ⟨sc, q _ _ (k.trans k3) (.bl _)⟩
theorem dec_str (a b : Str) : decide (V.str a = V.str b) = decide (a = b) := by
  by_cases c : a = b
  · subst c; simp
  · rw [decide_eq_false c, decide_eq_false (fun z => c (V.str.inj z))]
theorem dec_int' (a b : Int) : decide (V.int a = V.int b) = decide (a = b) := by
  by_cases c : a = b
  · subst c; simp
  · rw [decide_eq_false c, decide_eq_false (fun z => c (V.int.inj z))]
theorem dec_bl (a b : Bool) : decide (V.bl a = V.bl b) = decide (a = b) := by
  by_cases c : a = b
  · subst c; simp
  · rw [decide_eq_false c, decide_eq_false (fun z => c (V.bl.inj z))]
theorem E_eqS {a b : Str} (ha : Ep ta ρ (.str a)) (hb : Ep tb ρ (.str b)) : Ep (tOp rEq ta tb) ρ (.bl (decide (a = b))) := E_eq (E_eqV ha hb) (by rw [dec_str])
theorem E_neS {a b : Str} (ha : Ep ta ρ (.str a)) (hb : Ep tb ρ (.str b)) : Ep (tOp rNe ta tb) ρ (.bl (!decide (a = b))) := E_eq (E_neV ha hb) (by rw [dec_str])
theorem E_eqI (ha : Ep ta ρ (.int i)) (hb : Ep tb ρ (.int j)) : Ep (tOp rEq ta tb) ρ (.bl (decide (i = j))) := E_eq (E_eqV ha hb) (by rw [dec_int'])
theorem E_neI (ha : Ep ta ρ (.int i)) (hb : Ep tb ρ (.int j)) : Ep (tOp rNe ta tb) ρ (.bl (!decide (i = j))) := E_eq (E_neV ha hb) (by rw [dec_int'])
theorem E_eqB {a b : Bool} (ha : Ep ta ρ (.bl a)) (hb : Ep tb ρ (.bl b)) : Ep (tOp rEq ta tb) ρ (.bl (decide (a = b))) := E_eq (E_eqV ha hb) (by rw [dec_bl])
theorem E_neB {a b : Bool} (ha : Ep ta ρ (.bl a)) (hb : Ep tb ρ (.bl b)) : Ep (tOp rNe ta tb) ρ (.bl (!decide (a = b))) := E_eq (E_neV ha hb) (by rw [dec_bl])
/-- s in a tuple, a list of texts -/
theorem E_inS {neg : Bool} {a : Str} {z : Bool} {ws : List Str} (ha : Ep ta ρ (.str a)) (hb : Ep tb ρ (.tup z (ws.map Dt.str))) : Ep (tOp (rIn K neg) ta tb) ρ (.bl (if neg = true then !decide (a ∈ ws) else decide (a ∈ ws))) := fun H S σ en H1 S1 Q x q =>
  ha.go (en.lift x) fun _ H2 k o => hb.go ((en.lift x).same k) fun _ H3 k3 o3 => by
    rw [(o.same k3).str_inv]
    obtain ⟨b, xs, rfl, eb, nb, ob⟩ := o3.tup_inv
    have ex := ob.strs
    subst ex
    refine ⟨b, _, rfl, .inr eb.sq, rfl, all_flat_str ws, ?_⟩
    rw [inV_str]
    exact q _ _ (k.trans k3) (.bl _)
theorem E_inSL {neg : Bool} {a : Str} {ws : List Str} (ha : Ep ta ρ (.str a)) (hb : El tb ρ (ws.map Dt.str)) : Ep (tOp (rIn K neg) ta tb) ρ (.bl (if neg = true then !decide (a ∈ ws) else decide (a ∈ ws))) := fun H S σ en H1 S1 Q x q =>
  ha.go (en.lift x) fun _ H2 k o => hb H2 S1 σ _ ((en.lift x).same k) fun b xs H3 k3 eb ob => by
    rw [(o.same k3).str_inv]
    have ex := ob.strs
    subst ex
    refine ⟨b, _, rfl, .inl (SqL.of eb), rfl, all_flat_str ws, ?_⟩
    rw [inV_str]
    exact q _ _ (k.trans k3) (.bl _)
theorem E_inIL {neg : Bool} {ns : List Int} (ha : Ep ta ρ (.int i)) (hb : El tb ρ (ns.map Dt.int)) : Ep (tOp (rIn K neg) ta tb) ρ (.bl (if neg = true then !decide (i ∈ ns) else decide (i ∈ ns))) := fun H S σ en H1 S1 Q x q =>
  ha.go (en.lift x) fun _ H2 k o => hb H2 S1 σ _ ((en.lift x).same k) fun b xs H3 k3 eb ob => by
    rw [(o.same k3).int_inv]
    have ex := ob.ints
    subst ex
    refine ⟨b, _, rfl, .inl (SqL.of eb), rfl, flat_ints ns, ?_⟩
    rw [inV_ints]
    exact q _ _ (k.trans k3) (.bl _)
/-- t[i], l[i], i not below nought -/
theorem E_ixTi {z : Bool} (ha : Ep ta ρ (.tup z ds)) (hb : Ep tb ρ (.int i)) (h0 : 0 ≤ i) (hd : ds[i.toNat]? = some d) : Ep (tOp (rIxT K) ta tb) ρ d := E_ixT (n := i.toNat) ha (E_eq hb (by congr 1; omega)) hd
theorem E_ixLi (ha : El ta ρ ds) (hb : Ep tb ρ (.int i)) (h0 : 0 ≤ i) (hd : ds[i.toNat]? = some d) : Ep (tOp (rIxL K) ta tb) ρ d := E_ixL (n := i.toNat) ha (E_eq hb (by congr 1; omega)) hd
theorem E_mod (ha : Ep ta ρ (.int i)) (hb : Ep tb ρ (.int j)) (h : 0 < j) : Ep (tOp (rI (fun _ j => (0 : Int) < j) fun i j => .int (i % j)) ta tb) ρ (.int (i % j)) := fun H S σ en H1 S1 Q x q =>
  ha.go (en.lift x) fun _ H2 k o => hb.go ((en.lift x).same k) fun _ H3 k3 o3 => by
    rw [(o.same k3).int_inv, o3.int_inv]
    exact ⟨i, j, rfl, rfl, h, q _ _ (k.trans k3) (.int _)⟩
theorem E_chain {f g : Int → Int → Bool} {tc : TE} {k : Int} (ha : Ep ta ρ (.int i)) (hb : Ep tb ρ (.int j)) (hc : Ep tc ρ (.int k)) : Ep (tChain (rI0 fun i j => .bl (f i j)) (rI0 fun i j => .bl (g i j)) ta tb tc) ρ (.bl (f i j && g j k)) := fun H S σ en H1 S1 Q x q =>
  ha.go (en.lift x) fun _ H2 k2 o => hb.go ((en.lift x).same k2) fun _ H3 k3 o3 => by
    rw [(o.same k3).int_inv, o3.int_inv]
    refine ⟨i, j, rfl, rfl, f i j, rfl, ?_⟩
    cases c : f i j with
    | false => exact iteF (q _ _ (k2.trans k3) (by rw [c, Bool.false_and]; exact .bl _))
    | true => exact iteT (hc.go ((en.lift x).same (k2.trans k3)) fun _ H4 k4 o4 => by
        rw [o4.int_inv]
        exact ⟨j, k, rfl, rfl, q _ _ ((k2.trans k3).trans k4) (by rw [c, Bool.true_and]; exact .bl _)⟩)
/-- a def that makes a datum of typed things -/
def spTy {α : Type} (enc : α → List Dt) (pre : α → Prop) (F : α → Dt) : Sp := fun vs H Q _ => ∃ (S : AS) (a : α), Ocs H S vs (enc a) ∧ Lv H S ∧ pre a ∧ ∀ v H', Same H H' → Oc H' S v (F a) → Q v H'
theorem E_callT {α : Type} {enc : α → List Dt} {pre : α → Prop} {F : α → Dt} {E : XK} {t : TA} (a : α) (h : Ea t ρ (enc a)) (hp : pre a) : Ep (tCall (spTy enc pre F) [] E t) ρ (F a) := fun H S σ en => D_fn (h H S σ en) fun H1 S1 vs Q x o q => ⟨S1, a, o, x.live, hp, fun v H' k o => q v H' k o⟩
end
theorem E_intE {ρ : Rho} {i : Int} {d : Dt} (h : Dt.int i = d) : Ep (tC (.int i)) ρ d := h ▸ E_int i
theorem E_strE {ρ : Rho} {i : Str} {d : Dt} (h : Dt.str i = d) : Ep (tC (.str i)) ρ d := h ▸ E_str i
theorem E_blE {ρ : Rho} {i : Bool} {d : Dt} (h : Dt.bl i = d) : Ep (tC (.bl i)) ρ d := h ▸ E_bl i
theorem E_nonE {ρ : Rho} {d : Dt} (h : Dt.non = d) : Ep (tC .non) ρ d := h ▸ E_non
/-! ### the start of a body -/
theorem En.nil {H : Hp} {S : AS} (l : Lv H S) : En H S [] [] where
  len := rfl
  lv := l
  dat h := by simp at h
  own h := by simp at h
  val h := by simp at h
  inj h := by simp at h
theorem En.cons {H : Hp} {S : AS} {σ : L2.St} {ρ : Rho} {v : V} {d : Dt} (o : Oc H S v d) (e : En H S σ ρ) : En H S (some v :: σ) (.d d :: ρ) where
  len := congrArg Nat.succ e.len
  lv := e.lv
  dat {i d'} h := by
    cases i with
    | zero => cases h; exact ⟨v, rfl, o⟩
    | succ i => exact e.dat (i := i) h
  own {i d'} h := by
    cases i with
    | zero => cases h
    | succ i => exact e.own (i := i) h
  val {i u} h := by
    cases i with
    | zero => cases h
    | succ i => exact e.val (i := i) h
  inj {i j ds es a} h1 h2 g1 g2 := by
    cases i with
    | zero => cases h1
    | succ i =>
      cases j with
      | zero => cases h2
      | succ j => exact congrArg Nat.succ (e.inj (i := i) (j := j) h1 h2 g1 g2)
theorem En.no {H : Hp} {S : AS} {σ : L2.St} {ρ : Rho} {v : Option V} (e : En H S σ ρ) : En H S (v :: σ) (.no :: ρ) where
  len := congrArg Nat.succ e.len
  lv := e.lv
  dat {i d'} h := by
    cases i with
    | zero => cases h
    | succ i => exact e.dat (i := i) h
  own {i d'} h := by
    cases i with
    | zero => cases h
    | succ i => exact e.own (i := i) h
  val {i u} h := by
    cases i with
    | zero => cases h
    | succ i => exact e.val (i := i) h
  inj {i j ds es a} h1 h2 g1 g2 := by
    cases i with
    | zero => cases h1
    | succ i =>
      cases j with
      | zero => cases h2
      | succ j => exact congrArg Nat.succ (e.inj (i := i) (j := j) h1 h2 g1 g2)
theorem En.vl {H : Hp} {S : AS} {σ : L2.St} {ρ : Rho} {v : V} (e : En H S σ ρ) : En H S (some v :: σ) (.v v :: ρ) where
  len := congrArg Nat.succ e.len
  lv := e.lv
  dat {i d'} h := by
    cases i with
    | zero => cases h
    | succ i => exact e.dat (i := i) h
  own {i d'} h := by
    cases i with
    | zero => cases h
    | succ i => exact e.own (i := i) h
  val {i u} h := by
    cases i with
    | zero => cases h; rfl
    | succ i => exact e.val (i := i) h
  inj {i j ds es a} h1 h2 g1 g2 := by
    cases i with
    | zero => cases h1
    | succ i =>
      cases j with
      | zero => cases h2
      | succ j => exact congrArg Nat.succ (e.inj (i := i) (j := j) h1 h2 g1 g2)
theorem En.nos {H : Hp} {S : AS} (l : Lv H S) : ∀ n : Nat, En H S (List.replicate n none) (List.replicate n .no)
  | 0 => En.nil l
  | n + 1 => (En.nos l n).no
theorem En.at7 {H : Hp} {S : AS} {σ : L2.St} {v : V} {ρ : Rho} (e : En H S σ (.v v :: ρ)) : ∃ τ, σ = some v :: τ ∧ τ.length = ρ.length := by
  have h := e.val (i := 0) (u := v) rfl
  have l := e.len
  cases σ with
  | nil => simp at h
  | cons x τ =>
    have h2 : x = some v := by simpa using h
    subst h2
    exact ⟨τ, rfl, by simpa using l⟩
theorem no_own : ∀ (ds : List Dt) (n i : Nat) (es : List Dt), (ds.map Sl.d ++ List.replicate n Sl.no)[i]? ≠ some (.o es)
  | [], n, i, es => fun h => by
    rw [List.map_nil, List.nil_append, List.getElem?_replicate] at h
    split at h <;> cases h
  | d :: r, n, 0, es => fun h => by cases h
  | d :: r, n, i + 1, es => no_own r n i es
/-- the arguments, then free slots -/
theorem En.start {H : Hp} {S : AS} (l : Lv H S) : ∀ {vs : List V} {ds : List Dt}, Ocs H S vs ds → ∀ n : Nat, En H S (vs.map some ++ List.replicate n none) (ds.map Sl.d ++ List.replicate n .no)
  | _, _, .nil, n => En.nos l n
  | _, _, .cons o t, n => (En.start l t n).cons o
/-- the slots at the entry -/
def rho (N : List Str) (ds : List Dt) : Rho := ds.map Sl.d ++ List.replicate (N.length - ds.length) .no
theorem En.fn {H : Hp} {S : AS} {N : List Str} {vs : List V} {ds : List Dt} (l : Lv H S) (o : Ocs H S vs ds) : En H S (L2.start N vs) (rho N ds) := by
  unfold L2.start rho
  rw [o.len]
  exact En.start l o _
theorem fn_body {H : Hp} {S : AS} {N : List Str} {vs : List V} {ds : List Dt} {ts : TS} {d : Dt} {D : Ends} (l : Lv H S) (o : Ocs H S vs ds) (h : Sv H S ts (rho N ds) ⟨fun _ => False, fun e => e = d, fun _ => False, fun _ => False⟩) (q : ∀ v H', Same H H' → Oc H' S v d → D.rt v H') : ts D (L2.start N vs) H :=
  fn_go (En.fn l o) (no_own _ _) h q
theorem fn_bodyR {H : Hp} {S : AS} {N : List Str} {vs : List V} {ds : List Dt} {ts : TS} {D : Ends} (R : Dt → Prop) (l : Lv H S) (o : Ocs H S vs ds) (h : Sv H S ts (rho N ds) ⟨fun _ => False, R, fun _ => False, fun _ => False⟩) (q : ∀ d v H', R d → Same H H' → Oc H' S v d → D.rt v H') : ts D (L2.start N vs) H :=
  h H S _ D (En.fn l o) (Rl.refl l (no_own _ _)) (fun _ _ _ _ z => z.elim) (fun e v H' z k o => q e v H' z k o) (fun _ _ _ _ z => z.elim) (fun _ _ _ _ z => z.elim)
theorem fn_bodyN {H : Hp} {S : AS} {N : List Str} {vs : List V} {ds : List Dt} {ts : TS} {D : Ends} (l : Lv H S) (o : Ocs H S vs ds) (h : Sv H S ts (rho N ds) ⟨fun _ => True, fun e => e = .non, fun _ => False, fun _ => False⟩) (q : ∀ v H', Same H H' → Oc H' S v .non → D.rt v H') (qn : ∀ σ' H', Same H H' → D.nx σ' H') : ts D (L2.start N vs) H :=
  h H S _ D (En.fn l o) (Rl.refl l (no_own _ _)) (fun _ _ _ _ _ _ r _ => qn _ _ r.same) (fun e v H' z k o => q v H' k (z ▸ o)) (fun _ _ _ _ z => z.elim) (fun _ _ _ _ z => z.elim)
/-! ### slices of lists, items put -/
section
variable {H0 : Hp} {S0 : AS} {ρ : Rho} {K : PySem.W.Frag} {te ta tb tl th ti : TE} {d : Dt} {ds : List Dt} {O : Eo} {ts tu : TS}
theorem slL_go {H : Hp} {S : AS} {a : Addr} {xs : List V} {lo : Nat} {hi : Option Nat} {l : Option Int} {Q : VK} (hl : l = none ∧ lo = 0 ∨ l = some (lo : Int)) (ea : H a = some (.lst xs)) (oa : Ocs H S xs ds) (q : ∀ p ys H2, Same H H2 → H p = none → H2 p = some (.lst ys) → Ocs H2 (And1 S p) ys (sub3 ds lo hi) → Q (.ref p) H2) : rSlL K (.ref a) l (hi.map fun k => ((k : Nat) : Int)) H Q := by
  have n1 := oa.len
  have e1 : HT.sIx xs.length 0 l = min lo xs.length := by
    rcases hl with ⟨rfl, rfl⟩ | rfl
    · rw [HT.sIx_none]; omega
    · exact HT.sIx_nat _ _ _
  have e2 : HT.sIx xs.length xs.length (hi.map fun k => ((k : Nat) : Int)) = hiN xs.length hi := by
    cases hi with
    | none => rfl
    | some k => exact HT.sIx_nat _ _ _
  have oc : Ocs H S (cutV xs l (hi.map fun k => ((k : Nat) : Int))) (sub3 ds lo hi) := by
    have h0 := ocs_take (hiN xs.length hi - min lo xs.length) (ocs_drop (min lo xs.length) oa)
    have e3 : cutV xs l (hi.map fun k => ((k : Nat) : Int)) = (xs.drop (min lo xs.length)).take (hiN xs.length hi - min lo xs.length) := by
      unfold cutV
      rw [e1, e2]
    have e4 : (ds.drop (min lo xs.length)).take (hiN xs.length hi - min lo xs.length) = sub3 ds lo hi := by
      rw [n1]
      have d1 : ds.drop (min lo ds.length) = ds.drop lo := by
        by_cases c : lo ≤ ds.length
        · rw [Nat.min_eq_left c]
        · rw [Nat.min_eq_right (by omega), List.drop_length, List.drop_eq_nil_of_le (by omega)]
      rw [d1]
      cases hi with
      | none => exact List.take_of_length_le (by rw [List.length_drop]; show ds.length - lo ≤ ds.length - min lo ds.length; omega)
      | some k =>
        show (ds.drop lo).take (min k ds.length - min lo ds.length) = (ds.drop lo).take (k - lo)
        by_cases c : k ≤ ds.length
        · by_cases c2 : lo ≤ ds.length
          · rw [Nat.min_eq_left c, Nat.min_eq_left c2]
          · rw [List.drop_eq_nil_of_le (by omega), List.take_nil, List.take_nil]
        · rw [List.take_of_length_le (by rw [List.length_drop]; omega), List.take_of_length_le (by rw [List.length_drop]; omega)]
    rw [e3, ← e4]; exact h0
  exact ⟨a, xs, rfl, SqL.of ea, fun p hp => q p _ _ (same_upd hp) hp upd_same ((oc.add hp).same (same_upd hp))⟩
theorem E_slLTo {k : Int} (h : El te ρ ds) (hh : Ep th ρ (.int k)) (h0 : 0 ≤ k) : Ef (tSl (rSlL K) te tNoPart (tPart th)) ρ (ds.take k.toNat) := fun H S σ Q en q =>
  h H S σ _ en fun a xs H2 k2 ea oa => hh.go (en.same k2) fun u H3 k3 o3 => by
    have e := o3.int_inv
    subst e
    refine ⟨_, rfl, ?_⟩
    have ek : some k = (some k.toNat).map fun k => ((k : Nat) : Int) := by show some k = some ((k.toNat : Nat) : Int); congr 1; omega
    rw [ek]
    exact slL_go (lo := 0) (hi := some k.toNat) (.inl ⟨rfl, rfl⟩) (k3 _ _ ea) (oa.same k3) fun p ys H4 k4 hp hy oc => q p ys H4 ((k2.trans k3).trans k4) (none_back (k2.trans k3) hp) hy oc
theorem E_slLFrom {k : Int} (h : El te ρ ds) (hl : Ep tl ρ (.int k)) (h0 : 0 ≤ k) : Ef (tSl (rSlL K) te (tPart tl) tNoPart) ρ (ds.drop k.toNat) := fun H S σ Q en q =>
  h H S σ _ en fun a xs H2 k2 ea oa => hl.go (en.same k2) fun u H3 k3 o3 => by
    have e := o3.int_inv
    subst e
    refine ⟨_, rfl, ?_⟩
    exact slL_go (lo := k.toNat) (hi := none) (.inr (by congr 1; omega)) (k3 _ _ ea) (oa.same k3) fun p ys H4 k4 hp hy oc => q p ys H4 ((k2.trans k3).trans k4) (none_back (k2.trans k3) hp) hy oc
theorem E_slLMid {k m : Int} (h : El te ρ ds) (hl : Ep tl ρ (.int k)) (hh : Ep th ρ (.int m)) (h0 : 0 ≤ k) (h1 : 0 ≤ m) : Ef (tSl (rSlL K) te (tPart tl) (tPart th)) ρ ((ds.drop k.toNat).take (m.toNat - k.toNat)) := fun H S σ Q en q =>
  h H S σ _ en fun a xs H2 k2 ea oa => hl.go (en.same k2) fun u H3 k3 o3 => by
    have e := o3.int_inv
    subst e
    refine ⟨_, rfl, hh.go (en.same (k2.trans k3)) fun u H4 k4 o4 => ?_⟩
    have e := o4.int_inv
    subst e
    refine ⟨_, rfl, ?_⟩
    have ek : some m = (some m.toNat).map fun k => ((k : Nat) : Int) := by show some m = some ((m.toNat : Nat) : Int); congr 1; omega
    rw [ek]
    exact slL_go (lo := k.toNat) (hi := some m.toNat) (.inr (by congr 1; omega)) (k4 _ _ (k3 _ _ ea)) ((oa.same k3).same k4) fun p ys H5 k5 hp hy oc => q p ys H5 (((k2.trans k3).trans k4).trans k5) (none_back ((k2.trans k3).trans k4) hp) hy oc
theorem Ocs.setAt {H : Hp} {S : AS} {v : V} {d : Dt} : ∀ {vs : List V} {ds : List Dt} (n : Nat), Ocs H S vs ds → Oc H S v d → Ocs H S (vs.set n v) (ds.set n d)
  | _, _, _, .nil, _ => .nil
  | _, _, 0, .cons h t, o => .cons o t
  | _, _, n + 1, .cons h t, o => .cons h (Ocs.setAt n t o)
/-- xs[k] = e -/
theorem Sv_put {j : Nat} {k : Int} (hj : ρ[j]? = some (.o ds)) (h : Ep te ρ d) (hk : Ep ti ρ (.int k)) (h0 : 0 ≤ k) (h1 : k.toNat < ds.length) (n : O.nx (ρ.set j (.o (ds.set k.toNat d)))) : Sv H0 S0 (tAsg te (gSub (tVar j) ti rSetL)) ρ O := fun H S σ D en rl kn kr kb kc =>
  h.go en fun v H2 k2 o => by
    obtain ⟨a, vs, ha, sa, hv, oc⟩ := (en.same k2).own hj
    refine ⟨_, ha, hk.go (en.same k2) fun u H3 k3 o3 => ?_⟩
    have e := o3.int_inv
    subst e
    have k23 := k2.trans k3
    refine ⟨a, vs, k, k.toNat, rfl, rfl, k3 _ _ hv, ?_, ?_⟩
    · show (if 0 ≤ k then (if k < (vs.length : Nat) then some k.toNat else none) else _) = _
      rw [if_pos h0, if_pos (by rw [oc.len]; omega)]
    have e2 := (en.same k23).put hj ha ((oc.same k3).setAt k.toNat (o.same k3))
    refine kn _ _ _ _ n e2 ⟨fun b u hb => ?_, rl.sub, rl.lv0, fun {i ds' b} h g => ?_⟩ ⟨fun o => (o.same k23).put sa, e2.lv⟩
    · rw [upd_ne (fun z => by rw [z, rl.fresh hj ha] at hb; cases hb)]
      exact k23 _ _ (rl.same _ _ hb)
    · rcases sl_set h with ⟨rfl, z⟩ | ⟨ne, h⟩
      · exact rl.fresh hj g
      · exact rl.fresh h g
end
/-! ### rules with the written part by its name -/
theorem isiK {X : Cx} (K : PySem.W.Frag) (h : X.K = K := by rfl) : CallR X (.builtin "isinstance") (rIsi K) := h ▸ call_isi
theorem lenK {X : Cx} (K : PySem.W.Frag) (h : X.K = K := by rfl) : CallR X (.builtin "len") (fun xs H Q => ∃ p ys, xs = [.ref p] ∧ (SqL K H p ys ∨ SqT K H p ys) ∧ Q (.int ys.length) H) := h ▸ call_len_seq
theorem pe_fldK {X : Cx} (K : PySem.W.Frag) {e : Expr} {f : Str} {pos : Pos} {ta : TE} (he : PE X e ta) (hb : attributeBase e f X.env (eval e X.env) = eval e X.env) (h : X.K = K := by rfl) : PE X (.Attribute e f pos) (tFld K ta f) := h ▸ pe_fld he hb
end Lc
namespace Lc
open PySem PySem.Spec PyProof.Rows L2 RZ PySem.W
/-! ### a, .., *rest = a tuple -/
section
variable {prog : Program} {w : World} {A : Around} {E : Value → Shared → Prop} {s : Shared}
theorem walks_tupleFrom (hh : A.handled = none) (I ax : Addr) (hne : ax ≠ I) (items : Array Value) (k : Nat) (hk : k ≤ items.size) :
    Walks prog w A I [I, ax] [I] (items.size - k) (fun i v => items[k + i]? = some v) (fun i h => h.IsTupleIter I ax (k + i) ∧ h.IsTuple ax items) where
  sub := (Walks.tuple (prog := prog) (w := w) hh I ax hne items).sub
  frame := fun i h h' st kk => (Walks.tuple (prog := prog) (w := w) hh I ax hne items).frame (k + i) h h' st kk
  item := fun i s Q E hi st hQ => (Walks.tuple (prog := prog) (w := w) hh I ax hne items).item (k + i) s Q E (by omega) st fun v h' tk p st' kk => hQ v h' tk p st' kk
  done := fun s Q E st hQ => (Walks.tuple (prog := prog) (w := w) hh I ax hne items).done s Q E (by rw [show k + (items.size - k) = items.size by omega] at st; exact st) hQ
  self := fun i s Q E st hQ => (Walks.tuple (prog := prog) (w := w) hh I ax hne items).self (k + i) s Q E st hQ
theorem unpackItems_star {t : Addr} {items : Array Value} {k : Nat} {Q : List Value → Shared → Prop} (hh : A.handled = none) (ht : IsTup s.heap t items) (hk : k ≤ items.size) (hz : items.size ≤ sizeLine)
    (hQ : ∀ (h' : Heap) (tk : Nat), (∀ b o, s.heap.get? b = some o → h'.get? b = some o) → Q (items.toList.take k ++ [.ref h'.objs.size]) { s with heap := h'.push { cls := .type "list", data := .seq (items.toList.drop k).toArray }, toks := tk }) :
    wpAny (model prog w) A (unpackItems (.ref t) (k + 1) (some k)) Q E s := by
  have hlt : t ≠ s.heap.objs.size := by obtain ⟨o, ho, _⟩ := ht; exact Nat.ne_of_lt (Heap.lt_size ho)
  unfold unpackItems
  refine wpAny_bind ?_
  unfold notIterableAtAll
  refine wpAny_bind (wpAny_specialOf ht.typeIs PyProof.Rows.slot_tuple_iter.lookup ?_)
  refine wpAny_pure ?_
  simp only [Bool.false_eq_true, if_false]
  refine wpAny_bind (wpAny_holding (iter_tuple ht ?_))
  refine wpAny_bind (wpAny_holding (draw_tuple hlt k 0 _ _ ⟨_, Heap.get?_push_size _ rfl, rfl, rfl⟩ (ht.push _) (by omega) fun h₁ hit₁ hs₁ => ?_))
  rw [List.drop_zero]
  have hl : (items.toList.take k).length = k := by rw [List.length_take, Array.length_toList]; omega
  rw [if_neg (by rw [hl]; omega)]
  have ht₁ : IsTup h₁ t items := (ht.push _).extBut hs₁.extBut hlt
  rw [Nat.zero_add] at hit₁
  have sz1 : s.heap.objs.size < h₁.objs.size := by obtain ⟨o, ho, _⟩ := hit₁; exact Heap.lt_size ho
  refine wpAny_bind (wpAny_holding ?_)
  refine wpAny_collect_iter (T := "tuple_iterator") (.inr (.inr (.inr rfl))) (walks_tupleFrom (by first | exact hh | simpa using hh) s.heap.objs.size t hlt items k hk).toS (fun i s' st => st.1.typeIs) ⟨hit₁, ht₁⟩ (fun b hb => ?_) (by simp) (fun s' acc mv it => ?_) (by omega)
  · have e : b = s.heap.objs.size ∨ b = t := by simpa using hb
    rcases e with rfl | rfl
    · exact sz1
    · obtain ⟨o, ho, _⟩ := ht₁; exact Heap.lt_size ho
  obtain ⟨hp', g', d', tk', os'⟩ := s'
  obtain ⟨m1, m2, m3, m4, m5⟩ := mv
  dsimp only at m1 m2 m3 m4 m5
  subst m2 m3 m4
  have eacc : acc.toList = items.toList.drop k := by
    apply List.ext_getElem?
    intro j
    by_cases hj : j < items.size - k
    · have hj2 : j < acc.size := by rw [it.1]; exact hj
      have h1 : acc[j]? = some acc[j] := Array.getElem?_eq_getElem hj2
      have h2 := it.2 j _ h1
      rw [Array.getElem?_toList, h1, List.getElem?_drop, Array.getElem?_toList, h2]
    · rw [List.getElem?_eq_none (by rw [Array.length_toList, it.1]; omega), List.getElem?_eq_none (by rw [List.length_drop, Array.length_toList]; omega)]
  have la : (items.toList.drop k).length = items.size - k := by rw [List.length_drop, Array.length_toList]
  rw [eacc]
  have e0 : k + 1 - 1 - k = 0 := by omega
  simp only [e0, Nat.not_lt_zero, if_false, Nat.sub_zero, List.take_length, List.drop_length, List.append_nil]
  refine wpAny_bind (wpAny_newList ?_ (by rw [la]; omega))
  have keep : ∀ b o, s.heap.get? b = some o → hp'.get? b = some o := fun b o e => by
    have nb : b ≠ s.heap.objs.size := Nat.ne_of_lt (Heap.lt_size e)
    exact m1 b o (by simpa using nb) (hs₁.extBut b o nb (Heap.get?_push_of_some _ e))
  exact wpAny_pure (hQ hp' tk' keep)
theorem unpack_star {t : Addr} {items : Array Value} {targets : List (Bool × (Value → Sem Unit))} {k : Nat} {Q : Unit → Shared → Prop} (hh : A.handled = none) (ht : IsTup s.heap t items) (hk : k ≤ items.size) (hz : items.size ≤ sizeLine)
    (hn : targets.length = k + 1) (hstar : targets.findIdx? (·.1) = some k)
    (h : ∀ (h' : Heap) (tk : Nat), (∀ b o, s.heap.get? b = some o → h'.get? b = some o) → wpAny (model prog w) A (assignInOrder (targets.map (·.2)) (items.toList.take k ++ [.ref h'.objs.size])) Q E { s with heap := h'.push { cls := .type "list", data := .seq (items.toList.drop k).toArray }, toks := tk }) :
    wpAny (model prog w) A (unpack (.ref t) targets) Q E s := by
  unfold unpack
  rw [hn, hstar]
  exact wpAny_bind (wpAny_holding (unpackItems_star hh ht hk hz h))
end
/-- a, .., *rest: k names ahead of the star -/
def gStar (K : PySem.W.Frag) (k : Nat) (t : TGs) : TG := fun v σ H Q => ∃ a xs, v = .ref a ∧ SqT K H a xs ∧ k ≤ xs.length ∧ ∀ p, H p = none → t (xs.take k ++ [.ref p]) σ (upd H p (.lst (xs.drop k))) Q
theorem vals_append {xs ys : List V} {us ws : List Value} (h : Vals xs us) (g : Vals ys ws) : Vals (xs ++ ys) (us ++ ws) := h.append g
section
variable {X : Cx} {pos : Pos}
theorem pgs_star {e : Expr} {es : List Expr} {p : Pos} {t : TG} {u : TGs} (h1 : PG X e t) (h2 : PGs X es u)
    (hs : (assignEach (.Starred e p :: es) X.env).map (·.2) = assign e X.env :: (assignEach es X.env).map (·.2) := by rfl) : PGs X (.Starred e p :: es) (gCons t u) := by
  refine ⟨fun pins s σ H vs us Q I r h => ?_⟩
  obtain ⟨v, vr, e1, h⟩ := h
  subst e1
  cases r with
  | cons r rr =>
    rw [hs]
    refine assignInOrder_cons (thn (h1.run pins s σ H _ _ _ I r h) fun _ s1 ⟨σ1, H1, I1, q1⟩ => ?_)
    exact h2.run pins s1 σ1 H1 _ _ Q I1 rr q1
theorem pg_star {es : List Expr} {c : Nat} {t : TGs} {k : Nat} (hc : X.calm = true) (h : PGs X es t)
    (hn : (assignEach es X.env).length = k + 1 := by rfl) (hst : (assignEach es X.env).findIdx? (·.1) = some k := by rfl) : PG X (.Tuple es c pos) (gStar X.K k t) := by
  refine ⟨fun pins s σ H v u Q I r hw => ?_⟩
  obtain ⟨a, xs, e1, hq, hl, hw⟩ := hw
  subst e1
  cases r
  obtain ⟨its, rv, ht, hz⟩ := I.tuple hq
  have lx := rv.length
  rw [PyProof.Rows.assign_Tuple]
  refine wpAny_bind (wpAny_standAt (unpack_star (I.ok.hd hc) ht (by simpa [← lx] using hl) (by simpa [← lx] using hz) hn hst fun h' tk kk => ?_))
  have I1 : Inv X pins σ H { s with heap := h', toks := tk } := I.kept (t' := tk) kk
  have hf : H h'.objs.size = none := I1.hok.fresh (Nat.le_refl _)
  have I2 : Inv X pins σ (upd H h'.objs.size (.lst (xs.drop k))) { s with heap := h'.push { cls := .type "list", data := .seq (its.drop k).toArray }, toks := tk } :=
    I1.laid (t' := tk) (fun b u e => Heap.get?_push_of_some _ e) (Nat.le_refl _) ⟨by rw [List.length_drop]; omega, its.drop k, 0, rv.drop k, Heap.get?_push_size _ rfl⟩
  exact h.run pins _ σ _ _ _ Q I2 (vals_append (rv.take k) (Paired.cons (show RelV (.ref h'.objs.size) (.ref h'.objs.size) from rfl) .nil)) (hw _ hf)
end
section
variable {H0 : Hp} {S0 : AS} {ρ : Rho} {K : PySem.W.Frag} {te ta tb : TE} {tt tu' : TT} {d : Dt} {ds es : List Dt} {O : Eo} {ts tu : TS}
theorem Sv_star {gs : TGs} {k : Nat} {z : Bool} {vs : List Nat} {ρ1 : Rho} (h : Ep te ρ (.tup z ds)) (hk : k ≤ ds.length) (hg : Egs gs (ds.take k ++ [.lst (ds.drop k)]) ρ ρ1 vs) (n : O.nx ρ1) : Sv H0 S0 (tAsg te (gStar K k gs)) ρ O := fun H S σ D en rl kn kr kb kc =>
  h.go en fun v H2 k2 o => by
    obtain ⟨a, xs, rfl, ea, na, oa⟩ := o.tup_inv
    refine ⟨a, xs, rfl, ea.sq, by rw [oa.len]; exact hk, fun p hp => ?_⟩
    have kp := same_upd (o := .lst (xs.drop k)) hp
    have kk := k2.trans kp
    refine hg _ S σ _ _ (en.same kk) ((ocs_take k (oa.same kp)).append (.cons (.lst upd_same (Lv.out (Lv.same k2 en.lv) hp) (ocs_drop k (oa.same kp))) .nil)) fun σ' en' w _ => kn _ _ _ _ n en' (rl.step kk w) (Mv.same en.lv kk)
theorem Sv_starT {gs : TGs} {k : Nat} {z : Bool} {vs : List Nat} {ρ1 : Rho} (h : Ep te ρ (.tup z ds)) (hk : k ≤ ds.length) (hg : Egs gs (ds.take k ++ [.lst (ds.drop k)]) ρ ρ1 vs) (h2 : Sv H0 S0 tu ρ1 O) : Sv H0 S0 (tSeq (tAsg te (gStar K k gs)) tu) ρ O := Sv_then (Sv_star h hk hg rfl) h2
/-! ### t * k, without a dict -/
def rRepB (K : PySem.W.Frag) : R2 := fun x y H Q => ∃ l k xs, x = .ref l ∧ y = .int k ∧ SqT K H l xs ∧ xs ≠ [] ∧ 1 ≤ k ∧ k ≤ 1000 ∧ xs.length ≤ 1000 ∧ (k = 1 → Q (.ref l) H) ∧ (2 ≤ k → ∀ p H2, H p = none → Same H H2 → Tp H2 p true (List.replicate k.toNat xs).flatten → Q (.ref p) H2)
theorem op_repB {X : Cx} : OpR X (binaryOp .Mult) (rRepB X.K) := by
  intro pins s σ H x y v u Q I rx ry h
  obtain ⟨l, k, xs, rfl, rfl, hT, hne, h1, h2, hz, q1, q2⟩ := h
  by_cases hk : k = 1
  · subst hk
    cases rx
    obtain ⟨t, rfl⟩ := ry
    obtain ⟨its, r, ⟨⟨cls, dd, data, sl⟩, ho, hc, n, hd⟩, hs⟩ := I.tuple hT
    simp only at hc hd
    subst hc hd
    refine wpAny_binaryOp_repeat_ref (T := "tuple") (U := "int") (by decide) ⟨_, ho, rfl⟩ (fun s' => typeIs_int s' 1 t) noFill_tuple_mul PySem.F.fills_int_mul PySem.F.slot_int_rmul repeat_tuple PySem.F.slot_int_index.lookup
      (call_meets PySem.F.slot_int_rmul (typeIs_int s 1 t) PySem.F.entry_int_rmul (PySem.F.args_int_rmul_2 _ _) (int_rmul_tuple 1 t l its.toArray n dd sl)
        ⟨ho, rfl, ⟨_, ho, rfl⟩, call_meets PySem.F.slot_tuple_mul ⟨_, ho, rfl⟩ PySem.F.entry_tuple_mul (PySem.F.args_tuple_mul_2 _ _) (tuple_mul1 l its.toArray n dd sl t) ⟨ho, ?_⟩⟩)
    exact ⟨.ref l, H, I, rfl, q1 rfl⟩
  · have hk2 : 2 ≤ k := by omega
    cases rx
    obtain ⟨t, rfl⟩ := ry
    obtain ⟨its, r, ⟨⟨cls, dd, data, sl⟩, ho, hc, n, hd⟩, hs⟩ := I.tuple hT
    simp only at hc hd
    subst hc hd
    have hle : its.length = xs.length := r.length.symm
    have hn : its ≠ [] := fun e => hne (by
      rw [e] at hle
      exact List.eq_nil_of_length_eq_zero hle.symm)
    have hi : its.toArray.isEmpty = false := by
      cases its with
      | nil => exact absurd rfl hn
      | cons a b => rfl
    have hsz0 : its.toArray.size = xs.length := by rw [List.size_toArray, hle]
    have hm : ((its.toArray.size : Nat) : Int) * k ≤ 1000000 := by
      rw [hsz0]
      have a1 : ((xs.length : Nat) : Int) * k ≤ 1000 * k := Int.mul_le_mul_of_nonneg_right (by omega) (by omega)
      omega
    have flen : (List.replicate k.toNat its).flatten.length ≤ sizeLine := by
      rw [PyProof.Rows.lm_len_rep_flat, hle, sizeLine_eq]
      have a1 : k.toNat * xs.length ≤ 1000 * 1000 := Nat.mul_le_mul (by omega) hz
      omega
    have c0 : (decide (k < -(2 ^ 63)) || decide (k ≥ 2 ^ 63)) = false := by
      rw [decide_eq_false (by omega), decide_eq_false (by omega)] <;> rfl
    have c1 : (its.toArray.isEmpty || k == 1) = false := by
      rw [hi, Bool.false_or]
      exact beq_eq_false_iff_ne.mpr (by omega)
    have c2 : (decide (k ≤ 0) || its.toArray.isEmpty) = false := by
      rw [hi, Bool.or_false]
      exact decide_eq_false (by omega)
    have c4 : Builtin.Tuple.tupleTooMany (((its.toArray.size : Nat) : Int) * k) = false := by
      unfold Builtin.Tuple.tupleTooMany
      rw [sizeLine_eq]
      exact decide_eq_false (by omega)
    refine wpAny_binaryOp_repeat_ref (T := "tuple") (U := "int") (by decide) ⟨_, ho, rfl⟩ (fun s' => typeIs_int s' k t) noFill_tuple_mul PySem.F.fills_int_mul PySem.F.slot_int_rmul repeat_tuple PySem.F.slot_int_index.lookup
      (call_meets PySem.F.slot_int_rmul (typeIs_int s k t) PySem.F.entry_int_rmul (PySem.F.args_int_rmul_2 _ _) (int_rmul_tuple k t l its.toArray n dd sl)
        ⟨ho, rfl, ⟨_, ho, rfl⟩, call_meets PySem.F.slot_tuple_mul ⟨_, ho, rfl⟩ PySem.F.entry_tuple_mul (PySem.F.args_tuple_mul_2 _ _) (tuple_mulW l its.toArray n dd sl k t c0 c1 c2 (by omega) c4 (by rw [size_rep, List.size_toArray]; exact flen)) ⟨ho, ?_⟩⟩)
    rw [size_rep]
    have hf : H s.heap.objs.size = none := I.hok.fresh (Nat.le_refl _)
    refine ⟨.ref s.heap.objs.size, _, I.laid (t' := s.toks) (o := .frz { cls := .type "tuple", data := .seq (List.replicate k.toNat its).flatten.toArray } (.tup (List.replicate k.toNat xs).flatten)) (fun b ob q => Heap.get?_push_of_some _ q) (Nat.le_refl _) ?_, rfl, q2 hk2 _ _ hf (same_upd hf) (.bare rfl rfl upd_same)⟩
    exact ⟨Heap.get?_push_size _ rfl, by rw [PyProof.Rows.lm_len_rep_flat, sizeLine_eq]; have a1 : k.toNat * xs.length ≤ 1000 * 1000 := Nat.mul_le_mul (by omega) hz; omega, _, r.rep k.toNat, IsTup.new _ _⟩
theorem E_rep {k : Int} (ha : Ep ta ρ (.tup true [d])) (hb : Ep tb ρ (.int k)) (h1 : 1 ≤ k) (h2 : k ≤ 1000) : Ep (tOp (rRepB K) ta tb) ρ (.tup true (List.replicate k.toNat d)) := fun H S σ en H1 S1 Q x q =>
  ha.go (en.lift x) fun v H2 k2 o => hb.go ((en.lift x).same k2) fun u H3 k3 o3 => by
    rw [o3.int_inv]
    obtain ⟨a, xs, rfl, ea, na, oa⟩ := (o.same k3).tup_inv
    obtain ⟨y, rfl, oy⟩ := oa.one
    have lv3 := Lv.same k3 (Lv.same k2 x.live)
    refine ⟨a, k, [y], rfl, rfl, ea.sq, by simp, h1, h2, by simp, fun e1 => ?_, fun e2 p H4 hp k4 tp => ?_⟩
    · subst e1
      exact q _ _ (k2.trans k3) (.tup ea na (.cons oy .nil))
    · have er : (List.replicate k.toNat [y]).flatten = List.replicate k.toNat y := by
        induction k.toNat with
        | zero => rfl
        | succ n ih => rw [List.replicate_succ, List.flatten_cons, ih, List.replicate_succ]; rfl
      have oc : Ocs H3 S1 (List.replicate k.toNat y) (List.replicate k.toNat d) := by
        induction k.toNat with
        | zero => exact .nil
        | succ n ih => exact .cons oy ih
      rw [er] at tp
      exact q _ _ ((k2.trans k3).trans k4) (.tup tp (Lv.out lv3 hp) (oc.same k4))
end
end Lc
namespace Lc
open PySem PySem.Spec PyProof.Rows L2 RZ PySem.W
section
variable {ρ : Rho} {K : PySem.W.Frag} {te ta tb tl tz : TE} {tt tt1 : TT} {d e : Dt} {ds es : List Dt} {i j : Int}
/-! ### two clauses -/
theorem fl_rng {α : Type} (n : Nat) (r : Nat → List α) (m : Nat) (h : ∀ i, i < n → (r i).length ≤ m) : ((List.range n).flatMap r).length ≤ n * m := by
  induction n with
  | zero => simp
  | succ n ih =>
    rw [List.range_succ, List.flatMap_append, List.length_append, Nat.succ_mul]
    have h1 := ih fun i hi => h i (by omega)
    have h2 := h n (by omega)
    simp only [List.flatMap_cons, List.flatMap_nil, List.append_nil]
    omega
theorem rngf_succ {α : Type} (r : Nat → List α) (i : Nat) : (List.range (i + 1)).flatMap r = (List.range i).flatMap r ++ r i := by
  rw [List.range_succ, List.flatMap_append]; simp
theorem En.butD {H H' : Hp} {S : AS} {σ : L2.St} {ρ : Rho} {D : Addr} (e : En H (And1 S D) σ ρ) (n : ∀ (j : Nat) (ds : List Dt), ρ[j]? = some (.o ds) → σ[j]? ≠ some (some (.ref D))) (bt : But D H H') (l : Lv H' (And1 S D)) : En H' (And1 S D) σ ρ where
  len := e.len
  lv := l
  dat h := let ⟨v, hv, o⟩ := e.dat h; ⟨v, hv, o.but fun b u nb x => bt b u (fun z => nb (.inr z)) x⟩
  own {i ds} h := by
    obtain ⟨a, vs, hv, sa, ha, o⟩ := e.own h
    exact ⟨a, vs, hv, sa, bt a _ (fun z => n i ds h (z ▸ hv)) ha, o.but fun b u nb x => bt b u (fun z => nb (.inr z)) x⟩
  val := e.val
  inj := e.inj
theorem E_lc2 {wi wi1 : TI} {g g1 : TG} {n : Nat} {m : Nat → Nat} {f : Nat → Rho → Rho} {f1 : Nat → Nat → Rho → Rho} {vs vs1 : List Nat} {b : Nat → Bool} {r : Nat → Nat → Option Dt} (h : Es wi g ρ n f vs) (hz : n ≤ 1000) (hm : ∀ i, i < n → m i ≤ 900)
    (hb : ∀ i, i < n → Et tt (f i (wipeR ρ vs)) (b i))
    (h1 : ∀ i, i < n → b i = true → Es wi1 g1 (f i (wipeR ρ vs)) (m i) (f1 i) vs1)
    (hs : ∀ i j, i < n → b i = true → j < m i → Ec tt1 te (f1 i j (wipeR (f i (wipeR ρ vs)) vs1)) (r i j)) :
    Ef (tLc2 wi g tt wi1 g1 tt1 te vs vs1) ρ ((List.range n).flatMap fun i => if b i = true then (List.range (m i)).filterMap (r i) else []) := fun H S σ Q en q =>
  h H S σ _ en fun J H2 k y => by
    intro D hD
    have l2 := Lv.same k en.lv
    have en2 := en.same k
    have sz : ∀ i, i < n → (if b i = true then (List.range (m i)).filterMap (r i) else []).length ≤ 900 := fun i hi => by
      split
      · have := List.length_filterMap_le (r i) (List.range (m i))
        have := hm i hi
        rw [List.length_range] at *
        omega
      · simp
    refine ⟨fun i mm H' => mm = n - i ∧ i ≤ n ∧ Made H2 S D ((List.range i).flatMap fun i => if b i = true then (List.range (m i)).filterMap (r i) else []) H', ⟨_, rfl, Nat.zero_le _, Made.nil hD⟩, ?_⟩
    rintro i mm H' ⟨rfl, hi, md⟩
    have lf := md.lift l2 hD
    by_cases lt : i < n
    · refine .inr ⟨y.go i H' _ lf.mv lt, fun H' => Made H2 S D ((List.range (i + 1)).flatMap fun i => if b i = true then (List.range (m i)).filterMap (r i) else []) H', fun H3 z => ⟨_, by omega, rfl, lt, z⟩, fun x H'' yy => ?_⟩
      obtain ⟨kk, gg⟩ := y.yld i H' _ x H'' lf.mv lt yy
      refine gg _ _ _ ((en2.lift lf).wipe vs) fun σ2 e2 w2 ew => ⟨ew.trans (wipe_wipe σ vs), ?_⟩
      refine (hb i lt).go e2 fun H3 k3 => ?_
      have md3 : Made H2 S D ((List.range i).flatMap fun i => if b i = true then (List.range (m i)).filterMap (r i) else []) H3 := by
        obtain ⟨vs', e, oc⟩ := md.acc
        exact ⟨md.same.trans (kk.trans k3), vs', k3 _ _ (kk _ _ e), oc.same (kk.trans k3)⟩
      cases hbi : b i with
      | false =>
        refine iteF ?_
        rw [rngf_succ, hbi, if_neg (by decide), List.append_nil]
        exact md3
      | true =>
        refine iteT ?_
        refine h1 i lt hbi H3 _ σ2 _ (e2.same k3) fun J1 H4 k4 y1 => ?_
        have e4 := (e2.same k3).same k4
        have l4 := e4.lv
        have base : ∀ j, j ≤ m i → (((List.range i).flatMap fun i => if b i = true then (List.range (m i)).filterMap (r i) else []) ++ (List.range j).filterMap (r i)).length < 1000000 := fun j hj => by
          have a1 := fl_rng i _ 900 fun k hk => sz k (by omega)
          have a2 := List.length_filterMap_le (r i) (List.range j)
          have a3 := hm i lt
          rw [List.length_append]
          rw [List.length_range] at a2
          have a4 : i * 900 ≤ 1000 * 900 := Nat.mul_le_mul_right _ (by omega)
          omega
        have nown : ∀ (j : Nat) (ds : List Dt), (f i (wipeR ρ vs))[j]? = some (.o ds) → σ2[j]? ≠ some (some (.ref D)) := fun j ds hj hσ => by
          obtain ⟨j', es, h1', g1'⟩ := w2.go _ _ _ hj hσ
          obtain ⟨a, vs', ha, _, hH, _⟩ := (en2.wipe vs).own h1'
          rw [g1'] at ha
          cases ha
          rw [hD] at hH
          cases hH
        refine ⟨fun j kk H' => kk = m i - j ∧ j ≤ m i ∧ Made H2 S D (((List.range i).flatMap fun i => if b i = true then (List.range (m i)).filterMap (r i) else []) ++ (List.range j).filterMap (r i)) H' ∧ But D H4 H', ⟨_, rfl, Nat.zero_le _, ?_, But.refl _ _⟩, ?_⟩
        · obtain ⟨vs', e, oc⟩ := md3.acc
          refine ⟨md3.same.trans k4, vs', k4 _ _ e, ?_⟩
          simpa using oc.same k4
        rintro j kk' H5 ⟨rfl, hj, md5, bt⟩
        have lf5 := md5.lift l2 hD
        have mv5 : Mv H4 (And1 S D) H5 (And1 S D) := ⟨fun o => o.but fun b u nb e => bt b u (fun z => nb (.inr z)) e, lf5.live⟩
        have e5 : En H5 (And1 S D) σ2 (f i (wipeR ρ vs)) := e4.butD nown bt lf5.live
        by_cases jl : j < m i
        · refine .inr ⟨y1.go j H5 _ mv5 jl, fun H' => Made H2 S D (((List.range i).flatMap fun i => if b i = true then (List.range (m i)).filterMap (r i) else []) ++ (List.range (j + 1)).filterMap (r i)) H' ∧ But D H4 H', fun H6 z => ⟨_, by omega, rfl, jl, z⟩, fun x' H6 yy1 => ?_⟩
          obtain ⟨kk1, gg1⟩ := y1.yld j H5 _ x' H6 mv5 jl yy1
          refine gg1 _ _ _ (e5.wipe vs1) fun σ3 e6 w3 ew3 => ⟨ew3.trans (wipe_wipe σ2 vs1), ?_⟩
          obtain ⟨c, hc, h1', h0'⟩ := hs i j lt hbi jl
          refine hc.go e6 fun H7 k7 => ?_
          cases c with
          | true =>
            obtain ⟨e, er, he⟩ := h1' rfl
            refine iteT (he.go (e6.same k7) fun v H8 k8 o8 => ?_)
            obtain ⟨acc, a1, a2, m2⟩ := md5.step hD ((kk1.trans k7).trans k8) o8 (base j hj)
            refine ⟨acc, a1, a2, ?_, ?_⟩
            · rw [rng_succ, er, ← List.append_assoc]; exact m2
            · exact (bt.same ((kk1.trans k7).trans k8)).upd
          | false =>
            refine iteF ⟨?_, bt.same (kk1.trans k7)⟩
            rw [rng_succ, h0' rfl]
            show Made _ _ _ (_ ++ (_ ++ [])) _
            rw [List.append_nil]
            obtain ⟨vs', e, oc⟩ := md5.acc
            exact ⟨md5.same.trans (kk1.trans k7), vs', k7 _ _ (kk1 _ _ e), oc.same (kk1.trans k7)⟩
        · have ej : j = m i := by omega
          subst ej
          refine .inl ⟨y1.stop _ H5 _ mv5 (Nat.le_refl _), ?_⟩
          rw [rngf_succ, hbi, if_pos rfl]
          exact md5
    · have e : i = n := by omega
      subst e
      obtain ⟨vs', e, oc⟩ := md.acc
      exact .inl ⟨y.stop i H' _ lf.mv (Nat.le_refl _), q D vs' H' (k.trans md.same) (none_back k hD) e oc⟩
/-! ### data whose == is = -/
structure Enq {α : Type} [DecidableEq α] (f : α → Dt) : Prop where
  pl : ∀ a, (f a).pl = true
  eq : ∀ a b, PyData.eqv (pd (f a)) (pd (f b)) = decide (a = b)
  sh : ∀ a, SeqAt.shaped (pd (f a)) = true
  dp : ∀ a, (pd (f a)).depth ≤ 8
theorem Enq.any {α : Type} [DecidableEq α] {f : α → Dt} (q : Enq f) (a : α) : ∀ as : List α, ((as.map f).map pd).any (fun z => PyData.eqv z (pd (f a))) = decide (a ∈ as)
  | [] => rfl
  | b :: r => by
    rw [List.map_cons, List.map_cons, List.any_cons, Enq.any q a r, q.eq]
    by_cases h : b = a
    · subst h; simp
    · have h2 : ¬ a = b := fun z => h z.symm
      simp [h, h2]
theorem Enq.depth {α : Type} [DecidableEq α] {f : α → Dt} (q : Enq f) : ∀ as : List α, PyData.depthAll ((as.map f).map pd) ≤ 8
  | [] => by simp [PyData.depthAll]
  | b :: r => by
    rw [List.map_cons, List.map_cons, PyData.depthAll]
    have h1 := q.dp b
    have h2 := Enq.depth q r
    omega
theorem Enq.shaped {α : Type} [DecidableEq α] {f : α → Dt} (q : Enq f) (as : List α) : SeqAt.shaped (.list ((as.map f).map pd)) = true := by
  unfold SeqAt.shaped
  have e : PyData.canLayAll0 ((as.map f).map pd) = true := by
    induction as with
    | nil => rfl
    | cons x r ih =>
      rw [List.map_cons, List.map_cons, PyData.canLayAll0, ih]
      have h := q.sh x
      unfold SeqAt.shaped at h
      rw [Bool.and_eq_true] at h
      rw [h.1]; rfl
  have d := q.depth as
  rw [PyData.canLay0, e, PyData.depth, Bool.true_and, decide_eq_true_eq]
  omega
theorem Enq.dpl {α : Type} [DecidableEq α] {f : α → Dt} (q : Enq f) {H : Hp} {S : AS} {vs : List V} {as : List α} (o : Ocs H S vs (as.map f)) : DpAll K H vs ((as.map f).map pd) := by
  have := o.dp (K := K) (pl_of_map q.pl as)
  rw [pdAll_map] at this
  exact this
section
variable {α : Type} [DecidableEq α] {f : α → Dt} {a b : α} {as : List α}
theorem E_inL (q : Enq f) (ha : Ep ta ρ (f a)) (hb : El tb ρ (as.map f)) : Ep (tOp (rInD K) ta tb) ρ (.bl (decide (a ∈ as))) := fun H S σ en H1 S1 Q x qq =>
  ha.go (en.lift x) fun v H2 k o => hb H2 S1 σ _ ((en.lift x).same k) fun c ys H3 k3 hc oc => by
    refine ⟨pd (f a), (as.map f).map pd, (o.same k3).dp (q.pl a), .lst (SqL.of hc) (q.dpl oc), q.sh a, q.shaped as, ?_⟩
    rw [q.any]
    exact qq _ _ (k.trans k3) (.bl _)
theorem E_ninL (q : Enq f) (ha : Ep ta ρ (f a)) (hb : El tb ρ (as.map f)) : Ep (tOp (rNotInD K) ta tb) ρ (.bl (!decide (a ∈ as))) := fun H S σ en H1 S1 Q x qq =>
  ha.go (en.lift x) fun v H2 k o => hb H2 S1 σ _ ((en.lift x).same k) fun c ys H3 k3 hc oc => by
    refine ⟨pd (f a), (as.map f).map pd, (o.same k3).dp (q.pl a), .lst (SqL.of hc) (q.dpl oc), q.sh a, q.shaped as, ?_⟩
    rw [q.any]
    exact qq _ _ (k.trans k3) (.bl _)
theorem E_eqQ (q : Enq f) (ha : Ep ta ρ (f a)) (hb : Ep tb ρ (f b)) : Ep (tOp (rEqD K) ta tb) ρ (.bl (decide (a = b))) := fun H S σ en H1 S1 Q x qq =>
  ha.go (en.lift x) fun v H2 k o => hb.go ((en.lift x).same k) fun u H3 k3 o3 => by
    refine ⟨_, _, (o.same k3).dp (q.pl a), o3.dp (q.pl b), q.sh a, q.sh b, ?_⟩
    rw [q.eq]
    exact qq _ _ (k.trans k3) (.bl _)
theorem E_neQ (q : Enq f) (ha : Ep ta ρ (f a)) (hb : Ep tb ρ (f b)) : Ep (tOp (rNeD K) ta tb) ρ (.bl (!decide (a = b))) := fun H S σ en H1 S1 Q x qq =>
  ha.go (en.lift x) fun v H2 k o => hb.go ((en.lift x).same k) fun u H3 k3 o3 => by
    refine ⟨_, _, (o.same k3).dp (q.pl a), o3.dp (q.pl b), q.sh a, q.sh b, ?_⟩
    rw [q.eq]
    exact qq _ _ (k.trans k3) (.bl _)
end
theorem q_rows : Enq intT' where
  pl a := pl_ints a
  eq a b := by rw [pd_intT, pd_intT, eqv_rows]
  sh a := by rw [pd_intT]; exact shaped_row a
  dp a := by rw [pd_intT]; unfold intP; rw [PyData.depth, depth_ints]; omega
theorem Enq.inj {α β : Type} [DecidableEq α] [DecidableEq β] {f : α → Dt} (q : Enq f) (g : β → α) (hg : ∀ a b, g a = g b → a = b) : Enq (fun b => f (g b)) where
  pl a := q.pl _
  eq a b := by
    rw [q.eq]
    exact decide_eq_decide.mpr ⟨hg a b, fun h => by rw [h]⟩
  sh a := q.sh _
  dp a := q.dp _
/-! ### min with a default, max of a tuple, sorted -/
theorem E_minDf {ns : List Int} {m : Int} (hl : El tl ρ (ns.map Dt.int)) (hz : Ep tz ρ (.int m)) : Ep (tCKw (rMinDf K) (tCons tl tNil) (tCons tz tNil)) ρ (.int (if ns = [] then m else minL ns)) := fun H S σ en H1 S1 Q y q =>
  hl H1 S1 σ _ (en.lift y) fun a ys H2 k ea oa => hz.go ((en.lift y).same k) fun u H3 k3 o3 => by
    have e := oa.ints
    subst e
    have eu := o3.int_inv
    subst eu
    refine ⟨a, ns, _, rfl, rfl, SqL.of (k3 _ _ ea), fun e => ?_, fun e => ?_⟩
    · have h := q (.int m) _ (k.trans k3); rw [if_pos e] at h; exact h (.int _)
    · have h := q (.int (minL ns)) _ (k.trans k3); rw [if_neg e] at h; exact h (.int _)
theorem E_maxT {ns : List Int} (hl : Ep tl ρ (intT' ns)) (hne : ns ≠ []) : Ep (tCB (rMaxT K) (tCons tl tNil)) ρ (.int (maxL ns)) := fun H S σ en H1 S1 Q y q =>
  hl.go (en.lift y) fun v H2 k o => by
    obtain ⟨a, ys, rfl, ea, na, oa⟩ := o.tup_inv
    have e := oa.ints
    subst e
    cases ns with
    | nil => exact absurd rfl hne
    | cons x r => exact ⟨a, x, r, rfl, ea.sq, q _ _ k (.int _)⟩
end
end Lc
namespace Lc
open PySem PySem.Spec PyProof.Rows L2 RZ PySem.W
section
variable {ρ : Rho} {K : PySem.W.Frag} {te ta tb tl tz : TE} {tt tt1 : TT} {d e : Dt} {ds es : List Dt} {i j : Int}
theorem fm_if {α β : Type} (l : List α) (p : α → Bool) (f : α → β) : (l.filterMap fun a => if p a = true then some (f a) else none) = (l.filter p).map f := by
  induction l with
  | nil => rfl
  | cons a r ih =>
    by_cases c : p a = true
    · rw [List.filterMap_cons, List.filter_cons, if_pos c, if_pos c, List.map_cons]
      exact congrArg _ ih
    · rw [List.filterMap_cons, List.filter_cons, if_neg c, if_neg c]
      exact ih
/-- [f for target in typed things if p] -/
theorem E_lcG {α : Type} {enc : α → Dt} {ls : List α} {p : α → Bool} {f : α → Dt} {g : TG} {vs : List Nat} (z : α) {F : α → Rho → Rho} {wi : TI} (h : ∀ f : Nat → Rho → Rho, (∀ (i : Nat) (d : Dt), (ls.map enc)[i]? = some d → ∀ ρ, Eg g d ρ (f i ρ) vs) → Es wi g ρ (ls.map enc).length f vs) (hz : ls.length ≤ 999999)
    (hg : ∀ l ∈ ls, ∀ ρ, Eg g (enc l) ρ (F l ρ) vs) (ht : ∀ l ∈ ls, Et tt (F l (wipeR ρ vs)) (p l)) (he : ∀ l ∈ ls, p l = true → Ep te (F l (wipeR ρ vs)) (f l)) : Ef (tLc wi g tt te vs) ρ ((ls.filter p).map f) := by
  have E := E_lc (tt := tt) (te := te) (r := fun i => if p (ls.getD i z) = true then some (f (ls.getD i z)) else none) (h (fun i ρ => F (ls.getD i z) ρ) fun i d hd ρ' => ?_) (by rw [List.length_map]; exact hz) fun i hi => ?_
  · refine E.eq ?_
    rw [List.length_map, rng_fm ls (fun a => if p a = true then some (f a) else none) _ fun i a e => by rw [List.getD_eq_getElem?_getD, e]; rfl]
    exact fm_if ls p f
  · rw [List.getElem?_map] at hd
    obtain ⟨a, ha, rfl⟩ := Option.map_eq_some_iff.mp hd
    show Eg g (enc a) ρ' (F (ls.getD i z) ρ') vs
    rw [List.getD_eq_getElem?_getD, ha]
    exact hg a (List.mem_of_getElem? ha) ρ'
  · rw [List.length_map] at hi
    have hm : ls.getD i z ∈ ls := by
      rw [List.getD_eq_getElem?_getD, List.getElem?_eq_getElem hi]
      exact List.getElem_mem _
    exact C_if (ht _ hm) (he _ hm)
theorem E_lcA {α : Type} {enc : α → Dt} {ls : List α} {p : α → Bool} {f : α → Dt} {j : Nat} (z : α) (h : Ep tl ρ (.lst (ls.map enc))) (hz : ls.length ≤ 999999)
    (ht : ∀ l ∈ ls, Et tt ((wipeR ρ [j]).set j (.d (enc l))) (p l)) (he : ∀ l ∈ ls, p l = true → Ep te ((wipeR ρ [j]).set j (.d (enc l))) (f l)) : Ef (tLc (iList K tl) (gName j) tt te [j]) ρ ((ls.filter p).map f) :=
  E_lcG z (F := fun l ρ => ρ.set j (.d (enc l))) (fun f hf => Es_list h hf) hz (fun l _ ρ => G_name List.mem_cons_self) ht he
theorem E_lcAT {α : Type} {enc : α → Dt} {ls : List α} {p : α → Bool} {f : α → Dt} {j : Nat} {b : Bool} (z : α) (h : Ep tl ρ (.tup b (ls.map enc))) (hz : ls.length ≤ 999999)
    (ht : ∀ l ∈ ls, Et tt ((wipeR ρ [j]).set j (.d (enc l))) (p l)) (he : ∀ l ∈ ls, p l = true → Ep te ((wipeR ρ [j]).set j (.d (enc l))) (f l)) : Ef (tLc (iTup K tl) (gName j) tt te [j]) ρ ((ls.filter p).map f) :=
  E_lcG z (F := fun l ρ => ρ.set j (.d (enc l))) (fun f hf => Es_tup h hf) hz (fun l _ ρ => G_name List.mem_cons_self) ht he
/-- over a tuple, its items taken apart -/
theorem E_lcGT {α : Type} {enc : α → Dt} {ls : List α} {p : α → Bool} {f : α → Dt} {g : TG} {vs : List Nat} {b : Bool} (z : α) {F : α → Rho → Rho} (h : Ep tl ρ (.tup b (ls.map enc))) (hz : ls.length ≤ 999999)
    (hg : ∀ l ∈ ls, ∀ ρ, Eg g (enc l) ρ (F l ρ) vs) (ht : ∀ l ∈ ls, Et tt (F l (wipeR ρ vs)) (p l)) (he : ∀ l ∈ ls, p l = true → Ep te (F l (wipeR ρ vs)) (f l)) : Ef (tLc (iTup K tl) g tt te vs) ρ ((ls.filter p).map f) :=
  E_lcG z (F := F) (fun f hf => Es_tup h hf) hz hg ht he
/-- enumerate over a tuple of typed things -/
theorem E_lcN {α : Type} {enc : α → Dt} {ls : List α} {p : Nat → α → Bool} {f : Nat → α → Dt} {i1 i2 : Nat} {b : Bool} (z : α) (h : Ep tl ρ (.tup b (ls.map enc))) (hz : ls.length ≤ 999999)
    (ht : ∀ i l, ls[i]? = some l → Et tt (((wipeR ρ [i1, i2]).set i1 (.d (.int (i : Nat)))).set i2 (.d (enc l))) (p i l)) (he : ∀ i l, ls[i]? = some l → p i l = true → Ep te (((wipeR ρ [i1, i2]).set i1 (.d (.int (i : Nat)))).set i2 (.d (enc l))) (f i l)) :
    Ef (tLc (iEnumT K (tCons tl tNil)) (gTup K 2 (gCons (gName i1) (gCons (gName i2) gNil))) tt te [i1, i2]) ρ ((ls.zipIdx.filter fun q => p q.2 q.1).map fun q => f q.2 q.1) := by
  have E := E_lc (tt := tt) (te := te) (r := fun i => if p i (ls.getD i z) = true then some (f i (ls.getD i z)) else none) (Es_enumT (K := K) (i1 := i1) (g := gName i2) (vs := [i1, i2]) (f := fun i ρ => (ρ.set i1 (.d (.int (i : Nat)))).set i2 (.d (enc (ls.getD i z)))) h (by simp) fun i d hd ρ' => ?_) (by rw [List.length_map]; exact hz) fun i hi => ?_
  · refine E.eq ?_
    rw [List.length_map, ← fm_if]
    have e : ls.length = ls.zipIdx.length := by rw [List.length_zipIdx]
    rw [e]
    exact rng_fm ls.zipIdx (fun q => if p q.2 q.1 = true then some (f q.2 q.1) else none) _ fun i a e => by
      rw [List.getElem?_zipIdx] at e
      obtain ⟨x, hx, rfl⟩ := Option.map_eq_some_iff.mp e
      rw [List.getD_eq_getElem?_getD, hx, Nat.zero_add]; rfl
  · rw [List.getElem?_map] at hd
    obtain ⟨a, ha, rfl⟩ := Option.map_eq_some_iff.mp hd
    show Eg (gName i2) (enc a) _ ((ρ'.set i1 (.d (.int (i : Nat)))).set i2 (.d (enc (ls.getD i z)))) _
    rw [List.getD_eq_getElem?_getD, ha]
    exact G_name (by simp)
  · rw [List.length_map] at hi
    have hm : ls[i]? = some (ls.getD i z) := by
      rw [List.getD_eq_getElem?_getD, List.getElem?_eq_getElem hi]; rfl
    exact C_if (ht i _ hm) (he i _ hm)
end
end Lc
namespace Lc
open PySem PySem.Spec PyProof.Rows L2 RZ PySem.W
section
variable {ρ : Rho} {K : PySem.W.Frag} {te ta tb tl tz : TE} {tt tt1 : TT} {d e : Dt} {ds es : List Dt} {i j : Int}
/-! ### enumerate over a list held as a datum -/
theorem Es_enumL {i1 : Nat} {g : TG} {f : Nat → Rho → Rho} {vs : List Nat} (h : Ep te ρ (.lst ds)) (hm : i1 ∈ vs) (hg : ∀ i d, ds[i]? = some d → ∀ ρ, Eg g d (ρ.set i1 (.d (.int (i : Nat)))) (f i ρ) vs) : Es (iEnum K (tCons te tNil)) (gTup K 2 (gCons (gName i1) (gCons g gNil))) ρ ds.length f vs := fun H S σ R en q =>
  h.go en fun v H2 k o => by
    obtain ⟨a, xs, rfl, ea, na, oa⟩ := o.lst_inv
    refine ⟨a, xs, rfl, SqL.of ea, q _ _ k ⟨fun i H' S' m hi => ?_, fun i H' S' m hi => ?_, fun i H' S' x H'' m hi y => ?_⟩⟩
    · obtain ⟨b, ys, eb, hb, nb, ob⟩ := (m.ob o).lst_inv
      cases eb
      exact ⟨ys, _, SqL.of hb, List.getElem?_eq_getElem (by rw [ob.len]; exact hi)⟩
    · obtain ⟨b, ys, eb, hb, nb, ob⟩ := (m.ob o).lst_inv
      cases eb
      exact ⟨ys, SqL.of hb, by rw [ob.len]; exact hi⟩
    · obtain ⟨b, ys, eb, hb, nb, ob⟩ := (m.ob o).lst_inv
      cases eb
      obtain ⟨t, y, rfl, ht, rfl, fx⟩ := y
      have hx := fx _ (SqL.of hb)
      obtain ⟨d', hd, od⟩ := ob.get hx
      have kt := same_upd (o := .tup [.int (i : Nat), y]) ht
      refine ⟨kt, fun σ' ρ' Q' en' q' => ⟨t, _, rfl, SqT.of upd_same, rfl, _, _, rfl, ?_⟩⟩
      exact ⟨_, _, rfl, hg i d' hd ρ' _ _ _ y _ ((en'.same kt).set (.int (i : Nat))) (od.same kt) fun σ2 en2 w2 e2 => ⟨rfl, q' σ2 en2 (Ow.set.trans w2) (e2.trans (wipe_set hm))⟩⟩
/-! ### defs that give a new list -/
def spNw {α : Type} (enc : α → List Dt) (pre : α → Prop) (F : α → List Dt) : Sp := fun vs H Q _ => ∃ (S : AS) (a : α), Ocs H S vs (enc a) ∧ Lv H S ∧ pre a ∧ ∀ p us H', Same H H' → H p = none → H' p = some (.lst us) → Ocs H' (And1 S p) us (F a) → Q (.ref p) H'
theorem E_callN {α : Type} {enc : α → List Dt} {pre : α → Prop} {F : α → List Dt} {E : XK} {t : TA} (a : α) (h : Ea t ρ (enc a)) (hp : pre a) : Ef (tCall (spNw enc pre F) [] E t) ρ (F a) := fun H S σ Q en q =>
  h H S σ en H S _ (Lift.refl en.lv) fun vs H2 k o => by
    show spNw enc pre F (vs ++ []) H2 Q E
    rw [List.append_nil]
    exact ⟨S, a, o, Lv.same k en.lv, hp, fun p us H' k2 n2 e2 o2 => q p us H' (k.trans k2) (none_back k n2) e2 o2⟩
/-- statements that end in a new list -/
def Sn (H0 : Hp) (S0 : AS) (ts : TS) (ρ : Rho) (es : List Dt) : Prop := ∀ (H : Hp) (S : AS) (σ : L2.St) (D : Ends), En H S σ ρ → Rl H0 S0 H S σ ρ →
  (∀ p us H', Same H0 H' → H0 p = none → H' p = some (.lst us) → Ocs H' (And1 S0 p) us es → D.rt (.ref p) H') → ts D σ H
variable {H0 : Hp} {S0 : AS} {ts tu : TS}
theorem Sn_ret (h : Ef te ρ es) : Sn H0 S0 (tRet te) ρ es := fun H S σ D en rl kr =>
  h H S σ _ en fun a vs H2 k na ha oc => kr a vs H2 (rl.same.trans k) (none_back rl.same na) ha (oc.sub fun b z => z.elim (fun z => .inl (rl.sub b z)) .inr)
theorem Sn_then {ρ1 : Rho} (h1 : Sv H0 S0 ts ρ ⟨fun r => r = ρ1, fun _ => False, fun _ => False, fun _ => False⟩) (h2 : Sn H0 S0 tu ρ1 es) : Sn H0 S0 (tSeq ts tu) ρ es := fun H S σ D en rl kr =>
  h1 H S σ { D with nx := tu D } en rl (fun ρ' H' S' σ' n e r m => by subst n; exact h2 H' S' σ' D e r kr) (fun _ _ _ z => z.elim) (fun _ _ _ _ z => z.elim) (fun _ _ _ _ z => z.elim)
theorem Sn_setT {i : Nat} {ρ1 : Rho} (h : Ep te ρ d) (e : ρ.set i (.d d) = ρ1) (h2 : Sn H0 S0 tu ρ1 es) : Sn H0 S0 (tSeq (tAsg te (gName i)) tu) ρ es := Sn_then (Sv_set h e) h2
theorem Sn_newT {i : Nat} {ρ1 : Rho} (h : Ef te ρ ds) (e : ρ.set i (.o ds) = ρ1) (h2 : Sn H0 S0 tu ρ1 es) : Sn H0 S0 (tSeq (tAsg te (gName i)) tu) ρ es := Sn_then (Sv_new h e) h2
theorem Sn_asgT {g : TG} {vs : List Nat} {ρ1 : Rho} (h : Ep te ρ d) (hg : Eg g d ρ ρ1 vs) (h2 : Sn H0 S0 tu ρ1 es) : Sn H0 S0 (tSeq (tAsg te g) tu) ρ es := Sn_then (Sv_asg h hg rfl) h2
theorem Sn_if {b : Bool} (h : Et tt ρ b) (h1 : b = true → Sn H0 S0 ts ρ es) (h0 : b = false → Sn H0 S0 tu ρ es) : Sn H0 S0 (tIfS tt ts tu) ρ es := fun H S σ D en rl kr =>
  h.go en fun H2 k => by
    cases b with
    | true => exact h1 rfl H2 S σ D (en.same k) (rl.step k (Ow.refl _ _)) kr
    | false => exact h0 rfl H2 S σ D (en.same k) (rl.step k (Ow.refl _ _)) kr
theorem Sn_eq (h : Sn H0 S0 ts ρ ds) (z : ds = es) : Sn H0 S0 ts ρ es := z ▸ h
theorem fn_new {H : Hp} {S : AS} {N : List Str} {vs : List V} {ds : List Dt} {ts : TS} {D : Ends} (l : Lv H S) (o : Ocs H S vs ds) (h : Sn H S ts (rho N ds) es) (q : ∀ p us H', Same H H' → H p = none → H' p = some (.lst us) → Ocs H' (And1 S p) us es → D.rt (.ref p) H') : ts D (L2.start N vs) H :=
  h H S _ D (En.fn l o) (Rl.refl l (no_own _ _)) q
end
/-! ### x[k] of a tuple or a list -/
def rIxB (K : PySem.W.Frag) : R2 := fun x y H Q => rIxT K x y H Q ∨ rIxL K x y H Q
theorem ixB {X : Cx} (K : PySem.W.Frag) (h : X.K = K := by rfl) : IxR X (rIxB K) := fun value slice pins s σ H x y v u Q I rx ry hq e => hq.elim (fun z => ixT K h value slice pins s σ H x y v u Q I rx ry z e) fun z => ixL K h value slice pins s σ H x y v u Q I rx ry z e
section
variable {ρ : Rho} {K : PySem.W.Frag} {ta tb : TE} {d : Dt} {ds : List Dt} {i : Int}
theorem E_ixBT {n : Nat} {z : Bool} (ha : Ep ta ρ (.tup z ds)) (hb : Ep tb ρ (.int (n : Nat))) (hd : ds[n]? = some d) : Ep (tOp (rIxB K) ta tb) ρ d := fun H S σ en H1 S1 Q x q => ha.go (en.lift x) fun v H2 k o => hb.go ((en.lift x).same k) fun u H3 k3 o3 => by
  have e := o3.int_inv
  subst e
  obtain ⟨a, xs, rfl, ea, na, oa⟩ := (o.same k3).tup_inv
  obtain ⟨w, hw, ow⟩ := oa.at hd
  exact .inl ⟨a, xs, _, w, rfl, rfl, ea.sq, atI_nat hw, q _ _ (k.trans k3) ow⟩
theorem E_ixBL {n : Nat} (ha : Ep ta ρ (.lst ds)) (hb : Ep tb ρ (.int (n : Nat))) (hd : ds[n]? = some d) : Ep (tOp (rIxB K) ta tb) ρ d := fun H S σ en H1 S1 Q x q => ha.go (en.lift x) fun v H2 k o => hb.go ((en.lift x).same k) fun u H3 k3 o3 => by
  have e := o3.int_inv
  subst e
  obtain ⟨a, xs, rfl, ea, na, oa⟩ := (o.same k3).lst_inv
  obtain ⟨w, hw, ow⟩ := oa.at hd
  exact .inr ⟨a, xs, _, w, rfl, rfl, SqL.of ea, atI_nat hw, q _ _ (k.trans k3) ow⟩
end
/-! ### own lists as arguments, a plain value back -/
theorem flat_any {H : Hp} {S : AS} {v u : V} {d : Dt} (hu : vOf d = some u) (o : Oc H (fun _ => False) v d) : Oc H S v d := by
  cases d with
  | non => cases o; exact .non
  | bl b => cases o; exact .bl b
  | int b => cases o; exact .int b
  | str b => cases o; exact .str b
  | _ => exact nomatch hu
def Ew (t : TA) (ρ : Rho) (ds : List Dt) : Prop := ∀ (H : Hp) (S : AS) (σ : L2.St) (Q : List V → Hp → Prop), En H S σ ρ → (∀ vs H2, Same H H2 → Ocs H2 (fun _ => False) vs ds → Q vs H2) → t σ H Q
section
variable {ρ : Rho} {K : PySem.W.Frag} {te ta tb : TE} {t : TA} {d e : Dt} {ds es : List Dt} {i : Nat}
theorem W_nil : Ew tNil ρ [] := fun H S σ Q en q => q [] H (fun _ _ z => z) .nil
theorem W_cons (h : Ep te ρ d) (ht : Ew t ρ ds) : Ew (tCons te t) ρ (d :: ds) := fun H S σ Q en q =>
  h.go en fun v H2 k o => ht H2 S σ _ (en.same k) fun vs H3 k3 o3 => q _ _ (k.trans k3) (.cons ((o.same k3).sub fun _ z => z.elim) o3)
theorem W_own (h : ρ[i]? = some (.o es)) (ht : Ew t ρ ds) : Ew (tCons (tVar i) t) ρ (.lst es :: ds) := fun H S σ Q en q => by
  obtain ⟨a, vs, e1, sa, ha, oc⟩ := en.own h
  refine ⟨.ref a, e1, ht H S σ _ en fun us H3 k3 o3 => q _ _ k3 (.cons ((Oc.lst ha id (oc.sub fun _ z => z.elim)).same k3) o3)⟩
theorem E_callW {α : Type} {enc : α → List Dt} {pre : α → Prop} {F : α → Dt} {E : XK} {u : V} (a : α) (h : Ew t ρ (enc a)) (hp : pre a) (hu : vOf (F a) = some u := by rfl) : Ep (tCall (spTy enc pre F) [] E t) ρ (F a) := fun H S σ en H1 S1 Q x q =>
  h H1 S1 σ _ (en.lift x) fun vs H2 k o => by
    show spTy enc pre F (vs ++ []) H2 Q E
    rw [List.append_nil]
    exact ⟨fun _ => False, a, o, fun _ z => z.elim, hp, fun v H' k2 o2 => q v H' (k.trans k2) (flat_any hu o2)⟩
theorem E_truL (h : Ep te ρ (.lst ds)) : Et (fun σ H Q => te σ H fun x H' => ∃ k, TruV K x H' k ∧ Q k H') ρ (!ds.isEmpty) := fun H S σ en => T_truL (h H S σ en)
theorem rng_const {α : Type} (n : Nat) (d : α) : ((List.range n).filterMap fun _ => some d) = List.replicate n d := by
  induction n with
  | zero => rfl
  | succ n ih => rw [List.range_succ, List.filterMap_append, ih, List.replicate_succ']; rfl
theorem fm_const {α β : Type} (l : List α) (d : β) : (l.filterMap fun _ => some d) = List.replicate l.length d := by
  induction l with
  | nil => rfl
  | cons a r ih => rw [List.filterMap_cons, ih]; rfl
end
/-! ### from the older drawing -/
mutual
theorem Ob.oc {H : Hp} {p : Addr} : ∀ {v : V} {d : Dt}, Ob H p v d → d.pl = true → Oc H (fun _ => False) v d
  | _, _, .non, _ => .non
  | _, _, .bl b, _ => .bl b
  | _, _, .int i, _ => .int i
  | _, _, .str s, _ => .str s
  | _, _, .lst e ne all, n => .lst e id (Obs.oc all (by rw [Dt.pl] at n; exact n))
  | _, _, .tup e ne all, n => .tup e id (Obs.oc all (by rw [Dt.pl] at n; exact n))
  | _, _, .dic _ _, n => (nomatch n)
theorem Obs.oc {H : Hp} {p : Addr} : ∀ {vs : List V} {ds : List Dt}, Obs H p vs ds → Dt.plAll ds = true → Ocs H (fun _ => False) vs ds
  | _, _, .nil, _ => .nil
  | _, _, .cons h t, n => .cons (Ob.oc h (by rw [Dt.plAll, Bool.and_eq_true] at n; exact n.1)) (Obs.oc t (by rw [Dt.plAll, Bool.and_eq_true] at n; exact n.2))
end
/-! ### an address off a datum -/
mutual
theorem Oc.obx {H : Hp} {S : AS} : ∀ {v : V} {d : Dt}, Oc H S v d → d.pl = true → ∃ N : Nat, ∀ p : Addr, N ≤ p → Ob H p v d
  | _, _, .non, _ => ⟨0, fun _ _ => .non⟩
  | _, _, .bl b, _ => ⟨0, fun _ _ => .bl b⟩
  | _, _, .int i, _ => ⟨0, fun _ _ => .int i⟩
  | _, _, .str s, _ => ⟨0, fun _ _ => .str s⟩
  | _, _, .lst (a := a) e ne all, n => let ⟨N, h⟩ := Ocs.obx all (by rw [Dt.pl] at n; exact n); ⟨N + (a + 1), fun p z => .lst e (by intro q; subst q; omega) (h p (by omega))⟩
  | _, _, .tup (a := a) e ne all, n => let ⟨N, h⟩ := Ocs.obx all (by rw [Dt.pl] at n; exact n); ⟨N + (a + 1), fun p z => .tup e (by intro q; subst q; omega) (h p (by omega))⟩
  | _, _, .ins _ _ _ _, n => (nomatch n)
theorem Ocs.obx {H : Hp} {S : AS} : ∀ {vs : List V} {ds : List Dt}, Ocs H S vs ds → Dt.plAll ds = true → ∃ N : Nat, ∀ p : Addr, N ≤ p → Obs H p vs ds
  | _, _, .nil, _ => ⟨0, fun _ _ => .nil⟩
  | _, _, .cons h t, n => let ⟨N, a⟩ := Oc.obx h (by rw [Dt.plAll, Bool.and_eq_true] at n; exact n.1); let ⟨M, b⟩ := Ocs.obx t (by rw [Dt.plAll, Bool.and_eq_true] at n; exact n.2); ⟨N + M, fun p z => .cons (a p (by omega)) (b p (by omega))⟩
end
end Lc
namespace K10
open PySem PySem.Spec PyProof.Rows L2 Lc RZ
def topS (i : Nat) : Stmt := PySem.Challenge.pw_lanescounted_k10_nothing_done_yet.main.body.getD i (.Pass ⟨0, 0, 0, 0⟩)
abbrev s_after_step : Stmt := topS 1
theorem sc_after_step : FnScope ["frame", "state", "step", "word", "numbers", "effect"] ["frame", "state", "step"] (defScope s_after_step) := ⟨rfl, rfl, rfl, by decide +kernel, rfl, by decide +kernel, by decide +kernel⟩
abbrev s_is_whole : Stmt := topS 25
theorem sc_is_whole : FnScope ["thing", "low", "high"] ["thing", "low", "high"] (defScope s_is_whole) := ⟨rfl, rfl, rfl, by decide +kernel, rfl, by decide +kernel, by decide +kernel⟩
abbrev s_is_word : Stmt := topS 26
theorem sc_is_word : FnScope ["thing", "words"] ["thing", "words"] (defScope s_is_word) := ⟨rfl, rfl, rfl, by decide +kernel, rfl, by decide +kernel, by decide +kernel⟩
abbrev s_is_row : Stmt := topS 27
theorem sc_is_row : FnScope ["thing", "low", "high"] ["thing", "low", "high"] (defScope s_is_row) := ⟨rfl, rfl, rfl, by decide +kernel, rfl, by decide +kernel, by decide +kernel⟩
abbrev s_is_counts : Stmt := topS 31
theorem sc_is_counts : FnScope ["thing", "count"] ["thing"] (defScope s_is_counts) := ⟨rfl, rfl, rfl, by decide +kernel, rfl, by decide +kernel, by decide +kernel⟩
abbrev s_is_course : Stmt := topS 32
theorem sc_is_course : FnScope ["thing", "counts", "lane", "count"] ["thing", "counts"] (defScope s_is_course) := ⟨rfl, rfl, rfl, by decide +kernel, rfl, by decide +kernel, by decide +kernel⟩
abbrev s_is_house : Stmt := topS 42
theorem sc_is_house : FnScope ["thing", "scheme", "plan", "counts", "courses", "letters", "senders"] ["thing"] (defScope s_is_house) := ⟨rfl, rfl, rfl, by decide +kernel, rfl, by decide +kernel, by decide +kernel⟩
abbrev s_is_frame : Stmt := topS 43
theorem sc_is_frame : FnScope ["scheme", "plan", "counts"] ["scheme", "plan", "counts"] (defScope s_is_frame) := ⟨rfl, rfl, rfl, by decide +kernel, rfl, by decide +kernel, by decide +kernel⟩
abbrev s_are_fitting : Stmt := topS 44
theorem sc_are_fitting : FnScope ["counts", "plan"] ["counts", "plan"] (defScope s_are_fitting) := ⟨rfl, rfl, rfl, by decide +kernel, rfl, by decide +kernel, by decide +kernel⟩
abbrev s_is_scheme : Stmt := topS 45
theorem sc_is_scheme : FnScope ["thing", "asks", "paced", "refused", "notes", "steady", "flag"] ["thing"] (defScope s_is_scheme) := ⟨rfl, rfl, rfl, by decide +kernel, rfl, by decide +kernel, by decide +kernel⟩
abbrev s_is_plan : Stmt := topS 46
theorem sc_is_plan : FnScope ["thing", "word"] ["thing"] (defScope s_is_plan) := ⟨rfl, rfl, rfl, by decide +kernel, rfl, by decide +kernel, by decide +kernel⟩
abbrev s_are_keys : Stmt := topS 47
theorem sc_are_keys : FnScope ["courses", "letters", "counts", "number", "course"] ["courses", "letters", "counts"] (defScope s_are_keys) := ⟨rfl, rfl, rfl, by decide +kernel, rfl, by decide +kernel, by decide +kernel⟩
abbrev s_frame_of : Stmt := topS 51
theorem sc_frame_of : FnScope ["house"] ["house"] (defScope s_frame_of) := ⟨rfl, rfl, rfl, by decide +kernel, rfl, by decide +kernel, by decide +kernel⟩
abbrev s_shown_at_last : Stmt := topS 52
theorem sc_shown_at_last : FnScope ["done", "word", "places", "place", "other"] ["done", "word"] (defScope s_shown_at_last) := ⟨rfl, rfl, rfl, by decide +kernel, rfl, by decide +kernel, by decide +kernel⟩
abbrev s_is_served : Stmt := topS 53
theorem sc_is_served : FnScope ["lane", "counts", "count"] ["lane", "counts"] (defScope s_is_served) := ⟨rfl, rfl, rfl, by decide +kernel, rfl, by decide +kernel, by decide +kernel⟩
abbrev s_first_state : Stmt := topS 55
theorem sc_first_state : FnScope ["frame", "lanes", "held"] ["frame"] (defScope s_first_state) := ⟨rfl, rfl, rfl, by decide +kernel, rfl, by decide +kernel, by decide +kernel⟩
abbrev s_can_take : Stmt := topS 56
theorem sc_can_take : FnScope ["frame", "state", "thing"] ["frame", "state", "thing"] (defScope s_can_take) := ⟨rfl, rfl, rfl, by decide +kernel, rfl, by decide +kernel, by decide +kernel⟩
abbrev s_steps_in : Stmt := topS 57
theorem sc_steps_in : FnScope ["frame", "state", "place", "held", "way", "back", "lanes", "readers", "sent", "_", "moment", "sender", "edition"] ["frame", "state"] (defScope s_steps_in) := ⟨rfl, rfl, rfl, by decide +kernel, rfl, by decide +kernel, by decide +kernel⟩
abbrev s_again_steps : Stmt := topS 58
theorem sc_again_steps : FnScope ["held", "back", "steps", "blocked", "sender", "edition", "key", "number"] ["held", "back"] (defScope s_again_steps) := ⟨rfl, rfl, rfl, by decide +kernel, rfl, by decide +kernel, by decide +kernel⟩
abbrev s_arrive_steps : Stmt := topS 59
theorem sc_arrive_steps : FnScope ["frame", "way", "steps", "ahead", "sender", "edition", "key", "number", "path"] ["frame", "way"] (defScope s_arrive_steps) := ⟨rfl, rfl, rfl, by decide +kernel, rfl, by decide +kernel, by decide +kernel⟩
abbrev s_may_learn : Stmt := topS 60
theorem sc_may_learn : FnScope ["frame", "moment", "edition"] ["frame", "moment", "edition"] (defScope s_may_learn) := ⟨rfl, rfl, rfl, by decide +kernel, rfl, by decide +kernel, by decide +kernel⟩
abbrev s_send_steps : Stmt := topS 61
theorem sc_send_steps : FnScope ["frame", "held", "way", "back", "sent", "barred", "keys", "_", "key", "number", "sender", "edition", "other", "theirs"] ["frame", "held", "way", "back", "sent"] (defScope s_send_steps) := ⟨rfl, rfl, rfl, by decide +kernel, rfl, by decide +kernel, by decide +kernel⟩
abbrev s_hand_steps : Stmt := topS 62
theorem sc_hand_steps : FnScope ["frame", "moment", "readers", "lane"] ["frame", "moment", "readers"] (defScope s_hand_steps) := ⟨rfl, rfl, rfl, by decide +kernel, rfl, by decide +kernel, by decide +kernel⟩
abbrev s_note_steps : Stmt := topS 63
theorem sc_note_steps : FnScope ["frame", "moment", "lanes", "readers", "lane"] ["frame", "moment", "lanes", "readers"] (defScope s_note_steps) := ⟨rfl, rfl, rfl, by decide +kernel, rfl, by decide +kernel, by decide +kernel⟩
abbrev s_take_steps : Stmt := topS 64
theorem sc_take_steps : FnScope ["frame", "moment", "lanes", "readers", "lane"] ["frame", "moment", "lanes", "readers"] (defScope s_take_steps) := ⟨rfl, rfl, rfl, by decide +kernel, rfl, by decide +kernel, by decide +kernel⟩
abbrev s_word_steps : Stmt := topS 65
theorem sc_word_steps : FnScope ["frame", "moment", "state", "place", "_"] ["frame", "moment", "state"] (defScope s_word_steps) := ⟨rfl, rfl, rfl, by decide +kernel, rfl, by decide +kernel, by decide +kernel⟩
abbrev s_can_do : Stmt := topS 66
theorem sc_can_do : FnScope ["moment", "state", "word", "_", "held", "way", "lanes", "editions", "edition", "letters"] ["moment", "state", "word"] (defScope s_can_do) := ⟨rfl, rfl, rfl, by decide +kernel, rfl, by decide +kernel, by decide +kernel⟩
abbrev s_possible_steps : Stmt := topS 69
theorem sc_possible_steps : FnScope ["house", "run", "frame", "states", "_"] ["house", "run"] (defScope s_possible_steps) := ⟨rfl, rfl, rfl, by decide +kernel, rfl, by decide +kernel, by decide +kernel⟩
abbrev s_events_of : Stmt := topS 70
theorem sc_events_of : FnScope ["house", "run", "_", "happenings", "events", "event"] ["house", "run"] (defScope s_events_of) := ⟨rfl, rfl, rfl, by decide +kernel, rfl, by decide +kernel, by decide +kernel⟩
abbrev s_state_after : Stmt := topS 71
theorem sc_state_after : FnScope ["house", "run", "states", "_"] ["house", "run"] (defScope s_state_after) := ⟨rfl, rfl, rfl, by decide +kernel, rfl, by decide +kernel, by decide +kernel⟩
abbrev s_follow : Stmt := topS 72
theorem sc_follow : FnScope ["frame", "run", "states", "happenings"] ["frame", "run"] (defScope s_follow) := ⟨rfl, rfl, rfl, by decide +kernel, rfl, by decide +kernel, by decide +kernel⟩
abbrev s_walk : Stmt := topS 73
theorem sc_walk : FnScope ["frame", "start", "steps", "states", "happenings", "place", "step", "state", "events"] ["frame", "start", "steps"] (defScope s_walk) := ⟨rfl, rfl, rfl, by decide +kernel, rfl, by decide +kernel, by decide +kernel⟩
abbrev s_law_source : Stmt := topS 75
theorem sc_law_source : FnScope ["_law_script"] ["_law_script"] (defScope s_law_source) := ⟨rfl, rfl, rfl, by decide +kernel, rfl, by decide +kernel, by decide +kernel⟩
abbrev s_law_draw : Stmt := topS 76
theorem sc_law_draw : FnScope ["_law_source_here", "_law_limit", "_law_cell", "_law_digit", "_law_mixed"] ["_law_source_here", "_law_limit"] (defScope s_law_draw) := ⟨rfl, rfl, rfl, by decide +kernel, rfl, by decide +kernel, by decide +kernel⟩
abbrev s_law_words : Stmt := topS 77
theorem sc_law_words : FnScope ["_law_source_here", "_law_room", "_law_usual", "_law_k", "_law_word"] ["_law_source_here", "_law_room"] (defScope s_law_words) := ⟨rfl, rfl, rfl, by decide +kernel, rfl, by decide +kernel, by decide +kernel⟩
abbrev s_law_scheme : Stmt := topS 78
theorem sc_law_scheme : FnScope ["_law_source_here", "_law_flags", "_law_notes", "_law_k"] ["_law_source_here"] (defScope s_law_scheme) := ⟨rfl, rfl, rfl, by decide +kernel, rfl, by decide +kernel, by decide +kernel⟩
abbrev s_law_house : Stmt := topS 79
theorem sc_law_house : FnScope ["_law_source_here", "_law_least", "_law_keys", "_law_shows", "_law_room", "_law_plan", "_law_k", "_law_counts", "_law_many", "_law_courses", "_law_letters", "_law_senders", "_law_count"] ["_law_source_here", "_law_least", "_law_keys"] (defScope s_law_house) := ⟨rfl, rfl, rfl, by decide +kernel, rfl, by decide +kernel, by decide +kernel⟩
abbrev s_law_same : Stmt := topS 80
theorem sc_law_same : FnScope ["_law_found", "_law_due", "_law_k"] ["_law_found", "_law_due"] (defScope s_law_same) := ⟨rfl, rfl, rfl, by decide +kernel, rfl, by decide +kernel, by decide +kernel⟩
abbrev s_law : Stmt := topS 81
theorem sc_law : FnScope ["_law_script", "_law_source_here", "_law_house_here", "_law_lanes", "_law_stand", "_law_empty", "_law_stands", "_law_nobody", "_law_due", "_law_steps", "_law_run", "_law_found", "_law_events", "_law_k"] ["_law_script"] (defScope s_law) := ⟨rfl, rfl, rfl, by decide +kernel, rfl, by decide +kernel, by decide +kernel⟩
def subS (s : Stmt) (i : Nat) : Stmt := match s with
  | .ClassDef _ _ _ b _ _ _ _ _ _ _ => b.getD i (.Pass ⟨0, 0, 0, 0⟩)
  | _ => .Pass ⟨0, 0, 0, 0⟩
abbrev s_init_Frame : Stmt := subS (topS 49) 0
theorem sc_init_Frame : FnScope ["self", "house", "scheme", "plan", "counts", "courses", "letters", "senders", "asks", "paced", "refused", "notes", "steady", "place"] ["self", "house"] (defScope s_init_Frame) := ⟨rfl, rfl, rfl, by decide +kernel, rfl, by decide +kernel, by decide +kernel⟩
abbrev s_init_Moment : Stmt := subS (topS 50) 0
theorem sc_init_Moment : FnScope ["self", "done", "counts", "first_kept", "lanes", "lane"] ["self", "done", "counts"] (defScope s_init_Moment) := ⟨rfl, rfl, rfl, by decide +kernel, rfl, by decide +kernel, by decide +kernel⟩
structure Txt (K : PySem.W.Frag) (mg : Str → Option Value) where
  a_after_step : Addr
  d_after_step : FuncData
  F_after_step : Fun K "after_step" "after_step" s_after_step a_after_step d_after_step
  g_after_step : mg "after_step" = some (.ref a_after_step)
  b_after_step : Binds K d_after_step ["frame", "state", "step"] []
  a_is_whole : Addr
  d_is_whole : FuncData
  F_is_whole : Fun K "is_whole" "is_whole" s_is_whole a_is_whole d_is_whole
  g_is_whole : mg "is_whole" = some (.ref a_is_whole)
  b_is_whole : Binds K d_is_whole ["thing", "low", "high"] []
  a_is_word : Addr
  d_is_word : FuncData
  F_is_word : Fun K "is_word" "is_word" s_is_word a_is_word d_is_word
  g_is_word : mg "is_word" = some (.ref a_is_word)
  b_is_word : Binds K d_is_word ["thing", "words"] []
  a_is_row : Addr
  d_is_row : FuncData
  F_is_row : Fun K "is_row" "is_row" s_is_row a_is_row d_is_row
  g_is_row : mg "is_row" = some (.ref a_is_row)
  b_is_row : Binds K d_is_row ["thing", "low", "high"] []
  a_is_counts : Addr
  d_is_counts : FuncData
  F_is_counts : Fun K "is_counts" "is_counts" s_is_counts a_is_counts d_is_counts
  g_is_counts : mg "is_counts" = some (.ref a_is_counts)
  b_is_counts : Binds K d_is_counts ["thing"] []
  a_is_course : Addr
  d_is_course : FuncData
  F_is_course : Fun K "is_course" "is_course" s_is_course a_is_course d_is_course
  g_is_course : mg "is_course" = some (.ref a_is_course)
  b_is_course : Binds K d_is_course ["thing", "counts"] []
  a_is_house : Addr
  d_is_house : FuncData
  F_is_house : Fun K "is_house" "is_house" s_is_house a_is_house d_is_house
  g_is_house : mg "is_house" = some (.ref a_is_house)
  b_is_house : Binds K d_is_house ["thing"] []
  a_is_frame : Addr
  d_is_frame : FuncData
  F_is_frame : Fun K "is_frame" "is_frame" s_is_frame a_is_frame d_is_frame
  g_is_frame : mg "is_frame" = some (.ref a_is_frame)
  b_is_frame : Binds K d_is_frame ["scheme", "plan", "counts"] []
  a_are_fitting : Addr
  d_are_fitting : FuncData
  F_are_fitting : Fun K "are_fitting" "are_fitting" s_are_fitting a_are_fitting d_are_fitting
  g_are_fitting : mg "are_fitting" = some (.ref a_are_fitting)
  b_are_fitting : Binds K d_are_fitting ["counts", "plan"] []
  a_is_scheme : Addr
  d_is_scheme : FuncData
  F_is_scheme : Fun K "is_scheme" "is_scheme" s_is_scheme a_is_scheme d_is_scheme
  g_is_scheme : mg "is_scheme" = some (.ref a_is_scheme)
  b_is_scheme : Binds K d_is_scheme ["thing"] []
  a_is_plan : Addr
  d_is_plan : FuncData
  F_is_plan : Fun K "is_plan" "is_plan" s_is_plan a_is_plan d_is_plan
  g_is_plan : mg "is_plan" = some (.ref a_is_plan)
  b_is_plan : Binds K d_is_plan ["thing"] []
  a_are_keys : Addr
  d_are_keys : FuncData
  F_are_keys : Fun K "are_keys" "are_keys" s_are_keys a_are_keys d_are_keys
  g_are_keys : mg "are_keys" = some (.ref a_are_keys)
  b_are_keys : Binds K d_are_keys ["courses", "letters", "counts"] []
  a_frame_of : Addr
  d_frame_of : FuncData
  F_frame_of : Fun K "frame_of" "frame_of" s_frame_of a_frame_of d_frame_of
  g_frame_of : mg "frame_of" = some (.ref a_frame_of)
  b_frame_of : Binds K d_frame_of ["house"] []
  a_shown_at_last : Addr
  d_shown_at_last : FuncData
  F_shown_at_last : Fun K "shown_at_last" "shown_at_last" s_shown_at_last a_shown_at_last d_shown_at_last
  g_shown_at_last : mg "shown_at_last" = some (.ref a_shown_at_last)
  b_shown_at_last : Binds K d_shown_at_last ["done", "word"] []
  a_is_served : Addr
  d_is_served : FuncData
  F_is_served : Fun K "is_served" "is_served" s_is_served a_is_served d_is_served
  g_is_served : mg "is_served" = some (.ref a_is_served)
  b_is_served : Binds K d_is_served ["lane", "counts"] []
  a_first_state : Addr
  d_first_state : FuncData
  F_first_state : Fun K "first_state" "first_state" s_first_state a_first_state d_first_state
  g_first_state : mg "first_state" = some (.ref a_first_state)
  b_first_state : Binds K d_first_state ["frame"] []
  a_can_take : Addr
  d_can_take : FuncData
  F_can_take : Fun K "can_take" "can_take" s_can_take a_can_take d_can_take
  g_can_take : mg "can_take" = some (.ref a_can_take)
  b_can_take : Binds K d_can_take ["frame", "state", "thing"] []
  a_steps_in : Addr
  d_steps_in : FuncData
  F_steps_in : Fun K "steps_in" "steps_in" s_steps_in a_steps_in d_steps_in
  g_steps_in : mg "steps_in" = some (.ref a_steps_in)
  b_steps_in : Binds K d_steps_in ["frame", "state"] []
  a_again_steps : Addr
  d_again_steps : FuncData
  F_again_steps : Fun K "again_steps" "again_steps" s_again_steps a_again_steps d_again_steps
  g_again_steps : mg "again_steps" = some (.ref a_again_steps)
  b_again_steps : Binds K d_again_steps ["held", "back"] []
  a_arrive_steps : Addr
  d_arrive_steps : FuncData
  F_arrive_steps : Fun K "arrive_steps" "arrive_steps" s_arrive_steps a_arrive_steps d_arrive_steps
  g_arrive_steps : mg "arrive_steps" = some (.ref a_arrive_steps)
  b_arrive_steps : Binds K d_arrive_steps ["frame", "way"] []
  a_may_learn : Addr
  d_may_learn : FuncData
  F_may_learn : Fun K "may_learn" "may_learn" s_may_learn a_may_learn d_may_learn
  g_may_learn : mg "may_learn" = some (.ref a_may_learn)
  b_may_learn : Binds K d_may_learn ["frame", "moment", "edition"] []
  a_send_steps : Addr
  d_send_steps : FuncData
  F_send_steps : Fun K "send_steps" "send_steps" s_send_steps a_send_steps d_send_steps
  g_send_steps : mg "send_steps" = some (.ref a_send_steps)
  b_send_steps : Binds K d_send_steps ["frame", "held", "way", "back", "sent"] []
  a_hand_steps : Addr
  d_hand_steps : FuncData
  F_hand_steps : Fun K "hand_steps" "hand_steps" s_hand_steps a_hand_steps d_hand_steps
  g_hand_steps : mg "hand_steps" = some (.ref a_hand_steps)
  b_hand_steps : Binds K d_hand_steps ["frame", "moment", "readers"] []
  a_note_steps : Addr
  d_note_steps : FuncData
  F_note_steps : Fun K "note_steps" "note_steps" s_note_steps a_note_steps d_note_steps
  g_note_steps : mg "note_steps" = some (.ref a_note_steps)
  b_note_steps : Binds K d_note_steps ["frame", "moment", "lanes", "readers"] []
  a_take_steps : Addr
  d_take_steps : FuncData
  F_take_steps : Fun K "take_steps" "take_steps" s_take_steps a_take_steps d_take_steps
  g_take_steps : mg "take_steps" = some (.ref a_take_steps)
  b_take_steps : Binds K d_take_steps ["frame", "moment", "lanes", "readers"] []
  a_word_steps : Addr
  d_word_steps : FuncData
  F_word_steps : Fun K "word_steps" "word_steps" s_word_steps a_word_steps d_word_steps
  g_word_steps : mg "word_steps" = some (.ref a_word_steps)
  b_word_steps : Binds K d_word_steps ["frame", "moment", "state"] []
  a_can_do : Addr
  d_can_do : FuncData
  F_can_do : Fun K "can_do" "can_do" s_can_do a_can_do d_can_do
  g_can_do : mg "can_do" = some (.ref a_can_do)
  b_can_do : Binds K d_can_do ["moment", "state", "word"] []
  a_possible_steps : Addr
  d_possible_steps : FuncData
  F_possible_steps : Fun K "possible_steps" "possible_steps" s_possible_steps a_possible_steps d_possible_steps
  g_possible_steps : mg "possible_steps" = some (.ref a_possible_steps)
  b_possible_steps : Binds K d_possible_steps ["house", "run"] []
  a_events_of : Addr
  d_events_of : FuncData
  F_events_of : Fun K "events_of" "events_of" s_events_of a_events_of d_events_of
  g_events_of : mg "events_of" = some (.ref a_events_of)
  b_events_of : Binds K d_events_of ["house", "run"] []
  a_state_after : Addr
  d_state_after : FuncData
  F_state_after : Fun K "state_after" "state_after" s_state_after a_state_after d_state_after
  g_state_after : mg "state_after" = some (.ref a_state_after)
  b_state_after : Binds K d_state_after ["house", "run"] []
  a_follow : Addr
  d_follow : FuncData
  F_follow : Fun K "follow" "follow" s_follow a_follow d_follow
  g_follow : mg "follow" = some (.ref a_follow)
  b_follow : Binds K d_follow ["frame", "run"] []
  a_walk : Addr
  d_walk : FuncData
  F_walk : Fun K "walk" "walk" s_walk a_walk d_walk
  g_walk : mg "walk" = some (.ref a_walk)
  b_walk : Binds K d_walk ["frame", "start", "steps"] []
  a_law_source : Addr
  d_law_source : FuncData
  F_law_source : Fun K "_law_source" "_law_source" s_law_source a_law_source d_law_source
  g_law_source : mg "_law_source" = some (.ref a_law_source)
  b_law_source : Binds K d_law_source ["_law_script"] []
  a_law_draw : Addr
  d_law_draw : FuncData
  F_law_draw : Fun K "_law_draw" "_law_draw" s_law_draw a_law_draw d_law_draw
  g_law_draw : mg "_law_draw" = some (.ref a_law_draw)
  b_law_draw : Binds K d_law_draw ["_law_source_here", "_law_limit"] []
  a_law_words : Addr
  d_law_words : FuncData
  F_law_words : Fun K "_law_words" "_law_words" s_law_words a_law_words d_law_words
  g_law_words : mg "_law_words" = some (.ref a_law_words)
  b_law_words : Binds K d_law_words ["_law_source_here", "_law_room"] []
  a_law_scheme : Addr
  d_law_scheme : FuncData
  F_law_scheme : Fun K "_law_scheme" "_law_scheme" s_law_scheme a_law_scheme d_law_scheme
  g_law_scheme : mg "_law_scheme" = some (.ref a_law_scheme)
  b_law_scheme : Binds K d_law_scheme ["_law_source_here"] []
  a_law_house : Addr
  d_law_house : FuncData
  F_law_house : Fun K "_law_house" "_law_house" s_law_house a_law_house d_law_house
  g_law_house : mg "_law_house" = some (.ref a_law_house)
  b_law_house : Binds K d_law_house ["_law_source_here", "_law_least", "_law_keys"] []
  a_law_same : Addr
  d_law_same : FuncData
  F_law_same : Fun K "_law_same" "_law_same" s_law_same a_law_same d_law_same
  g_law_same : mg "_law_same" = some (.ref a_law_same)
  b_law_same : Binds K d_law_same ["_law_found", "_law_due"] []
  a_law : Addr
  d_law : FuncData
  F_law : Fun K "law" "law" s_law a_law d_law
  g_law : mg "law" = some (.ref a_law)
  b_law : Binds K d_law ["_law_script"] []
  z_all : mg "all" = none
  z_any : mg "any" = none
  z_bool : mg "bool" = none
  z_enumerate : mg "enumerate" = none
  z_int : mg "int" = none
  z_isinstance : mg "isinstance" = none
  z_len : mg "len" = none
  z_list : mg "list" = none
  z_max : mg "max" = none
  z_min : mg "min" = none
  z_range : mg "range" = none
  z_row : mg "row" = none
  z_sorted : mg "sorted" = none
  z_str : mg "str" = none
  z_tuple : mg "tuple" = none
  z_zip : mg "zip" = none
  u_GREATEST_OF_COUNTS : Value
  g_GREATEST_OF_COUNTS : mg "GREATEST_OF_COUNTS" = some u_GREATEST_OF_COUNTS
  r_GREATEST_OF_COUNTS : RelV (.int 4) u_GREATEST_OF_COUNTS
  c_REFUSALS : Addr
  g_REFUSALS : mg "REFUSALS" = some (.ref c_REFUSALS)
  r_REFUSALS : RelV (.ref c_REFUSALS) (.ref c_REFUSALS)
  q_REFUSALS : ∀ H, SqT K H c_REFUSALS [.str "back", .str "lost"]
  c_NOTINGS : Addr
  g_NOTINGS : mg "NOTINGS" = some (.ref c_NOTINGS)
  r_NOTINGS : RelV (.ref c_NOTINGS) (.ref c_NOTINGS)
  q_NOTINGS : ∀ H, SqT K H c_NOTINGS [.str "behind", .str "first", .str "with"]
  c_WORDS : Addr
  g_WORDS : mg "WORDS" = some (.ref c_WORDS)
  r_WORDS : RelV (.ref c_WORDS) (.ref c_WORDS)
  q_WORDS : ∀ H, SqT K H c_WORDS [.str "show", .str "tell", .str "agree", .str "close", .str "clear", .str "drain", .str "copy", .str "open", .str "drop"]
  u_MOST_WORDS : Value
  g_MOST_WORDS : mg "MOST_WORDS" = some u_MOST_WORDS
  r_MOST_WORDS : RelV (.int 15) u_MOST_WORDS
  u_MOST_SHOWS : Value
  g_MOST_SHOWS : mg "MOST_SHOWS" = some u_MOST_SHOWS
  r_MOST_SHOWS : RelV (.int 2) u_MOST_SHOWS
  u_MOST_KEYS : Value
  g_MOST_KEYS : mg "MOST_KEYS" = some u_MOST_KEYS
  r_MOST_KEYS : RelV (.int 3) u_MOST_KEYS
  u_MOST_LETTERS : Value
  g_MOST_LETTERS : mg "MOST_LETTERS" = some u_MOST_LETTERS
  r_MOST_LETTERS : RelV (.int 3) u_MOST_LETTERS
  u_MOST_SENDERS : Value
  g_MOST_SENDERS : mg "MOST_SENDERS" = some u_MOST_SENDERS
  r_MOST_SENDERS : RelV (.int 3) u_MOST_SENDERS
  u_MOST_STEPS : Value
  g_MOST_STEPS : mg "MOST_STEPS" = some u_MOST_STEPS
  r_MOST_STEPS : RelV (.int 200) u_MOST_STEPS
  a_init_Frame : Addr
  d_init_Frame : FuncData
  F_init_Frame : Fun K "__init__" "Frame.__init__" s_init_Frame a_init_Frame d_init_Frame
  b_init_Frame : Binds K d_init_Frame ["self", "house"] []
  C_Frame : Addr
  g_Frame : mg "Frame" = some (.ref C_Frame)
  M_Frame : Mk K C_Frame a_init_Frame
  L_Frame : Cls K C_Frame
  n_Frame_asks : NoAttr K C_Frame "asks"
  n_Frame_paced : NoAttr K C_Frame "paced"
  n_Frame_refused : NoAttr K C_Frame "refused"
  n_Frame_notes : NoAttr K C_Frame "notes"
  n_Frame_steady : NoAttr K C_Frame "steady"
  n_Frame_plan : NoAttr K C_Frame "plan"
  n_Frame_counts : NoAttr K C_Frame "counts"
  n_Frame_courses : NoAttr K C_Frame "courses"
  n_Frame_letters : NoAttr K C_Frame "letters"
  n_Frame_senders : NoAttr K C_Frame "senders"
  n_Frame_idle : NoAttr K C_Frame "idle"
  n_Frame_moments : NoAttr K C_Frame "moments"
  a_init_Moment : Addr
  d_init_Moment : FuncData
  F_init_Moment : Fun K "__init__" "Moment.__init__" s_init_Moment a_init_Moment d_init_Moment
  b_init_Moment : Binds K d_init_Moment ["self", "done", "counts"] []
  C_Moment : Addr
  g_Moment : mg "Moment" = some (.ref C_Moment)
  M_Moment : Mk K C_Moment a_init_Moment
  L_Moment : Cls K C_Moment
  n_Moment_shown : NoAttr K C_Moment "shown"
  n_Moment_told : NoAttr K C_Moment "told"
  n_Moment_closed : NoAttr K C_Moment "closed"
  n_Moment_opened : NoAttr K C_Moment "opened"
  n_Moment_drained : NoAttr K C_Moment "drained"
  n_Moment_dropped : NoAttr K C_Moment "dropped"
  n_Moment_newest : NoAttr K C_Moment "newest"
  n_Moment_readable : NoAttr K C_Moment "readable"
  n_Moment_dead : NoAttr K C_Moment "dead"
/-- the source of draws, its script's list apart from Av -/
structure SrcA (H : Hp) (a : Addr) (n : Nat) (Av : Addr → Prop) : Prop where
  ex : ∃ (l : Addr) (ns : List Int) (x y z : Int), H a = some (.lst [.ref l, .int x, .int y, .int z]) ∧ H l = some (.lst (ns.map V.int)) ∧ (∀ k ∈ ns, k.natAbs.log2 ≤ 1048576) ∧ ns.length ≤ 63 ∧
    0 ≤ x ∧ x.natAbs.log2 ≤ 1048576 ∧ 0 ≤ y ∧ y < 2147483647 ∧ 0 ≤ z ∧ z ≤ (n : Int) ∧ ∀ D, Av D → l ≠ D
def spDrawA : Sp := fun vs H Q _ => ∃ (a : Addr) (n : Nat) (lim : Int) (Av : Addr → Prop), vs = [.ref a, .int lim] ∧ SrcA H a n Av ∧ (∀ D, Av D → H D ≠ none) ∧ n < 1000000 ∧ 1 ≤ lim ∧ lim ≤ 1000000000000 ∧
  ∀ d H', 0 ≤ d → d < lim → SrcA H' a (n + 1) Av → But a H H' → Q (.int d) H'
def spSourceA (K : PySem.W.Frag) : Sp := fun vs H Q _ => ∃ (a : Addr) (ns : List Int), vs = [.ref a] ∧ SqL K H a (ns.map V.int) ∧ ns.length ≤ 63 ∧ (∀ z ∈ ns, Builtin.Int.intBits z ≤ 1048576) ∧
  ∀ p H', H p = none → SrcA H' p 0 (fun _ => False) → Same H H' → Q (.ref p) H'
/-- no list for Av stands free -/
def Live (H : Hp) (Av : Addr → Prop) : Prop := ∀ D, Av D → H D ≠ none
section
variable {H H' : Hp} {a : Addr} {n m : Nat} {Av Av' : Addr → Prop}
theorem SrcA.ne (S : SrcA H a n Av) {b : Addr} (h : H b = none) : b ≠ a := by
  obtain ⟨l, ns, x, y, z, h1, _⟩ := S.ex
  intro e; subst e; rw [h] at h1; cases h1
theorem SrcA.live (S : SrcA H a n Av) : H a ≠ none := fun e => S.ne e rfl
theorem SrcA.le (S : SrcA H a n Av) (h : n ≤ m) : SrcA H a m Av := by
  obtain ⟨l, ns, x, y, z, h1, h2, h3, h4, h5, h6, h7, h8, h9, h10, h11⟩ := S.ex
  exact ⟨l, ns, x, y, z, h1, h2, h3, h4, h5, h6, h7, h8, h9, by omega, h11⟩
theorem SrcA.same (S : SrcA H a n Av) (k : Same H H') : SrcA H' a n Av := by
  obtain ⟨l, ns, x, y, z, h1, h2, h3⟩ := S.ex
  exact ⟨l, ns, x, y, z, k _ _ h1, k _ _ h2, h3⟩
theorem SrcA.sub (S : SrcA H a n Av) (h : ∀ D, Av' D → Av D) : SrcA H a n Av' := by
  obtain ⟨l, ns, x, y, z, h1, h2, h3, h4, h5, h6, h7, h8, h9, h10, h11⟩ := S.ex
  exact ⟨l, ns, x, y, z, h1, h2, h3, h4, h5, h6, h7, h8, h9, h10, fun D hD => h11 D (h D hD)⟩
theorem SrcA.add {D : Addr} {o : HO} (S : SrcA H a n Av) (hD : H D = none) : SrcA (upd H D o) a n (And1 Av D) := by
  have k := same_upd (o := o) hD
  obtain ⟨l, ns, x, y, z, h1, h2, h3, h4, h5, h6, h7, h8, h9, h10, h11⟩ := S.ex
  exact ⟨l, ns, x, y, z, k _ _ h1, k _ _ h2, h3, h4, h5, h6, h7, h8, h9, h10, fun b hb e => by
    rcases hb with hb | hb
    · exact h11 b hb e
    · rw [e, hb, hD] at h2; cases h2⟩
theorem SrcA.put {D : Addr} {o : HO} (S : SrcA H a n Av) (hD : Av D) (ne : D ≠ a) : SrcA (upd H D o) a n Av := by
  obtain ⟨l, ns, x, y, z, h1, h2, h3, h4, h5, h6, h7, h8, h9, h10, h11⟩ := S.ex
  exact ⟨l, ns, x, y, z, (by rw [upd_ne ne.symm]; exact h1), (by rw [upd_ne (h11 D hD)]; exact h2), h3, h4, h5, h6, h7, h8, h9, h10, h11⟩
theorem Live.but (h : Live H Av) (S : SrcA H' a n Av) (b : But a H H') : Live H' Av := fun D hD z => by
  by_cases e : D = a
  · subst e; exact S.live z
  · cases y : H D with
    | none => exact h D hD y
    | some o => rw [b _ _ e y] at z; cases z
theorem Live.same (h : Live H Av) (k : Same H H') : Live H' Av := fun D hD z => by
  cases y : H D with
  | none => exact h D hD y
  | some o => rw [k _ _ y] at z; cases z
theorem Live.add {D : Addr} {o : HO} (h : Live H Av) (hD : H D = none) : Live (upd H D o) (And1 Av D) := fun b hb z => by
  rcases hb with hb | hb
  · exact h.same (same_upd hD) b hb z
  · subst hb; rw [upd_same] at z; cases z
theorem Live.put {D : Addr} {o : HO} (h : Live H Av) : Live (upd H D o) Av := fun b hb z => by
  by_cases e : b = D
  · subst e; rw [upd_same] at z; cases z
  · rw [upd_ne e] at z; exact h b hb z
end
section
variable {P : Program} {w : World} {K : PySem.W.Frag} {mg : Str → Option Value} {base : Heap}
theorem ok_law_source (T : Txt K mg) : FnOk P w K mg base CX0 1 T.a_law_source T.d_law_source ["_law_script"] (spSourceA K) := by
  refine T.F_law_source.ok sc_law_source (fun vs H Q E h => ?_) (fun cdv A outer s H vs Q E hr h => ?_)
  · obtain ⟨a, ns, rfl, _⟩ := h
    rfl
  · obtain ⟨a, ns, rfl, hS, hlen, hb, q⟩ := h
    refine ⟨_, (pss_one (ps_ret (pe_lst (pa_cons (pe_callTy call_list_of (by rfl) T.z_list (by decide +kernel) (pa_cons (pv 0) pa_nil)) (pa_cons pe_int (pa_cons pe_int (pa_cons pe_int pa_nil))))))), ?_⟩
    refine ⟨.ref a, rfl, a, _, rfl, .inl hS, fun l hl => ⟨(by show 4 ≤ sizeLine; decide), fun p hp => ?_⟩⟩
    have hpl : l ≠ p := ne_of_none upd_same hp
    have hp0 : H p = none := by rw [← upd_ne (H := H) (o := .lst (ns.map V.int)) hpl.symm]; exact hp
    refine q p _ hp0 ⟨l, ns, 0, 1, 0, upd_same, (by rw [upd_ne hpl]; exact upd_same), fun k hk => bits_log (hb k hk), hlen, by decide, by decide, by decide, by decide, by decide, by decide, fun _ h => False.elim h⟩ ((same_upd hl).trans (same_upd hp))
theorem ok_law_draw (T : Txt K mg) : FnOk P w K mg base CX0 1 T.a_law_draw T.d_law_draw ["_law_source_here", "_law_limit"] spDrawA := by
  refine T.F_law_draw.ok sc_law_draw (fun vs H Q E h => ?_) (fun cdv A outer s H vs Q E hr h => ?_)
  · obtain ⟨a, n, lim, Av, rfl, _⟩ := h
    rfl
  · obtain ⟨a, n, lim, Av, rfl, S, hAv, hn, l1, l2, q⟩ := h
    refine ⟨_, (pss_cons (ps_if (PW.pt (pw_and (pt_cmpR op_lt (pe_ix (ixL K) (pv 0) pe_int (fun _ _ => rfl)) (pv 1) (nomark _)) (pw_and1 (pt_truth (pe_ix (ixL K) (pv 0) pe_int (fun _ _ => rfl)) (by intro _; rfl)))))
      (pss_cons (ps_set (i := 2) sc_law_draw.nd rfl (Or.inl rfl) (pe_ix (ixL K) (pe_ix (ixL K) (pv 0) pe_int (fun _ _ => rfl)) pe_int (fun _ _ => rfl)))
      (pss_cons (ps_asg (pe_slice sl_list (pe_ix (ixL K) (pv 0) pe_int (fun _ _ => rfl)) (po_some pe_int) po_none) (pg_sub (pv 0) pe_int set_list))
      (pss_one (ps_if (pt_cmpR op_ge (pv 2) (pe_op op_pow pe_int pe_int) (nomark _))
      (pss_one (ps_asg (pv 2) (pg_sub (pv 0) pe_int set_list)))
      (pss_one (ps_asg (pe_op op_mod (pe_callTy call_int1 (by rfl) T.z_int (by decide +kernel) (pa_cons (pe_op op_add (pe_op op_add (pe_op Lc.op_mulX (pe_ix (ixL K) (pv 0) pe_int (fun _ _ => rfl)) pe_int) (pe_op Lc.op_mulX (pv 2) pe_int)) pe_int) pa_nil)) pe_int) (pg_sub (pv 0) pe_int set_list)))))))
      pss_nil)
      (pss_cons (ps_if (pt_cmpR op_ge (pe_ix (ixL K) (pv 0) pe_int (fun _ _ => rfl)) (pv 1) (nomark _))
      (pss_cons (ps_set (i := 3) sc_law_draw.nd rfl (Or.inl rfl) (pe_op op_mod (pe_callTy call_int1 (by rfl) T.z_int (by decide +kernel) (pa_cons (pe_ix (ixL K) (pv 0) pe_int (fun _ _ => rfl)) pa_nil)) (pv 1)))
      (pss_cons (ps_asg (pe_op op_fdivW (pe_ix (ixL K) (pv 0) pe_int (fun _ _ => rfl)) (pv 1)) (pg_sub (pv 0) pe_int set_list))
      (pss_one (ps_ret (pv 3)))))
      pss_nil)
      (pss_cons (ps_asg (pe_op op_add (pe_ix (ixL K) (pv 0) pe_int (fun _ _ => rfl)) pe_int) (pg_sub (pv 0) pe_int set_list))
      (pss_cons (ps_set (i := 4) sc_law_draw.nd rfl (Or.inl rfl) (pe_op op_mod (pe_callTy call_int1 (by rfl) T.z_int (by decide +kernel) (pa_cons (pe_op op_add (pe_ix (ixL K) (pv 0) pe_int (fun _ _ => rfl)) (pe_op Lc.op_mulX (pe_ix (ixL K) (pv 0) pe_int (fun _ _ => rfl)) pe_int)) pa_nil)) pe_int))
      (pss_one (ps_ret (pe_op op_mod (pe_op op_mod (pe_callTy call_int1 (by rfl) T.z_int (by decide +kernel) (pa_cons (pe_op op_add (pe_op op_add (pe_op Lc.op_mulX (pv 4) (pv 4)) (pe_op Lc.op_mulX (pe_ix (ixL K) (pv 0) pe_int (fun _ _ => rfl)) pe_int)) (pe_ix (ixL K) (pv 0) pe_int (fun _ _ => rfl))) pa_nil)) pe_int) (pv 1)))))))), ?_⟩
    refine seq_cut (fun σ' H' => ∃ c, σ' = [some (.ref a), some (.int lim), c, none, none] ∧ SrcA H' a n Av ∧ But a H H') ?_ (fun K1 => ?_)
    · rintro σ' H' ⟨c, rfl, S', B'⟩
      obtain ⟨l, ns, x, y, z, ha, hl, hb, hlen, x0, xb, y0, y1, z0, z1, av⟩ := S'.ex
      have nla : l ≠ a := fun e => by
        subst e; rw [ha] at hl
        have e2 := HO.lst.inj (Option.some.inj hl)
        cases ns with
        | nil => exact nomatch e2
        | cons k r => exact nomatch (List.cons.inj e2).1
      refine ⟨.ref a, rfl, a, _, 1, .int x, rfl, rfl, SqL.of ha, atI_nat (j := 1) rfl, .int lim, rfl, x, lim, rfl, rfl, _, rfl, ite2 (fun e => ?_) (fun e => ?_)⟩
      · have e1 : lim ≤ x := of_decide_eq_true e
        refine ⟨.ref a, rfl, a, _, 1, .int x, rfl, rfl, SqL.of ha, atI_nat (j := 1) rfl, .inl ⟨x, rfl, .int lim, rfl, x, lim, rfl, rfl, (by show 0 < lim; omega), ?_⟩⟩
        refine ⟨.ref a, rfl, a, _, 1, .int x, rfl, rfl, SqL.of ha, atI_nat (j := 1) rfl, .int lim, rfl, x, lim, rfl, rfl, divX (by omega) (Nat.lt_of_lt_of_le (by omega : lim.natAbs < 2 ^ 64) (Nat.pow_le_pow_right (by decide) (by decide))), .ref a, rfl, a, _, 1, 1, rfl, rfl, ha, rfl, ?_⟩
        refine ⟨.int (x % lim), rfl, q _ _ (Int.emod_nonneg x (by omega)) (Int.emod_lt_of_pos x (by omega)) ?_ B'.upd⟩
        exact ⟨l, ns, x / lim, y, z, upd_same, (by rw [upd_ne nla]; exact hl), hb, hlen, Int.ediv_nonneg x0 (by omega), idiv_log x0 l1 xb, y0, y1, z0, by omega, av⟩
      · refine ⟨.ref a, rfl, a, _, 3, .int z, rfl, rfl, SqL.of ha, atI_nat (j := 3) rfl, z, 1, rfl, rfl, .ref a, rfl, a, _, 3, 3, rfl, rfl, ha, rfl, ?_⟩
        have ha2 : (upd H' a (.lst [.ref l, .int x, .int y, .int (z + 1)])) a = some (.lst [.ref l, .int x, .int y, .int (z + 1)]) := upd_same
        have fz : Few (z + 1) := few_le (b := 1000000) (by omega) (by omega) (by decide)
        refine ⟨.ref a, rfl, a, _, 2, .int y, rfl, rfl, SqL.of ha2, atI_nat (j := 2) rfl, .ref a, rfl, a, _, 3, .int (z + 1), rfl, rfl, SqL.of ha2, atI_nat (j := 3) rfl, z + 1, 40692, rfl, rfl, mulX fz (few_le (b := 40692) (by decide) (by decide) (by decide)), y, _, rfl, rfl, .inl ⟨_, rfl, _, _, rfl, rfl, (by show (0 : Int) < 2147483399; decide), ?_⟩⟩
        have m0 : 0 ≤ (y + (z + 1) * 40692) % 2147483399 := Int.emod_nonneg _ (by decide)
        have m1 : (y + (z + 1) * 40692) % 2147483399 < 2147483399 := Int.emod_lt_of_pos _ (by decide)
        have fm := few_le (b := 2147483399) m0 (Int.le_of_lt m1) (by decide)
        refine ⟨_, rfl, _, rfl, _, _, rfl, rfl, mulX fm fm, .ref a, rfl, a, _, 3, .int (z + 1), rfl, rfl, SqL.of ha2, atI_nat (j := 3) rfl, z + 1, 3791, rfl, rfl, mulX fz (few_le (b := 3791) (by decide) (by decide) (by decide)), _, _, rfl, rfl, .ref a, rfl, a, _, 2, .int y, rfl, rfl, SqL.of ha2, atI_nat (j := 2) rfl, _, y, rfl, rfl, .inl ⟨_, rfl, _, _, rfl, rfl, (by show (0 : Int) < 2147483647; decide), .int lim, rfl, _, lim, rfl, rfl, (by show 0 < lim; omega), ?_⟩⟩
        refine q _ _ (Int.emod_nonneg _ (by omega)) (Int.emod_lt_of_pos _ (by omega)) ?_ B'.upd
        exact ⟨l, ns, x, y, z + 1, upd_same, (by rw [upd_ne nla]; exact hl), hb, hlen, x0, xb, y0, y1, by omega, by omega, av⟩
    · obtain ⟨l, ns, x, y, z, ha, hl, hb, hlen, x0, xb, y0, y1, z0, z1, av⟩ := S.ex
      refine ⟨.ref a, rfl, a, _, 1, .int x, rfl, rfl, SqL.of ha, atI_nat (j := 1) rfl, .int lim, rfl, x, lim, rfl, rfl, _, rfl, ite2 (fun e => ?_) (fun e => ?_)⟩
      · refine ⟨.ref a, rfl, a, _, 0, .ref l, rfl, rfl, SqL.of ha, atI_nat (j := 0) rfl, _, .inl ⟨_, SqL.of hl, rfl⟩, ?_⟩
        cases ns with
        | nil => exact iteF (K1 _ _ ⟨none, rfl, S, But.refl _ _⟩)
        | cons k r =>
          refine iteT ?_
          refine ⟨.ref a, rfl, a, _, 0, .ref l, rfl, rfl, SqL.of ha, atI_nat (j := 0) rfl, l, _, 0, .int k, rfl, rfl, SqL.of hl, atI_nat (j := 0) rfl, ?_⟩
          refine ⟨.ref a, rfl, a, _, 0, .ref l, rfl, rfl, SqL.of ha, atI_nat (j := 0) rfl, 1, rfl, l, _, rfl, SqL.of hl, fun p hp => ?_⟩
          have npa : a ≠ p := ne_of_none ha hp
          have ha1 : (upd H p (.lst (cutV ((k :: r).map V.int) (some 1) none))) a = some (.lst [.ref l, .int x, .int y, .int z]) := by
            rw [upd_ne npa]; exact ha
          refine ⟨.ref a, rfl, a, _, 0, 0, rfl, rfl, ha1, rfl, ?_⟩
          have ec : cutV ((k :: r).map V.int) (some 1) none = r.map V.int := by rw [cut1]; rfl
          rw [ec]
          have ha2 : (upd (upd H p (.lst (r.map V.int))) a (.lst [.ref p, .int x, .int y, .int z])) a = some (.lst [.ref p, .int x, .int y, .int z]) := upd_same
          have hp2 : (upd (upd H p (.lst (r.map V.int))) a (.lst [.ref p, .int x, .int y, .int z])) p = some (.lst (r.map V.int)) := by
            rw [upd_ne npa.symm]; exact upd_same
          have B2 : But a H (upd (upd H p (.lst (r.map V.int))) a (.lst [.ref p, .int x, .int y, .int z])) := (Same.but (same_upd hp)).upd
          have hk : k.natAbs.log2 ≤ 1048576 := hb k List.mem_cons_self
          have hr' : ∀ j ∈ r, j.natAbs.log2 ≤ 1048576 := fun j hj => hb j (List.mem_cons_of_mem _ hj)
          have hlr : r.length ≤ 63 := by rw [List.length_cons] at hlen; omega
          refine ⟨.int k, rfl, 10, 18, rfl, rfl, ⟨by decide, by decide, by decide⟩, k, _, rfl, rfl, _, rfl, ite2 (fun e => ?_) (fun e => ?_)⟩
          · have e1 : (10 : Int) ^ 18 ≤ k := of_decide_eq_true e
            refine ⟨.int k, rfl, .ref a, rfl, a, _, 1, 1, rfl, rfl, ha2, rfl, ?_⟩
            refine K1 _ _ ⟨some (.int k), rfl, ⟨p, r, k, y, z, upd_same, ?_, hr', hlr, by omega, hk, y0, y1, z0, z1, fun D hD e => hAv D hD (e ▸ hp)⟩, B2.upd⟩
            rw [upd_ne npa.symm]; exact hp2
          · refine ⟨.ref a, rfl, a, _, 2, .int y, rfl, rfl, SqL.of ha2, atI_nat (j := 2) rfl, y, 48271, rfl, rfl, mulX (few_le (b := 2147483647) y0 (by omega) (by decide)) (few_le (b := 48271) (by decide) (by decide) (by decide)), .int k, rfl, k, 69621, rfl, rfl, mulX (few_bits hk) (few_le (b := 69621) (by decide) (by decide) (by decide)), _, _, rfl, rfl, _, 7, rfl, rfl, .inl ⟨_, rfl, _, _, rfl, rfl, (by show (0 : Int) < 2147483647; decide), .ref a, rfl, a, _, 2, 2, rfl, rfl, ha2, rfl, ?_⟩⟩
            refine K1 _ _ ⟨some (.int k), rfl, ⟨p, r, x, _, z, upd_same, ?_, hr', hlr, x0, xb, Int.emod_nonneg _ (by decide), Int.emod_lt_of_pos _ (by decide), z0, z1, fun D hD e => hAv D hD (e ▸ hp)⟩, B2.upd⟩
            rw [upd_ne npa.symm]; exact hp2
      · exact iteF (K1 _ _ ⟨none, rfl, S, But.refl _ _⟩)
end

section
variable {P : Program} {w : World} {K : PySem.W.Frag} {mg : Str → Option Value} {base : Heap}
theorem ok_is_whole (T : Txt K mg) : FnOk P w K mg base CX0 1 T.a_is_whole T.d_is_whole ["thing", "low", "high"] (spWhole K) := by
  refine T.F_is_whole.ok sc_is_whole (fun vs H Q E h => ?_) (fun cdv A outer s H vs Q E hr h => ?_)
  · obtain ⟨x, lo, hi, n, rfl, _⟩ := h
    rfl
  · obtain ⟨x, lo, hi, n, rfl, hx, q⟩ := h
    refine ⟨_, (pss_one (ps_ret (pe_and (pe_callB call_isi (by rfl) T.z_isinstance (by decide +kernel) (pa_cons (pv 0) (pa_cons (pe_bltn (v := .ty "int") (by rfl) T.z_int (by decide +kernel) rfl) pa_nil))) (pe_and (pe_not (pe_callB call_isi (by rfl) T.z_isinstance (by decide +kernel) (pa_cons (pv 0) (pa_cons (pe_bltn (v := .ty "bool") (by rfl) T.z_bool (by decide +kernel) rfl) pa_nil)))) (pe_one (pe_chain op_le op_le (pv 1) (pv 0) (pv 2))))))), ?_⟩
    refine ⟨x, rfl, x, _, _, _, _, rfl, .ty _, hx.ty, hx.int?, _, rfl, ?_⟩
    cases x with
    | int i =>
      refine iteT ⟨_, rfl, _, _, _, _, _, rfl, .ty _, hx.ty, hx.bool?, _, rfl, _, rfl, iteT ?_⟩
      refine ⟨_, rfl, _, rfl, lo, i, rfl, rfl, _, rfl, ite2 (fun e => ?_) (fun e => ?_)⟩
      · refine ⟨_, rfl, i, hi, rfl, rfl, ?_⟩
        have e2 : wholeV (.int i) lo hi = decide (i ≤ hi) := by
          show (decide (lo ≤ i) && decide (i ≤ hi)) = _
          rw [e, Bool.true_and]
        rw [e2] at q
        exact q
      · have e2 : wholeV (.int i) lo hi = false := by
          show (decide (lo ≤ i) && decide (i ≤ hi)) = _
          rw [Bool.eq_false_iff.mpr e, Bool.false_and]
        rw [e2] at q
        exact q
    | bl b => exact iteT ⟨_, rfl, _, _, _, _, _, rfl, .ty _, hx.ty, hx.bool?, _, rfl, _, rfl, iteF q⟩
    | non => exact iteF q
    | str z => exact iteF q
    | byt z => cases hx
    | flt z => cases hx
    | ref z => exact iteF q
    | ty z => cases hx
theorem ok_is_word (T : Txt K mg) : FnOk P w K mg base CX0 1 T.a_is_word T.d_is_word ["thing", "words"] (spWord K) := by
  refine T.F_is_word.ok sc_is_word (fun vs H Q E h => ?_) (fun cdv A outer s H vs Q E hr h => ?_)
  · obtain ⟨x, t, ws, n, rfl, _⟩ := h
    rfl
  · obtain ⟨x, t, ws, n, rfl, ht, hx, q⟩ := h
    refine ⟨_, (pss_one (ps_ret (pe_and (pe_callB call_isi (by rfl) T.z_isinstance (by decide +kernel) (pa_cons (pv 0) (pa_cons (pe_bltn (v := .ty "str") (by rfl) T.z_str (by decide +kernel) rfl) pa_nil))) (pe_one (pe_cmpR op_in_seq (pv 0) (pv 1) rfl))))), ?_⟩
    refine ⟨x, rfl, x, _, _, _, _, rfl, .ty _, hx.ty, hx.str?, _, rfl, ?_⟩
    cases x with
    | str z =>
      refine iteT ⟨_, rfl, _, rfl, t, _, rfl, .inr ht, rfl, all_flat_str ws, ?_⟩
      rw [show (if false = true then !inV (V.str z) (ws.map V.str) else inV (V.str z) (ws.map V.str)) = decide (z ∈ ws) from inV_str z ws]
      exact q
    | int i => exact iteF q
    | bl b => exact iteF q
    | non => exact iteF q
    | byt z => cases hx
    | flt z => cases hx
    | ref z => exact iteF q
    | ty z => cases hx
end

section
theorem isiK {X : Cx} (K : PySem.W.Frag) (h : X.K = K := by rfl) : CallR X (.builtin "isinstance") (rIsi K) := h ▸ call_isi
theorem strs_of {H : Hp} {p : Addr} {W : List Str} : ∀ {xs : List V} {ds : List Dt}, Obs H p xs ds → (ds.all fun x => wordD x W) = true → ∃ ws : List Str, xs = ws.map V.str ∧ ds = ws.map Dt.str
  | _, _, .nil, _ => ⟨[], rfl, rfl⟩
  | _, _, .cons h t, e => by
    rw [List.all_cons, Bool.and_eq_true] at e
    obtain ⟨ws, e1, e2⟩ := strs_of t e.2
    cases h with
    | str s => exact ⟨s :: ws, by rw [e1]; rfl, by rw [e2]; rfl⟩
    | _ => exact nomatch e.1
theorem shows_strs (ws : List Str) : (ws.map Dt.str).countP isShow = ws.countP fun y => decide (y = ("show" : Str)) := by
  rw [List.countP_map]; rfl
theorem row_len {d : Dt} {lo hi : Int} (h : rowD d lo hi = true) : ∃ z ds, d = .tup z ds ∧ lo ≤ (ds.length : Int) ∧ (ds.length : Int) ≤ hi := by
  cases d with
  | tup z ds =>
    have h2 : (decide (lo ≤ (ds.length : Int)) && decide ((ds.length : Int) ≤ hi)) = true := h
    rw [Bool.and_eq_true] at h2
    exact ⟨z, ds, rfl, of_decide_eq_true h2.1, of_decide_eq_true h2.2⟩
  | _ => exact nomatch h
theorem tup_ob {H : Hp} {p : Addr} {v : V} {z : Bool} {ds : List Dt} (h : Ob H p v (.tup z ds)) : ∃ a xs, v = .ref a ∧ Tp H a z xs ∧ a ≠ p ∧ Obs H p xs ds := by
  cases h with
  | tup e ne all => exact ⟨_, _, rfl, e, ne, all⟩
theorem len4 {α : Type} {l : List α} (h : l.length = 4) : ∃ a b c d, l = [a, b, c, d] := by
  match l, h with
  | [a, b, c, d], _ => exact ⟨a, b, c, d, rfl⟩
theorem len5 {α : Type} {l : List α} (h : l.length = 5) : ∃ a b c d e, l = [a, b, c, d, e] := by
  match l, h with
  | [a, b, c, d, e], _ => exact ⟨a, b, c, d, e, rfl⟩
theorem len6 {α : Type} {l : List α} (h : l.length = 6) : ∃ a b c d e f, l = [a, b, c, d, e, f] := by
  match l, h with
  | [a, b, c, d, e, f], _ => exact ⟨a, b, c, d, e, f, rfl⟩
theorem obs_cons {H : Hp} {p : Addr} {xs : List V} {d : Dt} {ds : List Dt} (h : Obs H p xs (d :: ds)) : ∃ v vs, xs = v :: vs ∧ Ob H p v d ∧ Obs H p vs ds := by
  cases h with
  | cons h t => exact ⟨_, _, rfl, h, t⟩
theorem obs_nil {H : Hp} {p : Addr} {xs : List V} (h : Obs H p xs []) : xs = [] := by
  cases h; rfl
theorem obs4 {H : Hp} {p : Addr} {xs : List V} {a b c d : Dt} (h : Obs H p xs [a, b, c, d]) : ∃ v1 v2 v3 v4, xs = [v1, v2, v3, v4] ∧ Ob H p v1 a ∧ Ob H p v2 b ∧ Ob H p v3 c ∧ Ob H p v4 d := by
  obtain ⟨v1, _, rfl, o1, h⟩ := obs_cons h
  obtain ⟨v2, _, rfl, o2, h⟩ := obs_cons h
  obtain ⟨v3, _, rfl, o3, h⟩ := obs_cons h
  obtain ⟨v4, _, rfl, o4, h⟩ := obs_cons h
  have z := obs_nil h
  subst z
  exact ⟨v1, v2, v3, v4, rfl, o1, o2, o3, o4⟩
theorem obs5 {H : Hp} {p : Addr} {xs : List V} {a b c d e : Dt} (h : Obs H p xs [a, b, c, d, e]) : ∃ v1 v2 v3 v4 v5, xs = [v1, v2, v3, v4, v5] ∧ Ob H p v1 a ∧ Ob H p v2 b ∧ Ob H p v3 c ∧ Ob H p v4 d ∧ Ob H p v5 e := by
  obtain ⟨v1, _, rfl, o1, h⟩ := obs_cons h
  obtain ⟨v2, v3, v4, v5, rfl, h2⟩ := obs4 h
  exact ⟨v1, v2, v3, v4, v5, rfl, o1, h2⟩
theorem obs6 {H : Hp} {p : Addr} {xs : List V} {a b c d e f : Dt} (h : Obs H p xs [a, b, c, d, e, f]) : ∃ v1 v2 v3 v4 v5 v6, xs = [v1, v2, v3, v4, v5, v6] ∧ Ob H p v1 a ∧ Ob H p v2 b ∧ Ob H p v3 c ∧ Ob H p v4 d ∧ Ob H p v5 e ∧ Ob H p v6 f := by
  obtain ⟨v1, _, rfl, o1, h⟩ := obs_cons h
  obtain ⟨v2, v3, v4, v5, v6, rfl, h2⟩ := obs5 h
  exact ⟨v1, v2, v3, v4, v5, v6, rfl, o1, h2⟩
/-- all([test of x for x in t]), t handed by tl -/
theorem all_comp2 {K : PySem.W.Frag} {xs : List V} {ds : List Dt} {i0 : Nat} {tl te : TE} {σ : L2.St} {H : Hp} {Q : VK} {p : Addr} (f : Dt → Bool) (htl : ∀ R : VK, (∀ a H1, Same H H1 → H1 a = some (.tup xs) → R (.ref a) H1) → tl σ H R) (hO : Obs H p xs ds) (hl : xs.length ≤ 1000)
    (hte : ∀ (x : V) (d : Dt) (H' : Hp) (R : VK), Same H H' → Ob H' p x d → (∀ H2, Same H' H2 → R (.bl (f d)) H2) → te ((wipe σ [i0]).set i0 (some x)) H' R)
    (hw : ∀ x : V, wipe ((wipe σ [i0]).set i0 (some x)) [i0] = wipe σ [i0])
    (q : ∀ H', Same H H' → Q (.bl (ds.all f)) H') : tCB (rAll K) (tCons (tLc (iTup K tl) (gName i0) tYes te [i0]) tNil) σ H Q := by
  refine htl _ fun a H1 kk hT => ⟨a, rfl, ⟨_, SqT.of hT⟩, fun D hD => ?_⟩
  have len := hO.len
  refine lc_tup (K := K) (a := a) (xs := xs) (fun i H' => Same H1 H' ∧ H' D = some (.lst (((ds.take i).map f).map V.bl))) ⟨same_upd hD, upd_same⟩ (fun i H' _ h => SqT.of (h.1 _ _ hT)) ?_ ?_
  · rintro i x H' hx ⟨k, e⟩
    obtain ⟨d, hd, ob⟩ := (hO.same (kk.trans k)).get hx
    refine ⟨hw x, hte x d H' _ (kk.trans k) ob fun H2 k2 => ⟨_, k2 _ _ e, ?_, fun c o hc => ?_, ?_⟩⟩
    · rw [List.length_map, List.length_map, List.length_take]
      exact Nat.lt_of_le_of_lt (show _ ≤ 1000 by omega) (by decide)
    · rw [upd_ne (ne_of_none hc hD)]; exact k2 _ _ (k c o hc)
    · rw [upd_same, List.take_add_one, hd, List.map_append, List.map_append]; rfl
  · rintro H' ⟨k, e⟩
    rw [len, List.take_length] at e
    refine ⟨D, _, rfl, SqL.of e, ?_⟩
    have e2 : (ds.map f).all id = ds.all f := by rw [List.all_map]; rfl
    rw [e2]
    exact q H' (kk.trans k)
variable {P : Program} {w : World} {K : PySem.W.Frag} {mg : Str → Option Value} {base : Heap}
theorem ok_is_row (T : Txt K mg) : FnOk P w K mg base CX0 1 T.a_is_row T.d_is_row ["thing", "low", "high"] spRow := by
  refine T.F_is_row.ok sc_is_row (fun vs H Q E h => ?_) (fun cdv A outer s H vs Q E hr h => ?_)
  · obtain ⟨p, x, d, lo, hi, rfl, _⟩ := h
    rfl
  · obtain ⟨p, x, d, lo, hi, rfl, ob, q⟩ := h
    refine ⟨_, (pss_one (ps_ret (pe_and (pe_callB call_isi (by rfl) T.z_isinstance (by decide +kernel) (pa_cons (pv 0) (pa_cons (pe_bltn (v := .ty "tuple") (by rfl) T.z_tuple (by decide +kernel) rfl) pa_nil))) (pe_one (pe_chain op_le op_le (pv 1) (pe_callB call_len_seq (by rfl) T.z_len (by decide +kernel) (pa_cons (pv 0) pa_nil)) (pv 2)))))), ?_⟩
    refine ⟨x, rfl, x, _, _, _, _, rfl, .ty _, (ob.arg (K := K)).ty, kit_t d, _, rfl, ?_⟩
    cases ob with
    | @tup a z xs ds e ne all =>
      have len := all.len
      refine iteT ⟨_, rfl, _, rfl, _, _, rfl, .inr e.sq, lo, _, rfl, rfl, _, rfl, ite2 (fun h1 => ?_) (fun h1 => ?_)⟩
      · refine ⟨_, rfl, _, hi, rfl, rfl, ?_⟩
        have e2 : rowD (.tup z ds) lo hi = decide ((xs.length : Int) ≤ hi) := by
          show (decide (lo ≤ (ds.length : Int)) && decide ((ds.length : Int) ≤ hi)) = _
          rw [← len, h1, Bool.true_and]
        rw [e2] at q
        exact q
      · have e2 : rowD (.tup z ds) lo hi = false := by
          show (decide (lo ≤ (ds.length : Int)) && decide ((ds.length : Int) ≤ hi)) = _
          rw [← len, Bool.eq_false_iff.mpr h1, Bool.false_and]
        rw [e2] at q
        exact q
    | _ => exact iteF q
theorem ok_is_counts (T : Txt K mg) : FnOk P w K mg base CX0 2 T.a_is_counts T.d_is_counts ["thing"] (spIs (fun _ => True) countsD) := by
  refine T.F_is_counts.ok sc_is_counts (fun vs H Q E h => ?_) (fun cdv A outer s H vs Q E hr h => ?_)
  · obtain ⟨p, x, d, rfl, _⟩ := h
    rfl
  · obtain ⟨p, x, d, rfl, ob, fz, q⟩ := h
    refine ⟨_, (pss_one (ps_ret (pe_and (pe_call (ok_is_row T) (hr.mono (by decide)) rfl T.g_is_row T.F_is_row.kp T.b_is_row .nil pass0 (pa_cons (pv 0) (pa_cons pe_int (pa_cons pe_int pa_nil)))) (pe_one (pe_callB (cr_all rfl) (by rfl) T.z_all (by decide +kernel) (pa_cons (pe_lc (own := [("count", 1)]) (g := gName 1) (tt := tYes) (by rfl) sc_is_counts.nd (pi_tup (pv 0)) (blkOk_by (own := [("count", 1)]) (N := ["thing", "count"]) (sc := defScope s_is_counts) (by decide +kernel)) (fun _ _ _ _ _ => (pg_name (i := 1) sc_is_counts.nd rfl (Or.inl rfl))) (fun _ _ _ _ _ => pts_nil) (fun _ _ _ _ _ => (pe_call (ok_is_whole T) (hr.mono (by decide)) rfl T.g_is_whole T.F_is_whole.kp T.b_is_whole .nil pass0 (pa_cons (pv 1) (pa_cons pe_int (pa_cons (pe_glob rfl T.g_GREATEST_OF_COUNTS T.r_GREATEST_OF_COUNTS) pa_nil)))))) pa_nil)))))), ?_⟩
    refine ⟨x, rfl, p, x, d, 2, 3, rfl, ob, _, rfl, ?_⟩
    cases e : rowD d 2 3 with
    | false =>
      have e2 : countsD d = false := by unfold countsD; rw [e]; rfl
      rw [e2] at q
      exact iteF (q _ fun _ _ z => z)
    | true =>
      obtain ⟨z, ds, rfl, l1, l2⟩ := row_len e
      obtain ⟨a, xs, rfl, ea, ne, all⟩ := tup_ob ob
      have e2 : countsD (.tup z ds) = ds.all fun x => wholeD x 1 4 := by unfold countsD; rw [e]; rfl
      rw [e2] at q
      have ll := all.len
      refine iteT (all_comp (K := K) (fun x => wholeD x 1 4) rfl ea all (by omega) (fun y dy H' R k oy h => ?_) (fun _ => rfl) q)
      have r := h _ fun _ _ z => z
      rw [← whole_ob oy] at r
      exact ⟨y, rfl, y, 1, 4, _, rfl, oy.arg, r⟩
theorem ok_is_course (T : Txt K mg) : FnOk P w K mg base CX0 2 T.a_is_course T.d_is_course ["thing", "counts"] (spIs2 (fun c => countsD c = true) courseD) := by
  refine T.F_is_course.ok sc_is_course (fun vs H Q E h => ?_) (fun cdv A outer s H vs Q E hr h => ?_)
  · obtain ⟨p, x, y, d, c, rfl, _⟩ := h
    rfl
  · obtain ⟨p, x, y, d, c, rfl, ob, oc, hc, q⟩ := h
    refine ⟨_, (pss_cons (ps_if (pt_not (pt_val (pe_call (ok_is_row T) (hr.mono (by decide)) rfl T.g_is_row T.F_is_row.kp T.b_is_row .nil pass0 (pa_cons (pv 0) (pa_cons (pe_callB call_len_seq (by rfl) T.z_len (by decide +kernel) (pa_cons (pv 1) pa_nil)) (pa_cons (pe_callB call_len_seq (by rfl) T.z_len (by decide +kernel) (pa_cons (pv 1) pa_nil)) pa_nil))))))
      (pss_one (ps_ret pe_bl))
      pss_nil)
      (pss_one (ps_ret (pe_callB (cr_all rfl) (by rfl) T.z_all (by decide +kernel) (pa_cons (pe_lc (own := [("lane", 2), ("count", 3)]) (g := gTup K 2 (gCons (gName 2) (gCons (gName 3) (gNil)))) (tt := tYes) (by rfl) sc_is_course.nd (pi_zipA (by rfl) T.z_zip (pa_cons (pv 0) (pa_cons (pv 1) pa_nil))) (blkOk_by (own := [("lane", 2), ("count", 3)]) (N := ["thing", "counts", "lane", "count"]) (sc := defScope s_is_course) (by decide +kernel)) (fun _ _ _ _ _ => (pg_tup rfl (pgs_cons (pg_name (i := 2) sc_is_course.nd rfl (Or.inl rfl)) (pgs_cons (pg_name (i := 3) sc_is_course.nd rfl (Or.inl rfl)) pgs_nil)))) (fun _ _ _ _ _ => pts_nil) (fun _ _ _ _ _ => (pe_call (ok_is_whole T) (hr.mono (by decide)) rfl T.g_is_whole T.F_is_whole.kp T.b_is_whole .nil pass0 (pa_cons (pv 2) (pa_cons pe_int (pa_cons (pe_op op_sub (pv 3) pe_int) pa_nil)))))) pa_nil))))), ?_⟩
    have hc2 := hc
    unfold countsD at hc2
    rw [Bool.and_eq_true] at hc2
    obtain ⟨zc, cs, rfl, c1, c2⟩ := row_len hc2.1
    obtain ⟨b, ys, rfl, eb, neb, allb⟩ := tup_ob oc
    have lb := allb.len
    refine ⟨x, rfl, _, rfl, b, ys, rfl, .inr eb.sq, _, rfl, b, ys, rfl, .inr eb.sq, p, x, d, (ys.length : Nat), (ys.length : Nat), rfl, ob, _, rfl, ?_⟩
    rw [lb]
    cases e : rowD d ((cs.length : Nat) : Int) ((cs.length : Nat) : Int) with
    | false =>
      have e2 : courseD d (.tup zc cs) = false := by
        unfold courseD
        rw [show itemsD (.tup zc cs) = cs from rfl, e]; rfl
      rw [e2] at q
      exact q _ fun _ _ z => z
    | true =>
      obtain ⟨z, ds, rfl, l1, l2⟩ := row_len e
      obtain ⟨a, xs, rfl, ea, ne, all⟩ := tup_ob ob
      have e2 : courseD (.tup z ds) (.tup zc cs) = (ds.zip cs).all fun q => wholeD q.1 0 (intD q.2 - 1) := by
        unfold courseD
        rw [show itemsD (.tup zc cs) = cs from rfl, e]; rfl
      rw [e2] at q
      have ll := all.len
      refine all_zip (K := K) (fun q => wholeD q.1 0 (intD q.2 - 1)) rfl rfl ea eb all allb (by omega) (fun y z dy dz H' R k oy oz mz h => ?_) (fun _ _ => rfl) q
      have r := h _ fun _ _ z => z
      have hz : wholeD dz 1 4 = true := List.all_eq_true.mp hc2.2 dz mz
      cases oz with
      | int i =>
        have hz2 : (decide (1 ≤ i) && decide (i ≤ 4)) = true := hz
        rw [Bool.and_eq_true] at hz2
        have r2 : R (.bl (wholeD dy 0 (i - 1))) H' := r
        rw [← whole_ob oy] at r2
        exact ⟨y, rfl, _, rfl, _, _, rfl, rfl, y, 0, i - 1, _, rfl, oy.arg, r2⟩
      | _ => exact nomatch hz
theorem ok_is_scheme (T : Txt K mg) : FnOk P w K mg base CX0 2 T.a_is_scheme T.d_is_scheme ["thing"] (spIs (fun _ => True) schemeD) := by
  refine T.F_is_scheme.ok sc_is_scheme (fun vs H Q E h => ?_) (fun cdv A outer s H vs Q E hr h => ?_)
  · obtain ⟨p, x, d, rfl, _⟩ := h
    rfl
  · obtain ⟨p, x, d, rfl, ob, fz, q⟩ := h
    refine ⟨_, (pss_cons (ps_if (pt_not (pt_val (pe_call (ok_is_row T) (hr.mono (by decide)) rfl T.g_is_row T.F_is_row.kp T.b_is_row .nil pass0 (pa_cons (pv 0) (pa_cons pe_int (pa_cons pe_int pa_nil))))))
      (pss_one (ps_ret pe_bl))
      pss_nil)
      (pss_cons (ps_asg (pv 0) (pg_tup rfl (pgs_cons (pg_name (i := 1) sc_is_scheme.nd rfl (Or.inl rfl)) (pgs_cons (pg_name (i := 2) sc_is_scheme.nd rfl (Or.inl rfl)) (pgs_cons (pg_name (i := 3) sc_is_scheme.nd rfl (Or.inl rfl)) (pgs_cons (pg_name (i := 4) sc_is_scheme.nd rfl (Or.inl rfl)) (pgs_cons (pg_name (i := 5) sc_is_scheme.nd rfl (Or.inl rfl)) pgs_nil)))))))
      (pss_cons (ps_if (pt_not (pt_val (pe_callB (cr_all rfl) (by rfl) T.z_all (by decide +kernel) (pa_cons (pe_lc (own := [("flag", 6)]) (g := gName 6) (tt := tYes) (by rfl) sc_is_scheme.nd (pi_tup (pe_tup (pa_cons (pv 1) (pa_cons (pv 2) (pa_cons (pv 5) pa_nil))))) (blkOk_by (own := [("flag", 6)]) (N := ["thing", "asks", "paced", "refused", "notes", "steady", "flag"]) (sc := defScope s_is_scheme) (by decide +kernel)) (fun _ _ _ _ _ => (pg_name (i := 6) sc_is_scheme.nd rfl (Or.inl rfl))) (fun _ _ _ _ _ => pts_nil) (fun _ _ _ _ _ => (pe_callB (isiK K) (by rfl) T.z_isinstance (by decide +kernel) (pa_cons (pv 6) (pa_cons (pe_bltn (v := .ty "bool") (by rfl) T.z_bool (by decide +kernel) rfl) pa_nil))))) pa_nil))))
      (pss_one (ps_ret pe_bl))
      pss_nil)
      (pss_one (ps_ret (pe_and (pe_call (ok_is_word T) (hr.mono (by decide)) rfl T.g_is_word T.F_is_word.kp T.b_is_word .nil pass0 (pa_cons (pv 3) (pa_cons (pe_glob rfl T.g_REFUSALS T.r_REFUSALS) pa_nil))) (pe_one (pe_call (ok_is_word T) (hr.mono (by decide)) rfl T.g_is_word T.F_is_word.kp T.b_is_word .nil pass0 (pa_cons (pv 4) (pa_cons (pe_glob rfl T.g_NOTINGS T.r_NOTINGS) pa_nil)))))))))), ?_⟩
    refine ⟨x, rfl, p, x, d, 5, 5, rfl, ob, _, rfl, ?_⟩
    cases e : rowD d 5 5 with
    | false =>
      have e2 : schemeD d = false := by
        unfold schemeD
        split
        · rw [show rowD (.tup _ _) 5 5 = true from rfl] at e; cases e
        · rfl
      rw [e2] at q
      exact q _ fun _ _ z => z
    | true =>
      obtain ⟨z, ds, rfl, l1, l2⟩ := row_len e
      obtain ⟨a, xs, rfl, ea, ne, all⟩ := tup_ob ob
      obtain ⟨d1, d2, d3, d4, d5, rfl⟩ := len5 (show ds.length = 5 by omega)
      obtain ⟨v1, v2, v3, v4, v5, rfl, o1, o2, o3, o4, o5⟩ := obs5 all
      refine ⟨_, rfl, a, _, rfl, ea.sq, rfl, _, _, rfl, _, _, rfl, _, _, rfl, _, _, rfl, _, _, rfl, rfl, ?_⟩
      dsimp only [gName]
      refine all_comp2 (K := K) (p := p) (i0 := 6) (xs := [v1, v2, v5]) (ds := [d1, d2, d5]) isBd ?_ ?_ ?_ ?_ ?_ (fun H' k => ?_)
      · exact fun R h => ⟨_, rfl, _, rfl, _, rfl, by show 3 ≤ sizeLine; decide, fun c hc => h c _ (same_upd hc) upd_same⟩
      · exact .cons o1 (.cons o2 (.cons o5 .nil))
      · show 3 ≤ 1000; decide
      · exact fun y dy H' R k oy h => ⟨y, rfl, y, _, _, _, _, rfl, .ty _, (oy.arg (K := K)).ty, kit_b dy, h _ fun _ _ z => z⟩
      · exact fun _ => rfl
      have e2 : schemeD (.tup z [d1, d2, d3, d4, d5]) = ([d1, d2, d5].all isBd && (wordD d3 refusals && wordD d4 notings)) := by
        show (isBd d1 && isBd d2 && isBd d5 && (wordD d3 refusals && wordD d4 notings)) = ((isBd d1 && (isBd d2 && (isBd d5 && true))) && _)
        rw [Bool.and_true, Bool.and_assoc (isBd d1)]
      rw [e2] at q
      refine ⟨_, rfl, ?_⟩
      cases eb : [d1, d2, d5].all isBd with
      | false =>
        rw [eb] at q
        exact q _ k
      | true =>
        rw [eb] at q
        refine ⟨v3, rfl, v3, T.c_REFUSALS, refusals, _, rfl, T.q_REFUSALS H', (o3.same k).arg, _, rfl, ?_⟩
        rw [word_ob (o3.same k)]
        cases ew : wordD d3 refusals with
        | false =>
          rw [ew] at q
          exact q _ k
        | true =>
          rw [ew] at q
          refine ⟨v4, rfl, v4, T.c_NOTINGS, notings, _, rfl, T.q_NOTINGS H', (o4.same k).arg, ?_⟩
          rw [word_ob (o4.same k)]
          exact q _ k
theorem ok_is_plan (T : Txt K mg) : FnOk P w K mg base CX0 2 T.a_is_plan T.d_is_plan ["thing"] (spIs fzPlan planD) := by
  refine T.F_is_plan.ok sc_is_plan (fun vs H Q E h => ?_) (fun cdv A outer s H vs Q E hr h => ?_)
  · obtain ⟨p, x, d, rfl, _⟩ := h
    rfl
  · obtain ⟨p, x, d, rfl, ob, fz, q⟩ := h
    refine ⟨_, (pss_cons (ps_if (pt_not (pt_val (pe_call (ok_is_row T) (hr.mono (by decide)) rfl T.g_is_row T.F_is_row.kp T.b_is_row .nil pass0 (pa_cons (pv 0) (pa_cons pe_int (pa_cons (pe_glob rfl T.g_MOST_WORDS T.r_MOST_WORDS) pa_nil))))))
      (pss_one (ps_ret pe_bl))
      pss_nil)
      (pss_one (ps_ret (pe_and (pe_callB (cr_all rfl) (by rfl) T.z_all (by decide +kernel) (pa_cons (pe_lc (own := [("word", 1)]) (g := gName 1) (tt := tYes) (by rfl) sc_is_plan.nd (pi_tup (pv 0)) (blkOk_by (own := [("word", 1)]) (N := ["thing", "word"]) (sc := defScope s_is_plan) (by decide +kernel)) (fun _ _ _ _ _ => (pg_name (i := 1) sc_is_plan.nd rfl (Or.inl rfl))) (fun _ _ _ _ _ => pts_nil) (fun _ _ _ _ _ => (pe_call (ok_is_word T) (hr.mono (by decide)) rfl T.g_is_word T.F_is_word.kp T.b_is_word .nil pass0 (pa_cons (pv 1) (pa_cons (pe_glob rfl T.g_WORDS T.r_WORDS) pa_nil))))) pa_nil)) (pe_one (pe_chain op_le op_le pe_int (pe_bmF PySem.F.plainAttrs_tuple PySem.F.slot_tuple_count PySem.F.type_tuple_count (mt_tcount hr.units) (pv 0) (pa_cons pe_str pa_nil)) (pe_glob rfl T.g_MOST_SHOWS T.r_MOST_SHOWS))))))), ?_⟩
    refine ⟨x, rfl, p, x, d, 1, 15, rfl, ob, _, rfl, ?_⟩
    cases e : rowD d 1 15 with
    | false =>
      have e2 : planD d = false := by unfold planD; rw [e]; rfl
      rw [e2] at q
      exact q _ fun _ _ z => z
    | true =>
      obtain ⟨z, ds, rfl, l1, l2⟩ := row_len e
      obtain ⟨a, xs, rfl, ea, ne, all⟩ := tup_ob ob
      have ll := all.len
      have e2 : planD (.tup z ds) = (ds.all (fun x => wordD x planWords) && (decide (1 ≤ shows (.tup z ds)) && decide (shows (.tup z ds) ≤ 2))) := by unfold planD; rw [e]; rfl
      rw [e2] at q
      refine all_comp (K := K) (fun x => wordD x planWords) rfl ea all (by omega) (fun y dy H' R k oy h => ?_) (fun _ => rfl) (fun H' k => ⟨_, rfl, ?_⟩)
      · have r := h _ fun _ _ z => z
        rw [← word_ob oy] at r
        exact ⟨y, rfl, y, T.c_WORDS, planWords, _, rfl, T.q_WORDS H', oy.arg, r⟩
      cases eb : ds.all fun x => wordD x planWords with
      | false =>
        rw [eb] at q
        exact q _ k
      | true =>
        rw [eb] at q
        obtain ⟨ws, rfl, rfl⟩ := strs_of all eb
        have es : ∀ z, shows (.tup z (ws.map Dt.str)) = ws.countP fun y => decide (y = ("show" : Str)) := fun _ => shows_strs ws
        rw [es] at q
        refine ⟨_, rfl, ⟨a, _, rfl, fz e eb ▸ ea.same k⟩, a, ws, "show", rfl, rfl, (ea.same k).sq, 1, _, rfl, rfl, _, rfl, ite2 (fun h1 => ?_) (fun h1 => ?_)⟩
        · have h2 : 1 ≤ ws.countP fun y => decide (y = ("show" : Str)) := by have := of_decide_eq_true h1; omega
          rw [decide_eq_true h2] at q
          refine ⟨_, _, rfl, rfl, ?_⟩
          have r := q _ k
          rw [Bool.true_and, Bool.true_and] at r
          have e3 : decide ((((ws.countP fun y => decide (y = ("show" : Str))) : Nat) : Int) ≤ 2) = decide ((ws.countP fun y => decide (y = ("show" : Str))) ≤ 2) := decide_eq_decide.mpr (by omega)
          rw [← e3] at r
          exact r
        · have h2 : ¬ 1 ≤ ws.countP fun y => decide (y = ("show" : Str)) := by
            intro z; exact h1 (decide_eq_true (by omega))
          rw [decide_eq_false h2] at q
          exact q _ k
theorem ok_are_fitting (T : Txt K mg) : FnOk P w K mg base CX0 3 T.a_are_fitting T.d_are_fitting ["counts", "plan"] (spIs2 (fun d => fzPlan d ∧ planD d = true) fun c p => countsD c && decide ((itemsD c).length = shows p + 1)) := by
  refine T.F_are_fitting.ok sc_are_fitting (fun vs H Q E h => ?_) (fun cdv A outer s H vs Q E hr h => ?_)
  · obtain ⟨p, x, y, d, e, rfl, _⟩ := h
    rfl
  · obtain ⟨p, z, y, dc, dp, rfl, oc, op, ⟨fz, e2⟩, q⟩ := h
    dsimp only at q
    refine ⟨_, (pss_one (ps_ret (pe_and (pe_call (ok_is_counts T) (hr.mono (by decide)) rfl T.g_is_counts T.F_is_counts.kp T.b_is_counts .nil pass0 (pa_cons (pv 0) pa_nil)) (pe_one (pe_cmpR op_eq (pe_callB call_len_seq (by rfl) T.z_len (by decide +kernel) (pa_cons (pv 0) pa_nil)) (pe_op op_add (pe_bmF PySem.F.plainAttrs_tuple PySem.F.slot_tuple_count PySem.F.type_tuple_count (mt_tcount hr.units) (pv 1) (pa_cons pe_str pa_nil)) pe_int) (nomark _)))))), ?_⟩
    refine ⟨z, rfl, p, z, dc, rfl, oc, trivial, fun H3 k3 => ⟨_, rfl, ?_⟩⟩
    cases e3 : countsD dc with
    | false => rw [e3] at q; exact q _ k3
    | true =>
    rw [e3] at q
    have k : Same H H3 := k3
    have e2' := e2
    unfold planD at e2'
    rw [Bool.and_eq_true, Bool.and_eq_true] at e2'
    unfold countsD at e3
    rw [Bool.and_eq_true] at e3
    obtain ⟨zp, ps, rfl, _, _⟩ := row_len e2'.1
    obtain ⟨zc, cs, rfl, _, _⟩ := row_len e3.1
    obtain ⟨a, xs, rfl, ea, _, alla⟩ := tup_ob (op.same k)
    obtain ⟨b, ys, rfl, eb, _, allb⟩ := tup_ob (oc.same k)
    obtain ⟨ws, rfl, rfl⟩ := strs_of alla e2'.2.1
    have es : ∀ z, shows (.tup z (ws.map Dt.str)) = ws.countP fun y => decide (y = ("show" : Str)) := fun _ => shows_strs ws
    rw [es] at q
    have r := q _ k
    refine ⟨_, rfl, b, ys, rfl, .inr eb.sq, _, rfl, ⟨a, _, rfl, fz e2'.1 e2'.2.1 ▸ ea⟩, a, ws, "show", rfl, rfl, ea.sq, _, _, rfl, rfl, rfl, ?_⟩
    have lb : ys.length = cs.length := allb.len
    have e4 : decide (V.int ((ys.length : Nat) : Int) = V.int ((((ws.countP fun y => decide (y = ("show" : Str))) : Nat) : Int) + 1)) = decide ((itemsD (.tup zc cs)).length = (ws.countP fun y => decide (y = ("show" : Str))) + 1) := by
      refine decide_eq_decide.mpr ⟨fun z => ?_, fun z => ?_⟩
      · have z2 := V.int.inj z
        show cs.length = _
        omega
      · have z2 : cs.length = _ := z
        congr 1
        omega
    rw [Bool.true_and, ← e4] at r
    exact r
theorem ok_is_frame (T : Txt K mg) : FnOk P w K mg base CX0 4 T.a_is_frame T.d_is_frame ["scheme", "plan", "counts"] (spIs3 (fun _ d _ => fzPlan d) frameD) := by
  refine T.F_is_frame.ok sc_is_frame (fun vs H Q E h => ?_) (fun cdv A outer s H vs Q E hr h => ?_)
  · obtain ⟨p, x, y, z, d, e, g, rfl, _⟩ := h
    rfl
  · obtain ⟨p, x, y, z, ds, dp, dc, rfl, os, op, oc, fz, q⟩ := h
    refine ⟨_, (pss_one (ps_ret (pe_and (pe_call (ok_is_scheme T) (hr.mono (by decide)) rfl T.g_is_scheme T.F_is_scheme.kp T.b_is_scheme .nil pass0 (pa_cons (pv 0) pa_nil)) (pe_and (pe_call (ok_is_plan T) (hr.mono (by decide)) rfl T.g_is_plan T.F_is_plan.kp T.b_is_plan .nil pass0 (pa_cons (pv 1) pa_nil)) (pe_one (pe_call (ok_are_fitting T) (hr.mono (by decide)) rfl T.g_are_fitting T.F_are_fitting.kp T.b_are_fitting .nil pass0 (pa_cons (pv 2) (pa_cons (pv 1) pa_nil)))))))), ?_⟩
    unfold frameD at q
    refine ⟨x, rfl, p, x, ds, rfl, os, trivial, fun H1 k1 => ⟨_, rfl, ?_⟩⟩
    cases e1 : schemeD ds with
    | false => rw [e1] at q; exact q _ k1
    | true =>
    rw [e1] at q
    refine ⟨y, rfl, p, y, dp, rfl, op.same k1, fz, fun H2 k2 => ⟨_, rfl, ?_⟩⟩
    cases e2 : planD dp with
    | false => rw [e2] at q; exact q _ (k1.trans k2)
    | true =>
    rw [e2] at q
    rw [Bool.true_and, Bool.true_and] at q
    exact ⟨_, rfl, _, rfl, p, z, y, dc, dp, rfl, oc.same (k1.trans k2), op.same (k1.trans k2), ⟨fz, e2⟩, fun H3 k3 => q _ ((k1.trans k2).trans k3)⟩
theorem ok_are_keys (T : Txt K mg) : FnOk P w K mg base CX0 3 T.a_are_keys T.d_are_keys ["courses", "letters", "counts"] (spIs3 (fun _ _ c => countsD c = true) keysD) := by
  refine T.F_are_keys.ok sc_are_keys (fun vs H Q E h => ?_) (fun cdv A outer s H vs Q E hr h => ?_)
  · obtain ⟨p, x, y, z, d, e, g, rfl, _⟩ := h
    rfl
  · obtain ⟨p, x, y, z, d, l, c, rfl, od, ol, oc, hc, q⟩ := h
    refine ⟨_, (pss_cons (ps_if (pt_not (PW.pt (pw_and (pt_val (pe_call (ok_is_row T) (hr.mono (by decide)) rfl T.g_is_row T.F_is_row.kp T.b_is_row .nil pass0 (pa_cons (pv 0) (pa_cons pe_int (pa_cons (pe_glob rfl T.g_MOST_KEYS T.r_MOST_KEYS) pa_nil))))) (pw_and1 (pt_val (pe_call (ok_is_row T) (hr.mono (by decide)) rfl T.g_is_row T.F_is_row.kp T.b_is_row .nil pass0 (pa_cons (pv 1) (pa_cons (pe_callB call_len_seq (by rfl) T.z_len (by decide +kernel) (pa_cons (pv 0) pa_nil)) (pa_cons (pe_callB call_len_seq (by rfl) T.z_len (by decide +kernel) (pa_cons (pv 0) pa_nil)) pa_nil)))))))))
      (pss_one (ps_ret pe_bl))
      pss_nil)
      (pss_cons (ps_if (pt_not (pt_val (pe_callB (cr_all rfl) (by rfl) T.z_all (by decide +kernel) (pa_cons (pe_lc (own := [("course", 4)]) (g := gName 4) (tt := tYes) (by rfl) sc_are_keys.nd (pi_tup (pv 0)) (blkOk_by (own := [("course", 4)]) (N := ["courses", "letters", "counts", "number", "course"]) (sc := defScope s_are_keys) (by decide +kernel)) (fun _ _ _ _ _ => (pg_name (i := 4) sc_are_keys.nd rfl (Or.inl rfl))) (fun _ _ _ _ _ => pts_nil) (fun _ _ _ _ _ => (pe_call (ok_is_course T) (hr.mono (by decide)) rfl T.g_is_course T.F_is_course.kp T.b_is_course .nil pass0 (pa_cons (pv 4) (pa_cons (pv 2) pa_nil))))) pa_nil))))
      (pss_one (ps_ret pe_bl))
      pss_nil)
      (pss_one (ps_ret (pe_callB (cr_all rfl) (by rfl) T.z_all (by decide +kernel) (pa_cons (pe_lc (own := [("number", 3)]) (g := gName 3) (tt := tYes) (by rfl) sc_are_keys.nd (pi_tup (pv 1)) (blkOk_by (own := [("number", 3)]) (N := ["courses", "letters", "counts", "number", "course"]) (sc := defScope s_are_keys) (by decide +kernel)) (fun _ _ _ _ _ => (pg_name (i := 3) sc_are_keys.nd rfl (Or.inl rfl))) (fun _ _ _ _ _ => pts_nil) (fun _ _ _ _ _ => (pe_call (ok_is_whole T) (hr.mono (by decide)) rfl T.g_is_whole T.F_is_whole.kp T.b_is_whole .nil pass0 (pa_cons (pv 3) (pa_cons pe_int (pa_cons (pe_glob rfl T.g_MOST_LETTERS T.r_MOST_LETTERS) pa_nil)))))) pa_nil)))))), ?_⟩
    unfold keysD at q
    refine ⟨x, rfl, p, x, d, 1, 3, rfl, od, _, rfl, ?_⟩
    cases e1 : rowD d 1 3 with
    | false =>
      rw [e1] at q
      exact q _ fun _ _ z => z
    | true =>
    rw [e1] at q
    obtain ⟨zd, ds, rfl, l1, l2⟩ := row_len e1
    obtain ⟨a, xs, rfl, ea, na, alla⟩ := tup_ob od
    have la := alla.len
    refine ⟨y, rfl, _, rfl, a, xs, rfl, .inr ea.sq, _, rfl, a, xs, rfl, .inr ea.sq, p, y, l, (xs.length : Nat), (xs.length : Nat), rfl, ol, _, rfl, ?_⟩
    rw [la]
    cases e2 : rowD l ((ds.length : Nat) : Int) ((ds.length : Nat) : Int) with
    | false =>
      rw [show (itemsD (.tup zd ds)).length = ds.length from rfl, e2] at q
      exact q _ fun _ _ z => z
    | true =>
    rw [show (itemsD (.tup zd ds)).length = ds.length from rfl, e2] at q
    obtain ⟨zl, ls, rfl, m1, m2⟩ := row_len e2
    obtain ⟨b, ys, rfl, eb, nb, allb⟩ := tup_ob ol
    have lb := allb.len
    try dsimp only [tNext]
    refine all_comp (K := K) (p := p) (i0 := 4) (fun x => courseD x c) rfl ea alla (by omega) ?_ (fun _ => rfl) (fun H1 k1 => ⟨_, rfl, ?_⟩)
    · intro v dv H' R k ov h
      exact ⟨v, rfl, z, rfl, p, v, z, dv, c, rfl, ov, oc.same k, hc, h⟩
    cases e3 : ds.all fun x => courseD x c with
    | false =>
      rw [show itemsD (.tup zd ds) = ds from rfl, e3] at q
      exact q _ k1
    | true =>
    rw [show itemsD (.tup zd ds) = ds from rfl, e3] at q
    refine all_comp (K := K) (p := p) (i0 := 3) (fun x => wholeD x 1 3) rfl (eb.same k1) (allb.same k1) (by omega) ?_ (fun _ => rfl) (fun H2 k2 => ?_)
    · intro v dv H' R k ov h
      have r := h _ fun _ _ z => z
      rw [← whole_ob ov] at r
      exact ⟨v, rfl, v, 1, 3, _, rfl, ov.arg, r⟩
    · exact q _ (k1.trans k2)
theorem ok_is_house (T : Txt K mg) : FnOk P w K mg base CX0 5 T.a_is_house T.d_is_house ["thing"] (spIs fzHouse houseD) := by
  refine T.F_is_house.ok sc_is_house (fun vs H Q E h => ?_) (fun cdv A outer s H vs Q E hr h => ?_)
  · obtain ⟨p, x, d, rfl, _⟩ := h
    rfl
  · obtain ⟨p, x, d, rfl, ob, fz, q⟩ := h
    refine ⟨_, (pss_cons (ps_if (pt_not (pt_val (pe_call (ok_is_row T) (hr.mono (by decide)) rfl T.g_is_row T.F_is_row.kp T.b_is_row .nil pass0 (pa_cons (pv 0) (pa_cons pe_int (pa_cons pe_int pa_nil))))))
      (pss_one (ps_ret pe_bl))
      pss_nil)
      (pss_cons (ps_asg (pv 0) (pg_tup rfl (pgs_cons (pg_name (i := 1) sc_is_house.nd rfl (Or.inl rfl)) (pgs_cons (pg_name (i := 2) sc_is_house.nd rfl (Or.inl rfl)) (pgs_cons (pg_name (i := 3) sc_is_house.nd rfl (Or.inl rfl)) (pgs_cons (pg_name (i := 4) sc_is_house.nd rfl (Or.inl rfl)) (pgs_cons (pg_name (i := 5) sc_is_house.nd rfl (Or.inl rfl)) (pgs_cons (pg_name (i := 6) sc_is_house.nd rfl (Or.inl rfl)) pgs_nil))))))))
      (pss_cons (ps_if (pt_not (pt_val (pe_call (ok_is_frame T) (hr.mono (by decide)) rfl T.g_is_frame T.F_is_frame.kp T.b_is_frame .nil pass0 (pa_cons (pv 1) (pa_cons (pv 2) (pa_cons (pv 3) pa_nil))))))
      (pss_one (ps_ret pe_bl))
      pss_nil)
      (pss_one (ps_ret (pe_and (pe_call (ok_are_keys T) (hr.mono (by decide)) rfl T.g_are_keys T.F_are_keys.kp T.b_are_keys .nil pass0 (pa_cons (pv 4) (pa_cons (pv 5) (pa_cons (pv 3) pa_nil)))) (pe_one (pe_call (ok_is_whole T) (hr.mono (by decide)) rfl T.g_is_whole T.F_is_whole.kp T.b_is_whole .nil pass0 (pa_cons (pv 6) (pa_cons pe_int (pa_cons (pe_glob rfl T.g_MOST_SENDERS T.r_MOST_SENDERS) pa_nil))))))))))), ?_⟩
    refine ⟨x, rfl, p, x, d, 6, 6, rfl, ob, _, rfl, ?_⟩
    cases e : rowD d 6 6 with
    | false =>
      have e2 : houseD d = false := by
        unfold houseD
        split
        · rw [show rowD (.tup _ _) 6 6 = true from rfl] at e; cases e
        · rfl
      rw [e2] at q
      exact q _ fun _ _ z => z
    | true =>
      obtain ⟨z, ds, rfl, l1, l2⟩ := row_len e
      obtain ⟨a, xs, rfl, ea, ne, all⟩ := tup_ob ob
      obtain ⟨d1, d2, d3, d4, d5, d6, rfl⟩ := len6 (show ds.length = 6 by omega)
      obtain ⟨v1, v2, v3, v4, v5, v6, rfl, o1, o2, o3, o4, o5, o6⟩ := obs6 all
      have e2 : houseD (.tup z [d1, d2, d3, d4, d5, d6]) = (frameD d1 d2 d3 && (keysD d4 d5 d3 && wholeD d6 1 3)) := rfl
      rw [e2] at q
      refine ⟨_, rfl, a, _, rfl, ea.sq, rfl, _, _, rfl, _, _, rfl, _, _, rfl, _, _, rfl, _, _, rfl, _, _, rfl, rfl, ?_⟩
      refine ⟨_, rfl, _, rfl, _, rfl, p, v1, v2, v3, d1, d2, d3, rfl, o1, o2, o3, fz, fun H1 k1 => ⟨_, rfl, ?_⟩⟩
      cases e3 : frameD d1 d2 d3 with
      | false =>
        rw [e3] at q
        exact q _ k1
      | true =>
      rw [e3] at q
      have hc : countsD d3 = true := by
        unfold frameD at e3
        rw [Bool.and_eq_true, Bool.and_eq_true, Bool.and_eq_true] at e3
        exact e3.2.2.1
      refine ⟨_, rfl, _, rfl, _, rfl, p, v4, v5, v3, d4, d5, d3, rfl, o4.same k1, o5.same k1, o3.same k1, hc, fun H2 k2 => ⟨_, rfl, ?_⟩⟩
      cases e4 : keysD d4 d5 d3 with
      | false =>
        rw [e4] at q
        exact q _ (k1.trans k2)
      | true =>
      rw [e4] at q
      have r := q _ (k1.trans k2)
      rw [← whole_ob (o6.same (k1.trans k2))] at r
      exact ⟨_, rfl, v6, 1, 3, _, rfl, (o6.same (k1.trans k2)).arg, r⟩
end

section
theorem obs_take {H : Hp} {p : Addr} : ∀ {xs : List V} {ds : List Dt} (n : Nat), Obs H p xs ds → Obs H p (xs.take n) (ds.take n)
  | _, _, 0, _ => by rw [List.take_zero, List.take_zero]; exact .nil
  | _, _, _ + 1, .nil => .nil
  | _, _, n + 1, .cons h t => .cons h (obs_take n t)
theorem obs_drop {H : Hp} {p : Addr} : ∀ {xs : List V} {ds : List Dt} (n : Nat), Obs H p xs ds → Obs H p (xs.drop n) (ds.drop n)
  | _, _, 0, h => h
  | _, _, _ + 1, .nil => .nil
  | _, _, n + 1, .cons _ t => obs_drop n t
def cutD (ds : List Dt) (lo hi : Option Int) : List Dt := (ds.drop (HT.sIx ds.length 0 lo)).take (HT.sIx ds.length ds.length hi - HT.sIx ds.length 0 lo)
theorem obs_cut {H : Hp} {p : Addr} {xs : List V} {ds : List Dt} {lo hi : Option Int} (h : Obs H p xs ds) : Obs H p (cutV xs lo hi) (cutD ds lo hi) := by
  have l := h.len
  have e : cutV xs lo hi = (xs.drop (HT.sIx ds.length 0 lo)).take (HT.sIx ds.length ds.length hi - HT.sIx ds.length 0 lo) := by
    show (xs.drop (HT.sIx xs.length 0 lo)).take (HT.sIx xs.length xs.length hi - HT.sIx xs.length 0 lo) = _
    rw [l]
  rw [e]
  exact obs_take _ (obs_drop _ h)
theorem cutD_to (ds : List Dt) (k : Nat) : cutD ds none (some (k : Int)) = ds.take k := by
  have e1 : HT.sIx ds.length 0 none = 0 := rfl
  have e2 : HT.sIx ds.length ds.length (some (k : Int)) = min k ds.length := HT.sIx_nat ..
  unfold cutD
  rw [e1, e2, List.drop_zero, Nat.sub_zero]
  by_cases h : k ≤ ds.length
  · rw [Nat.min_eq_left h]
  · rw [Nat.min_eq_right (by omega), List.take_length, List.take_of_length_le (by omega)]
theorem cutD_from (ds : List Dt) (k : Nat) : cutD ds (some (k : Int)) none = ds.drop k := by
  have e1 : HT.sIx ds.length 0 (some (k : Int)) = min k ds.length := HT.sIx_nat ..
  have e2 : HT.sIx ds.length ds.length none = ds.length := rfl
  unfold cutD
  rw [e1, e2]
  by_cases h : k ≤ ds.length
  · rw [Nat.min_eq_left h]
    exact List.take_of_length_le (by rw [List.length_drop]; exact Nat.le_refl _)
  · rw [Nat.min_eq_right (by omega), List.drop_length, List.drop_of_length_le (by omega), List.take_nil]
theorem live_same {H H' : Hp} {p : Addr} (hp : H p ≠ none) (k : Same H H') : H' p ≠ none := fun z => by
  cases y : H p with
  | none => exact hp y
  | some o => rw [k _ _ y] at z; cases z
theorem sl_ob {K : PySem.W.Frag} {H : Hp} {p : Addr} {x : V} {z : Bool} {ds : List Dt} {lo hi : Option Int} {Q : VK} (h : Ob H p x (.tup z ds)) (hp : H p ≠ none) (q : ∀ v H' z', Same H H' → Ob H' p v (.tup z' (cutD ds lo hi)) → Q v H') : rSlA K x lo hi H Q := by
  obtain ⟨a, xs, rfl, ea, ne, all⟩ := tup_ob h
  have l := all.len
  refine ⟨a, xs, rfl, ea.sq, fun w => ?_, fun w r hr => ?_⟩
  · rw [l] at w
    have e : cutD ds lo hi = ds := by
      unfold cutD
      rw [w.1, w.2]
      rw [List.drop_zero, Nat.sub_zero]; exact List.take_length
    have h2 : Ob H p (.ref a) (.tup z (cutD ds lo hi)) := by rw [e]; exact h
    exact q _ _ z (fun _ _ z => z) h2
  · exact q _ _ false (same_upd hr) (.tup (.new upd_same) (fun z => hp (z ▸ hr)) ((obs_cut all).same (same_upd hr)))
theorem cat_ob {K : PySem.W.Frag} {H : Hp} {p : Addr} {x y : V} {z1 z2 : Bool} {ds es : List Dt} {Q : VK} (h : Ob H p x (.tup z1 ds)) (h' : Ob H p y (.tup z2 es)) (hp : H p ≠ none) (l1 : ds.length ≤ 1000) (l2 : es.length ≤ 1000)
    (q : ∀ v H' z', Same H H' → (z1 = true → z2 = true → z' = true) → Ob H' p v (.tup z' (ds ++ es)) → Q v H') : rCatF K x y H Q := by
  obtain ⟨a, xs, rfl, ea, na, alla⟩ := tup_ob h
  obtain ⟨b, ys, rfl, eb, nb, allb⟩ := tup_ob h'
  have m1 := alla.len
  have m2 := allb.len
  refine ⟨a, b, xs, ys, rfl, rfl, ea.sq, eb.sq, Nat.le_trans (show xs.length + ys.length ≤ 2000 by omega) (by decide), fun w => ?_, fun w w' => ?_, fun w w' r H2 hr k tp g => ?_⟩
  · have e : ds = [] := List.eq_nil_of_length_eq_zero (by rw [← m1, w]; rfl)
    subst e
    exact q _ _ z2 (fun _ _ z => z) (fun _ z => z) h'
  · have e : es = [] := List.eq_nil_of_length_eq_zero (by rw [← m2, w']; rfl)
    subst e
    have h2 : Ob H p (.ref a) (.tup z1 (ds ++ [])) := by rw [List.append_nil]; exact h
    exact q _ _ z1 (fun _ _ z => z) (fun z _ => z) h2
  · exact q _ _ true k (fun _ _ => rfl) (.tup tp (fun z => hp (z ▸ hr)) ((alla.same k).append (allb.same k)))
/-- (x, ..) as data -/
theorem tup_mk {H1 H2 : Hp} {p r : Addr} {xs : List V} {ds : List Dt} (all : Obs H1 p xs ds) (hp : H1 p ≠ none) (hr : H1 r = none) (k : Same H1 H2) (tp : Tp H2 r true xs) : Ob H2 p (.ref r) (.tup true ds) := .tup tp (fun z => hp (z ▸ hr)) (all.same k)
end

section
variable {P : Program} {w : World} {K : PySem.W.Frag} {mg : Str → Option Value} {base : Heap}
def usual : List Str := ["close", "clear", "copy", "drain", "tell", "agree", "open", "drop"]
theorem cutV_to (l : List V) (k : Nat) : cutV l none (some (k : Int)) = l.take k := by
  have e1 : HT.sIx l.length 0 none = 0 := rfl
  have e2 : HT.sIx l.length l.length (some (k : Int)) = min k l.length := HT.sIx_nat ..
  unfold cutV
  rw [e1, e2, List.drop_zero, Nat.sub_zero]
  by_cases h : k ≤ l.length
  · rw [Nat.min_eq_left h]
  · rw [Nat.min_eq_right (by omega), List.take_length, List.take_of_length_le (by omega)]
def spWords : Sp := fun vs H Q _ => ∃ (a : Addr) (n m : Nat) (Av : Addr → Prop), vs = [.ref a, .int (m : Nat)] ∧ SrcA H a n Av ∧ Live H Av ∧ m ≤ 7 ∧ n + 20 < 1000000 ∧ ∀ r H' (ws : List Str), H r = none → ws.length ≤ m → (∀ x ∈ ws, x ∈ usual) → H' r = some (.lst (ws.map V.str)) → SrcA H' a (n + 20) (And1 Av r) → But a H H' → Q (.ref r) H'
theorem usual_at {d : Int} (h0 : 0 ≤ d) (h1 : d < 8) : ∃ s, atI (usual.map V.str) d = some (.str s) ∧ s ∈ usual := by
  have h : d = 0 ∨ d = 1 ∨ d = 2 ∨ d = 3 ∨ d = 4 ∨ d = 5 ∨ d = 6 ∨ d = 7 := by omega
  rcases h with rfl | rfl | rfl | rfl | rfl | rfl | rfl | rfl <;> exact ⟨_, rfl, by decide⟩
theorem ok_law_words (T : Txt K mg) : FnOk P w K mg base CX0 2 T.a_law_words T.d_law_words ["_law_source_here", "_law_room"] spWords := by
  refine T.F_law_words.ok sc_law_words (fun vs H Q E h => ?_) (fun cdv A outer s H vs Q E hr h => ?_)
  · obtain ⟨a, n, m, Av, rfl, _⟩ := h
    rfl
  · obtain ⟨a, n, m, Av, rfl, S, L, hm, hn, q⟩ := h
    refine ⟨_, (pss_cons (ps_set (i := 2) sc_law_words.nd rfl (Or.inr rfl) (pe_lst (pa_cons pe_str (pa_cons pe_str (pa_cons pe_str (pa_cons pe_str (pa_cons pe_str (pa_cons pe_str (pa_cons pe_str (pa_cons pe_str pa_nil))))))))))
      (pss_cons (ps_if (pt_cmpR op_eq (pe_call (ok_law_draw T) (hr.mono (by decide)) rfl T.g_law_draw T.F_law_draw.kp T.b_law_draw .nil pass0 (pa_cons (pv 0) (pa_cons pe_int pa_nil))) pe_int (nomark _))
      (pss_one (ps_ret (pe_lc (own := [("_law_k", 3)]) (g := gName 3) (tt := tYes) (by rfl) sc_law_words.nd (pi_range1 rfl T.z_range (pa_cons (pe_call (ok_law_draw T) (hr.mono (by decide)) rfl T.g_law_draw T.F_law_draw.kp T.b_law_draw .nil pass0 (pa_cons (pv 0) (pa_cons (pe_op op_add (pv 1) pe_int) pa_nil))) pa_nil)) (blkOk_by (own := [("_law_k", 3)]) (N := ["_law_source_here", "_law_room", "_law_usual", "_law_k", "_law_word"]) (sc := defScope s_law_words) (by decide +kernel)) (fun _ _ _ _ _ => (pg_name (i := 3) sc_law_words.nd rfl (Or.inl rfl))) (fun _ _ _ _ _ => pts_nil) (fun _ _ _ _ _ => (pe_ix (ixL K) (pv 2) (pe_call (ok_law_draw T) (hr.mono (by decide)) rfl T.g_law_draw T.F_law_draw.kp T.b_law_draw .nil pass0 (pa_cons (pv 0) (pa_cons pe_int pa_nil))) (fun _ _ => rfl))))))
      pss_nil)
      (pss_one (ps_ret (pe_slice sl_list (pe_lc (own := [("_law_word", 4)]) (g := gName 4) (by rfl) sc_law_words.nd (pi_list (pv 2)) (blkOk_by (own := [("_law_word", 4)]) (N := ["_law_source_here", "_law_room", "_law_usual", "_law_k", "_law_word"]) (sc := defScope s_law_words) (by decide +kernel)) (fun _ _ _ _ _ => (pg_name (i := 4) sc_law_words.nd rfl (Or.inl rfl))) (fun _ _ _ _ _ => (pts_one (pt_cmpR op_eq (pe_call (ok_law_draw T) (hr.mono (by decide)) rfl T.g_law_draw T.F_law_draw.kp T.b_law_draw .nil pass0 (pa_cons (pv 0) (pa_cons pe_int pa_nil))) pe_int (nomark _)))) (fun _ _ _ _ _ => (pv 4))) po_none (po_some (pv 1))))))), ?_⟩
    refine ⟨(by show 8 ≤ sizeLine; decide), fun l hl => ?_⟩
    have na : l ≠ a := S.ne hl
    have k0 := same_upd (o := .lst (usual.map V.str)) hl
    have S0 := S.same k0
    have e0 : (upd H l (.lst (usual.map V.str))) l = some (.lst (usual.map V.str)) := upd_same
    have L0 := L.same k0
    have f0 : ∀ b, (upd H l (.lst (usual.map V.str))) b = none → H b = none := fun b e => by
      by_cases z : b = l
      · subst z; exact hl
      · rw [upd_ne z] at e; exact e
    refine ⟨_, rfl, a, n, 3, Av, rfl, S0, L0, by omega, by decide, by decide, fun d H1 d0 d1 S1 B1 => ?_⟩
    have bn : ∀ {G G' : Hp} {b : Addr}, But a G G' → G' b = none → b ≠ a → G b = none := fun {G G' b} B z ne => by
      cases y : G b with
      | none => rfl
      | some o => rw [B _ _ ne y] at z; cases z
    have L1 := L0.but S1 B1
    refine ⟨rfl, _, rfl, ite2 (fun _ => ?_) (fun _ => ?_)⟩
    · refine ⟨_, rfl, _, rfl, _, _, rfl, rfl, a, n + 1, _, Av, rfl, S1, L1, by omega, by omega, by omega, fun c H2 c0 c1 S2 B2 => ⟨c, rfl, by omega, by omega, fun D hD => ?_⟩⟩
      have L2 := L1.but S2 B2
      have nD : D ≠ a := S2.ne hD
      have el : H2 l = some (.lst (usual.map V.str)) := B2 _ _ na (B1 _ _ na e0)
      have fD : H D = none := f0 _ (bn B1 (bn B2 hD nD) nD)
      refine lc_range (lo := 0) (n := c.toNat) (fun i H' => SrcA H' a (n + 2 + i) (And1 Av D) ∧ Live H' (And1 Av D) ∧ But a H2 H' ∧ ∃ ws : List Str, ws.length = i ∧ (∀ x ∈ ws, x ∈ usual) ∧ H' D = some (.lst (ws.map V.str))) ⟨S2.add hD, L2.add hD, Same.but (same_upd hD), [], rfl, fun x h => (nomatch h), upd_same⟩ ?_ ?_
      · rintro i H' hi ⟨S', L', B', ws, hw, hu, eD⟩
        refine ⟨rfl, _, rfl, _, rfl, a, _, 8, _, rfl, S', L', by omega, by decide, by decide, fun d2 H3 e0' e1' S3 B3 => ?_⟩
        obtain ⟨s, es, ms⟩ := usual_at e0' e1'
        refine ⟨l, _, d2, _, rfl, rfl, SqL.of (B3 _ _ na (B' _ _ na el)), es, _, B3 _ _ nD eD, ?_, (S3.put (.inr rfl) nD).le (by omega), (L'.but S3 B3).put, ?_, ws ++ [s], ?_, ?_, ?_⟩
        · rw [List.length_map, hw]
          exact Nat.lt_of_lt_of_le (show i < 1000 by omega) (by decide)
        · intro b o nb hb
          rw [upd_ne (ne_of_none hb hD)]
          exact B3 _ _ nb (B' _ _ nb hb)
        · rw [List.length_append, hw]; rfl
        · intro x hx
          rcases List.mem_append.mp hx with h | h
          · exact hu x h
          · rw [List.mem_singleton.mp h]; exact ms
        · rw [upd_same, List.map_append]; rfl
      · rintro H' ⟨S', L', B', ws, hw, hu, eD⟩
        refine q _ _ ws fD (by omega) hu eD (S'.le (by omega)) ?_
        exact ((Same.but k0).trans B1).trans (B2.trans B')
    · dsimp only [tNext, tRet, tSl, tNoPart]
      refine ⟨_, rfl, l, rfl, ⟨_, SqL.of (B1 _ _ na e0)⟩, fun D hD => ?_⟩
      have nD : D ≠ a := S1.ne hD
      refine lc_list (K := K) (a := l) (xs := usual.map V.str) (fun i H' => SrcA H' a (n + 1 + i) (And1 Av D) ∧ Live H' (And1 Av D) ∧ But a H1 H' ∧ ∃ ws : List Str, ws.length ≤ i ∧ (∀ x ∈ ws, x ∈ usual) ∧ H' D = some (.lst (ws.map V.str)))
        ⟨S1.add hD, L1.add hD, Same.but (same_upd hD), [], Nat.le_refl _, fun x h => (nomatch h), upd_same⟩ (fun i H' _ h => SqL.of (h.2.2.1 _ _ na (B1 _ _ na e0))) ?_ ?_
      · rintro i x H' hx ⟨S', L', B', ws, hw, hu, eD⟩
        have hi : i < 8 := by
          obtain ⟨z, _⟩ := List.getElem?_eq_some_iff.mp hx
          exact z
        obtain ⟨s, ms, rfl⟩ := List.mem_map.mp (List.mem_of_getElem? hx)
        refine ⟨rfl, _, rfl, a, _, 2, _, rfl, S', L', by omega, by decide, by decide, fun d2 H3 e0' e1' S3 B3 => ⟨rfl, _, rfl, ite2 (fun _ => ?_) (fun _ => ?_)⟩⟩
        · refine ⟨_, rfl, _, B3 _ _ nD eD, ?_, (S3.put (.inr rfl) nD).le (by omega), (L'.but S3 B3).put, ?_, ws ++ [s], ?_, ?_, ?_⟩
          · rw [List.length_map]
            exact Nat.lt_of_lt_of_le (show ws.length < 1000 by omega) (by decide)
          · intro b o nb hb
            rw [upd_ne (ne_of_none hb hD)]
            exact B3 _ _ nb (B' _ _ nb hb)
          · rw [List.length_append]; show _ + 1 ≤ _; omega
          · intro x hx
            rcases List.mem_append.mp hx with h | h
            · exact hu x h
            · rw [List.mem_singleton.mp h]; exact ms
          · rw [upd_same, List.map_append]; rfl
        · exact ⟨S3.le (by omega), L'.but S3 B3, B'.trans B3, ws, by omega, hu, B3 _ _ nD eD⟩
      · rintro H' ⟨S', L', B', ws, hw, hu, eD⟩
        refine ⟨_, rfl, _, rfl, D, _, rfl, SqL.of eD, fun r hr => ?_⟩
        have nr : r ≠ a := S'.ne hr
        have ec : cutV (ws.map V.str) none (some ((m : Nat) : Int)) = (ws.take m).map V.str := by rw [cutV_to, List.map_take]
        rw [ec]
        refine q _ _ (ws.take m) (f0 _ (bn B1 (bn B' hr nr) nr)) (by rw [List.length_take]; omega) (fun x hx => hu x (List.mem_of_mem_take hx)) upd_same (((S'.sub (fun b hb => .inl hb)).add hr).le (by show n + 1 + 8 ≤ n + 20; omega)) ?_
        exact ((Same.but k0).trans B1).trans (B'.trans (Same.but (same_upd hr)))
end

section
variable {P : Program} {w : World} {K : PySem.W.Frag} {mg : Str → Option Value} {base : Heap}
theorem note_at {d : Int} (h0 : 0 ≤ d) (h1 : d < 3) : ∃ s, atI [V.str "behind", V.str "first", V.str "with"] d = some (.str s) ∧ s ∈ notings := by
  have h : d = 0 ∨ d = 1 ∨ d = 2 := by omega
  rcases h with rfl | rfl | rfl <;> exact ⟨_, rfl, by decide⟩
theorem refuse_at {d : Int} (h0 : 0 ≤ d) (h1 : d < 2) : ∃ s, atI [V.str "back", V.str "lost"] d = some (.str s) ∧ s ∈ refusals := by
  have h : d = 0 ∨ d = 1 := by omega
  rcases h with rfl | rfl <;> exact ⟨_, rfl, by decide⟩
def schemeT (b0 b1 b2 : Bool) (r n : Str) : Dt := .tup true [.bl b0, .bl b1, .str r, .str n, .bl b2]
def spScheme : Sp := fun vs H Q _ => ∃ (a : Addr) (n : Nat) (Av : Addr → Prop), vs = [.ref a] ∧ SrcA H a n Av ∧ Live H Av ∧ n + 20 < 1000000 ∧
  ∀ v H' b0 b1 b2 r nt, r ∈ refusals → nt ∈ notings → Ob H' a v (schemeT b0 b1 b2 r nt) → SrcA H' a (n + 5) Av → But a H H' → Q v H'
theorem ok_law_scheme (T : Txt K mg) : FnOk P w K mg base CX0 2 T.a_law_scheme T.d_law_scheme ["_law_source_here"] spScheme := by
  refine T.F_law_scheme.ok sc_law_scheme (fun vs H Q E h => ?_) (fun cdv A outer s H vs Q E hr h => ?_)
  · obtain ⟨a, n, Av, rfl, _⟩ := h
    rfl
  · obtain ⟨a, n, Av, rfl, S, L, hn, q⟩ := h
    refine ⟨_, (pss_cons (ps_setLc (i := 1) (own := [("_law_k", 3)]) (g := gName 3) (tt := tYes) (by rfl) sc_law_scheme.nd rfl rfl (sw_true rfl rfl rfl (by decide +kernel)) (pi_range1 rfl T.z_range (pa_cons pe_int pa_nil)) (blkOk_by (own := [("_law_k", 3)]) (N := ["_law_source_here", "_law_flags", "_law_notes", "_law_k"]) (sc := defScope s_law_scheme) (by decide +kernel)) (fun _ _ _ _ _ => (pg_name (i := 3) sc_law_scheme.nd rfl (Or.inl rfl))) (fun _ _ _ _ _ => pts_nil) (fun _ _ _ _ _ => (pe_cmpR op_eq (pe_call (ok_law_draw T) (hr.mono (by decide)) rfl T.g_law_draw T.F_law_draw.kp T.b_law_draw .nil pass0 (pa_cons (pv 0) (pa_cons pe_int pa_nil))) pe_int (nomark _))))
      (pss_cons (ps_set (i := 2) sc_law_scheme.nd rfl (Or.inl rfl) (pe_ix (ixL K) (pe_lst (pa_cons pe_str (pa_cons pe_str (pa_cons pe_str pa_nil)))) (pe_call (ok_law_draw T) (hr.mono (by decide)) rfl T.g_law_draw T.F_law_draw.kp T.b_law_draw .nil pass0 (pa_cons (pv 0) (pa_cons pe_int pa_nil))) (fun _ _ => rfl)))
      (pss_one (ps_ret (pe_tupF (pa_cons (pe_ix (ixL K) (pv 1) pe_int (fun _ _ => rfl)) (pa_cons (pe_ix (ixL K) (pv 1) pe_int (fun _ _ => rfl)) (pa_cons (pe_ix (ixL K) (pe_lst (pa_cons pe_str (pa_cons pe_str pa_nil))) (pe_call (ok_law_draw T) (hr.mono (by decide)) rfl T.g_law_draw T.F_law_draw.kp T.b_law_draw .nil pass0 (pa_cons (pv 0) (pa_cons pe_int pa_nil))) (fun _ _ => rfl)) (pa_cons (pv 2) (pa_cons (pe_ix (ixL K) (pv 1) pe_int (fun _ _ => rfl)) pa_nil)))))))))), ?_⟩
    refine ⟨3, rfl, by decide, by decide, fun D hD => ?_⟩
    have nD : D ≠ a := S.ne hD
    refine lc_range (lo := 0) (n := 3) (fun i H' => SrcA H' a (n + i) (And1 Av D) ∧ Live H' (And1 Av D) ∧ But a H H' ∧ ∃ bs : List Bool, bs.length = i ∧ H' D = some (.lst (bs.map V.bl))) ⟨S.add hD, L.add hD, Same.but (same_upd hD), [], rfl, upd_same⟩ ?_ ?_
    · rintro i H' hi ⟨S', L', B', bs, hw, eD⟩
      refine ⟨rfl, _, rfl, a, _, 2, _, rfl, S', L', by omega, by decide, by decide, fun d2 H3 e0' e1' S3 B3 => ?_⟩
      refine ⟨rfl, _, B3 _ _ nD eD, ?_, (S3.put (.inr rfl) nD).le (by omega), (L'.but S3 B3).put, ?_, bs ++ [decide (V.int d2 = V.int 1)], ?_, ?_⟩
      · rw [List.length_map, hw]
        exact Nat.lt_of_lt_of_le (show i < 1000 by omega) (by decide)
      · intro b o nb hb
        rw [upd_ne (ne_of_none hb hD)]
        exact B3 _ _ nb (B' _ _ nb hb)
      · rw [List.length_append, hw]; rfl
      · rw [upd_same, List.map_append]; rfl
    · rintro H1 ⟨S1, L1, B1, bs, hw, eD⟩
      obtain ⟨b0, b1, b2, rfl⟩ : ∃ x y z, bs = [x, y, z] := by
        match bs, hw with
        | [x, y, z], _ => exact ⟨x, y, z, rfl⟩
      have S1' : SrcA H1 a (n + 3) Av := S1.sub fun b hb => .inl hb
      have L1' : Live H1 Av := fun b hb => L1 b (.inl hb)
      refine ⟨(by show 3 ≤ sizeLine; decide), fun l hl => ?_⟩
      have nl : l ≠ a := S1.ne hl
      refine ⟨_, rfl, a, n + 3, 3, Av, rfl, S1'.same (same_upd hl), L1'.same (same_upd hl), by omega, by decide, by decide, fun d H2 d0 d1 S2 B2 => ?_⟩
      have el : H2 l = some (.lst [.str "behind", .str "first", .str "with"]) := B2 _ _ nl upd_same
      obtain ⟨nt, ent, mnt⟩ := note_at d0 d1
      refine ⟨l, _, d, _, rfl, rfl, SqL.of el, ent, ?_⟩
      have kD : H2 D = some (.lst [.bl b0, .bl b1, .bl b2]) := B2 _ _ nD ((same_upd hl) _ _ eD)
      have L2 : Live H2 Av := (L1'.same (same_upd hl)).but S2 B2
      refine ⟨_, rfl, D, _, 0, .bl b0, rfl, rfl, SqL.of kD, rfl, _, rfl, D, _, 1, .bl b1, rfl, rfl, SqL.of kD, rfl, (by show 2 ≤ sizeLine; decide), fun l2 hl2 => ?_⟩
      have nl2 : l2 ≠ a := S2.ne hl2
      refine ⟨_, rfl, a, n + 3 + 1, 2, Av, rfl, S2.same (same_upd hl2), L2.same (same_upd hl2), by omega, by decide, by decide, fun d3 H3 d30 d31 S3 B3 => ?_⟩
      have el2 : H3 l2 = some (.lst [.str "back", .str "lost"]) := B3 _ _ nl2 upd_same
      obtain ⟨r, er, mr⟩ := refuse_at d30 d31
      have kD3 : H3 D = some (.lst [.bl b0, .bl b1, .bl b2]) := B3 _ _ nD ((same_upd hl2) _ _ kD)
      refine ⟨l2, _, d3, _, rfl, rfl, SqL.of el2, er, _, rfl, _, rfl, D, _, 2, .bl b2, rfl, rfl, SqL.of kD3, rfl, (by show 5 ≤ sizeLine; decide), fun t H4 ht k4 tp g4 => ?_⟩
      refine q _ _ b0 b1 b2 r nt mr mnt (.tup tp (S3.ne ht) (.cons (.bl _) (.cons (.bl _) (.cons (.str _) (.cons (.str _) (.cons (.bl _) .nil)))))) ((S3.same k4).le (by omega)) ?_
      exact (B1.trans ((Same.but (same_upd hl)).trans B2)).trans (((Same.but (same_upd hl2)).trans B3).trans (Same.but k4))
end

def cntS (ws : List Str) : Nat := ws.countP fun y => decide (y = ("show" : Str))
def strT (ws : List Str) : Dt := .tup true (ws.map Dt.str)
def intT (ns : List Int) : Dt := .tup true (ns.map Dt.int)
def Fit (cs o : List Int) : Prop := o.length = cs.length ∧ ∀ q ∈ o.zip cs, 0 ≤ q.1 ∧ q.1 < q.2
structure Ho where
  (b0 b1 b2 : Bool) (r nt : Str) (ws : List Str) (cs : List Int) (os : List (List Int)) (ls : List Int) (m : Int)
structure Ho.Ok (h : Ho) (keys : Nat) : Prop where
  r : h.r ∈ refusals
  nt : h.nt ∈ notings
  ws : ∀ x ∈ h.ws, x ∈ planWords
  c1 : 1 ≤ cntS h.ws
  c2 : cntS h.ws ≤ 2
  wl : h.ws.length ≤ 15
  cl : h.cs.length = cntS h.ws + 1
  cs : ∀ c ∈ h.cs, 1 ≤ c ∧ c ≤ 4
  o1 : 1 ≤ h.os.length
  o2 : h.os.length ≤ keys
  os : ∀ o ∈ h.os, Fit h.cs o
  ll : h.ls.length = h.os.length
  ls : ∀ l ∈ h.ls, 1 ≤ l ∧ l ≤ 3
  m1 : 1 ≤ h.m
  m2 : h.m ≤ 3
def Ho.dt (h : Ho) : Dt := .tup true [schemeT h.b0 h.b1 h.b2 h.r h.nt, strT h.ws, intT h.cs, .tup true (h.os.map intT), intT h.ls, .int h.m]
def spHouse : Sp := fun vs H Q _ => ∃ (a : Addr) (n keys : Nat) (Av : Addr → Prop), vs = [.ref a, .int 1, .int (keys : Nat)] ∧ 1 ≤ keys ∧ keys ≤ 3 ∧ SrcA H a n Av ∧ Live H Av ∧ n + 400 < 1000000 ∧
  ∀ v H' (h : Ho), h.Ok keys → Ob H' a v h.dt → SrcA H' a (n + 400) Av → But a H H' → Q v H'
theorem obs_strs {H : Hp} {p : Addr} : ∀ ws : List Str, Obs H p (ws.map V.str) (ws.map Dt.str)
  | [] => .nil
  | w :: r => .cons (.str w) (obs_strs r)
theorem obs_ints {H : Hp} {p : Addr} : ∀ ns : List Int, Obs H p (ns.map V.int) (ns.map Dt.int)
  | [] => .nil
  | w :: r => .cons (.int w) (obs_ints r)
/-- courses held -/
inductive Cos (H : Hp) (p : Addr) : List V → List (List Int) → Prop where
  | nil : Cos H p [] []
  | cons {t : Addr} {o : List Int} {vs : List V} {os : List (List Int)} (h : Tp H t true (o.map V.int)) (ne : t ≠ p) (r : Cos H p vs os) : Cos H p (.ref t :: vs) (o :: os)
theorem Cos.obs {H : Hp} {p : Addr} {vs : List V} {os : List (List Int)} (h : Cos H p vs os) : Obs H p vs (os.map intT) := by
  induction h with
  | nil => exact .nil
  | cons h ne r ih => exact .cons (.tup h ne (obs_ints _)) ih
theorem Cos.but {H H' : Hp} {p : Addr} {vs : List V} {os : List (List Int)} (h : Cos H p vs os) (b : But p H H') : Cos H' p vs os := by
  induction h with
  | nil => exact .nil
  | cons h ne r ih => exact .cons (h.but b ne) ne ih
theorem Cos.put {H : Hp} {p c : Addr} {zs ys : List V} {vs : List V} {os : List (List Int)} (h : Cos H p vs os) (hc : H c = some (.lst zs)) : Cos (upd H c (.lst ys)) p vs os := by
  induction h with
  | nil => exact .nil
  | @cons t o vs os h ne r ih =>
    refine .cons ?_ ne ih
    cases h with
    | @bare ob _ c1 d1 e =>
      have nt : t ≠ c := fun z => by rw [z, hc] at e; cases e
      exact .bare c1 d1 (by rw [upd_ne nt]; exact e)
theorem Cos.snoc {H : Hp} {p t : Addr} {o : List Int} {vs : List V} {os : List (List Int)} (h : Cos H p vs os) (ht : Tp H t true (o.map V.int)) (ne : t ≠ p) : Cos H p (vs ++ [.ref t]) (os ++ [o]) := by
  induction h with
  | nil => exact .cons ht ne .nil
  | cons h n r ih => exact .cons h n ih
theorem zip_snoc {α β : Type} (d : α) (c : β) : ∀ (o : List α) (cs : List β), cs[o.length]? = some c → (o ++ [d]).zip cs = o.zip cs ++ [(d, c)]
  | [], [], h => by simp at h
  | [], x :: r, h => by
    have e : x = c := Option.some.inj h
    subst e; rfl
  | y :: o, [], h => by simp at h
  | y :: o, x :: r, h => by
    show (y, x) :: ((o ++ [d]).zip r) = (y, x) :: (o.zip r ++ [(d, c)])
    rw [zip_snoc d c o r (by simpa using h)]
theorem usual_plan {x : Str} (h : x ∈ usual) : x ∈ planWords ∧ decide (x = ("show" : Str)) = false := by
  have z : ∀ y ∈ usual, y ∈ planWords ∧ decide (y = ("show" : Str)) = false := by decide +kernel
  exact z x h
theorem cnt_usual {ws : List Str} (h : ∀ x ∈ ws, x ∈ usual) : cntS ws = 0 := by
  unfold cntS
  rw [List.countP_eq_zero]
  intro x hx
  rw [(usual_plan (h x hx)).2]; decide
theorem cnt_append (a b : List Str) : cntS (a ++ b) = cntS a + cntS b := List.countP_append
theorem keep_new {H H' : Hp} {D a : Addr} {l : HO} (B : But a H H') (hD : H D = none) : But a H (upd H' D l) := fun b o nb hb => by
  rw [upd_ne (ne_of_none hb hD)]
  exact B _ _ nb hb
section
variable {P : Program} {w : World} {K : PySem.W.Frag} {mg : Str → Option Value} {base : Heap}
theorem ok_law_house (T : Txt K mg) : FnOk P w K mg base CX0 3 T.a_law_house T.d_law_house ["_law_source_here", "_law_least", "_law_keys"] spHouse := by
  refine T.F_law_house.ok sc_law_house (fun vs H Q E h => ?_) (fun cdv A outer s H vs Q E hr h => ?_)
  · obtain ⟨a, n, keys, Av, rfl, _⟩ := h
    rfl
  · obtain ⟨a, n, keys, Av, rfl, k1, k3, S, L, hn, q⟩ := h
    refine ⟨_, (pss_cons (ps_set (i := 3) sc_law_house.nd rfl (Or.inl rfl) (pe_op op_add pe_int (pe_call (ok_law_draw T) (hr.mono (by decide)) rfl T.g_law_draw T.F_law_draw.kp T.b_law_draw .nil pass0 (pa_cons (pv 0) (pa_cons pe_int pa_nil)))))
      (pss_cons (ps_set (i := 4) sc_law_house.nd rfl (Or.inl rfl) (pe_ix (ixL K) (pe_lst (pa_cons pe_int (pa_cons pe_int pa_nil))) (pe_op op_sub (pv 3) pe_int) (fun _ _ => rfl)))
      (pss_cons (ps_set (i := 5) sc_law_house.nd rfl (Or.inl rfl) (pe_lst pa_nil))
      (pss_cons (ps_if (pt_cmpR op_eq (pe_call (ok_law_draw T) (hr.mono (by decide)) rfl T.g_law_draw T.F_law_draw.kp T.b_law_draw .nil pass0 (pa_cons (pv 0) (pa_cons pe_int pa_nil))) pe_int (nomark _))
      (pss_one (ps_set (i := 5) sc_law_house.nd rfl (Or.inl rfl) (pe_call (ok_law_words T) (hr.mono (by decide)) rfl T.g_law_words T.F_law_words.kp T.b_law_words .nil pass0 (pa_cons (pv 0) (pa_cons (pv 4) pa_nil)))))
      pss_nil)
      (pss_cons (ps_for PassesOwn.never rfl (pi_range1 rfl T.z_range (pa_cons (pv 3) pa_nil)) (pg_name (i := 6) sc_law_house.nd rfl (Or.inl rfl))
      (pss_one (ps_set (i := 5) sc_law_house.nd rfl (Or.inl rfl) (pe_op op_cat (pe_op op_cat (pv 5) (pe_lst (pa_cons pe_str pa_nil))) (pe_call (ok_law_words T) (hr.mono (by decide)) rfl T.g_law_words T.F_law_words.kp T.b_law_words .nil pass0 (pa_cons (pv 0) (pa_cons (pv 4) pa_nil)))))))
      (pss_cons (ps_set (i := 7) sc_law_house.nd rfl (Or.inl rfl) (pe_tupleOfF (by rfl) T.z_tuple (pe_lc (own := [("_law_k", 6)]) (g := gName 6) (tt := tYes) (by rfl) sc_law_house.nd (pi_range1 rfl T.z_range (pa_cons (pe_op op_add (pv 3) pe_int) pa_nil)) (blkOk_by (own := [("_law_k", 6)]) (N := ["_law_source_here", "_law_least", "_law_keys", "_law_shows", "_law_room", "_law_plan", "_law_k", "_law_counts", "_law_many", "_law_courses", "_law_letters", "_law_senders", "_law_count"]) (sc := defScope s_law_house) (by decide +kernel)) (fun _ _ _ _ _ => (pg_name (i := 6) sc_law_house.nd rfl (Or.inl rfl))) (fun _ _ _ _ _ => pts_nil) (fun _ _ _ _ _ => (pe_op op_add pe_int (pe_call (ok_law_draw T) (hr.mono (by decide)) rfl T.g_law_draw T.F_law_draw.kp T.b_law_draw .nil pass0 (pa_cons (pv 0) (pa_cons pe_int pa_nil))))))))
      (pss_cons (ps_set (i := 8) sc_law_house.nd rfl (Or.inl rfl) (pe_op op_add pe_int (pe_call (ok_law_draw T) (hr.mono (by decide)) rfl T.g_law_draw T.F_law_draw.kp T.b_law_draw .nil pass0 (pa_cons (pv 0) (pa_cons (pv 2) pa_nil)))))
      (pss_cons (ps_set (i := 9) sc_law_house.nd rfl (Or.inl rfl) (pe_lst pa_nil))
      (pss_cons (ps_for PassesOwn.never rfl (pi_range1 rfl T.z_range (pa_cons (pv 8) pa_nil)) (pg_name (i := 6) sc_law_house.nd rfl (Or.inl rfl))
      (pss_one (ps_expr (pe_bm PySem.F.plainAttrs_list PySem.F.slot_list_append PySem.F.type_list_append mt_append (pv 9) (pa_cons (pe_tupleOfF (by rfl) T.z_tuple (pe_lc (own := [("_law_count", 12)]) (g := gName 12) (tt := tYes) (by rfl) sc_law_house.nd (pi_tup (pv 7)) (blkOk_by (own := [("_law_count", 12)]) (N := ["_law_source_here", "_law_least", "_law_keys", "_law_shows", "_law_room", "_law_plan", "_law_k", "_law_counts", "_law_many", "_law_courses", "_law_letters", "_law_senders", "_law_count"]) (sc := defScope s_law_house) (by decide +kernel)) (fun _ _ _ _ _ => (pg_name (i := 12) sc_law_house.nd rfl (Or.inl rfl))) (fun _ _ _ _ _ => pts_nil) (fun _ _ _ _ _ => (pe_call (ok_law_draw T) (hr.mono (by decide)) rfl T.g_law_draw T.F_law_draw.kp T.b_law_draw .nil pass0 (pa_cons (pv 0) (pa_cons (pv 12) pa_nil)))))) pa_nil)))))
      (pss_cons (ps_set (i := 10) sc_law_house.nd rfl (Or.inl rfl) (pe_tupleOfF (by rfl) T.z_tuple (pe_lc (own := [("_law_k", 6)]) (g := gName 6) (tt := tYes) (by rfl) sc_law_house.nd (pi_range1 rfl T.z_range (pa_cons (pv 8) pa_nil)) (blkOk_by (own := [("_law_k", 6)]) (N := ["_law_source_here", "_law_least", "_law_keys", "_law_shows", "_law_room", "_law_plan", "_law_k", "_law_counts", "_law_many", "_law_courses", "_law_letters", "_law_senders", "_law_count"]) (sc := defScope s_law_house) (by decide +kernel)) (fun _ _ _ _ _ => (pg_name (i := 6) sc_law_house.nd rfl (Or.inl rfl))) (fun _ _ _ _ _ => pts_nil) (fun _ _ _ _ _ => (pe_op op_add (pv 1) (pe_call (ok_law_draw T) (hr.mono (by decide)) rfl T.g_law_draw T.F_law_draw.kp T.b_law_draw .nil pass0 (pa_cons (pv 0) (pa_cons (pe_op op_sub pe_int (pv 1)) pa_nil))))))))
      (pss_cons (ps_set (i := 11) sc_law_house.nd rfl (Or.inl rfl) (pe_op op_add (pv 1) (pe_call (ok_law_draw T) (hr.mono (by decide)) rfl T.g_law_draw T.F_law_draw.kp T.b_law_draw .nil pass0 (pa_cons (pv 0) (pa_cons (pe_op op_sub pe_int (pv 1)) pa_nil)))))
      (pss_one (ps_ret (pe_tupF (pa_cons (pe_call (ok_law_scheme T) (hr.mono (by decide)) rfl T.g_law_scheme T.F_law_scheme.kp T.b_law_scheme .nil pass0 (pa_cons (pv 0) pa_nil)) (pa_cons (pe_tupleOfF (by rfl) T.z_tuple (pv 5)) (pa_cons (pv 7) (pa_cons (pe_tupleOfF (by rfl) T.z_tuple (pv 9)) (pa_cons (pv 10) (pa_cons (pv 11) pa_nil)))))))))))))))))))), ?_⟩
    refine ⟨_, rfl, a, n, 2, Av, rfl, S, L, by omega, by decide, by decide, fun d H1 d0 d1 S1 B1 => ⟨_, _, rfl, rfl, ?_⟩⟩
    have L1 := L.but S1 B1
    obtain ⟨sh, es⟩ : ∃ s : Nat, (s : Int) = 1 + d := ⟨(1 + d).toNat, Int.toNat_of_nonneg (by omega)⟩
    obtain ⟨rm, er, hrm⟩ : ∃ rm : Nat, atI [V.int 7, V.int 4] ((sh : Int) - 1) = some (.int (rm : Nat)) ∧ (sh = 1 ∧ rm = 7 ∨ sh = 2 ∧ rm = 4) := by
      have h : sh = 1 ∨ sh = 2 := by omega
      rcases h with rfl | rfl
      · exact ⟨7, rfl, .inl ⟨rfl, rfl⟩⟩
      · exact ⟨4, rfl, .inr ⟨rfl, rfl⟩⟩
    simp only [← es]
    refine ⟨(by show 2 ≤ sizeLine; decide), fun l hl => ⟨_, rfl, _, _, rfl, rfl, l, _, _, _, rfl, rfl, SqL.of upd_same, er, ?_⟩⟩
    refine ⟨(by show 0 ≤ sizeLine; decide), fun lp hlp => ?_⟩
    have kk := (same_upd (o := .lst [V.int 7, V.int 4]) hl).trans (same_upd (o := .lst []) hlp)
    have S2 := S1.same kk
    have L2 := L1.same kk
    have nlp : lp ≠ a := (S1.same (same_upd hl)).ne hlp
    try dsimp only [gName]
    refine if_cut (fun σ' H' => ∃ (lp : Addr) (ws : List Str), σ' = [some (.ref a), some (.int 1), some (.int (keys : Nat)), some (.int (sh : Nat)), some (.int (rm : Nat)), some (.ref lp), none, none, none, none, none, none, none] ∧
      H' lp = some (.lst (ws.map V.str)) ∧ lp ≠ a ∧ SrcA H' a (n + 22) Av ∧ Live H' Av ∧ But a H H' ∧ (∀ x ∈ ws, x ∈ usual) ∧ ws.length ≤ rm) ?_ (fun K1 => ?_)
    rotate_left
    · refine ⟨_, rfl, a, n + 1, 3, Av, rfl, S2, L2, by omega, by decide, by decide, fun d2 H3 d20 d21 S3 B3 => ?_⟩
      have L3 := L2.but S3 B3
      have B03 : But a H H3 := (B1.trans (Same.but kk)).trans B3
      refine ⟨rfl, _, rfl, ite2 (fun _ => ?_) (fun _ => ?_)⟩
      · refine ⟨_, rfl, _, rfl, a, n + 1 + 1, rm, Av, rfl, S3, L3, by omega, by omega, fun r H4 ws hr wl wu e4 S4 B4 => ?_⟩
        exact K1 _ _ ⟨r, ws, rfl, e4, S3.ne hr, (S4.sub fun b hb => .inl hb).le (by omega), L3.but (S4.sub fun b hb => .inl hb) B4, B03.trans B4, wu, wl⟩
      · exact K1 _ _ ⟨lp, [], rfl, B3 _ _ nlp upd_same, nlp, S3.le (by omega), L3, B03, fun x h => (nomatch h), Nat.zero_le _⟩
    rintro σ' H5 ⟨lp, ws, rfl, e5, nlp, S5, L5, B5, wu, wl⟩
    refine ⟨_, rfl, (sh : Nat), rfl, by omega, by omega, for_range (n := sh) (fun i σ' H' => ∃ (lp : Addr) (ws : List Str) (c6 : Option V), σ' = [some (.ref a), some (.int 1), some (.int (keys : Nat)), some (.int (sh : Nat)), some (.int (rm : Nat)), some (.ref lp), c6, none, none, none, none, none, none] ∧
      H' lp = some (.lst (ws.map V.str)) ∧ lp ≠ a ∧ SrcA H' a (n + 22 + 20 * i) Av ∧ Live H' Av ∧ But a H H' ∧ (∀ x ∈ ws, x ∈ planWords) ∧ cntS ws = i ∧ ws.length ≤ rm + i * (rm + 1)) ⟨lp, ws, none, rfl, e5, nlp, S5, L5, B5, fun x h => (usual_plan (wu x h)).1, cnt_usual wu, by omega⟩ ?_ ?_⟩
    · rintro i σ' H6 hi ⟨lp, ws, c6, rfl, e6, nlp, S6, L6, B6, wu, wc, wl⟩
      have wl2 : ws.length ≤ 20 := by
        have h : i = 0 ∨ i = 1 := by omega
        rcases hrm with ⟨_, rfl⟩ | ⟨_, rfl⟩ <;> rcases h with rfl | rfl <;> omega
      refine ⟨_, rfl, (by show 1 ≤ sizeLine; decide), fun t ht => ⟨lp, t, _, _, rfl, rfl, same_upd ht _ _ e6, upd_same, Nat.le_trans (show _ ≤ 1000 by rw [List.length_map]; show ws.length + 1 ≤ 1000; omega) (by decide), fun u hu => ?_⟩⟩
      have k6 := (same_upd (o := .lst [V.str ("show" : Str)]) ht).trans (same_upd (o := .lst (ws.map V.str ++ [V.str ("show" : Str)])) hu)
      have nu : u ≠ a := (S6.same (same_upd (o := .lst [V.str ("show" : Str)]) ht)).ne hu
      refine ⟨_, rfl, _, rfl, a, n + 22 + 20 * i, rm, Av, rfl, S6.same k6, L6.same k6, by omega, by omega, fun r H7 w2 hr7 wl7 wu7 e7 S7 B7 => ?_⟩
      have S7' := S7.sub (Av' := Av) fun b hb => .inl hb
      refine ⟨u, r, _, _, rfl, rfl, B7 _ _ nu upd_same, e7, Nat.le_trans (show _ ≤ 1000 by rw [List.length_append, List.length_map, List.length_map]; show ws.length + 1 + w2.length ≤ 1000; omega) (by decide), fun z hz => ?_⟩
      refine ⟨z, ws ++ [("show" : Str)] ++ w2, _, rfl, ?_, S7.ne hz, (S7'.same (same_upd hz)).le (by omega), (L6.same k6).but S7' B7 |>.same (same_upd hz), ((B6.trans (Same.but k6)).trans B7).trans (Same.but (same_upd hz)), ?_, ?_, ?_⟩
      · rw [upd_same, List.map_append, List.map_append]; rfl
      · intro x hx
        rcases List.mem_append.mp hx with h | h
        · rcases List.mem_append.mp h with h | h
          · exact wu x h
          · rw [List.mem_singleton.mp h]; decide +kernel
        · exact (usual_plan (wu7 x h)).1
      · rw [cnt_append, cnt_append, wc, cnt_usual wu7]; rfl
      · rw [List.length_append, List.length_append]
        show ws.length + 1 + w2.length ≤ _
        rw [Nat.succ_mul]; omega
    rintro σ' H7 ⟨lp, ws, c6, rfl, e7, nlp, S7, L7, B7, wu, wc, wl⟩
    have wl15 : ws.length ≤ 15 := by
      rcases hrm with ⟨rfl, rfl⟩ | ⟨rfl, rfl⟩ <;> omega
    -- counts
    refine ⟨_, rfl, _, _, rfl, rfl, _, rfl, by omega, by omega, fun D hD => ?_⟩
    have nD : D ≠ a := S7.ne hD
    refine lc_range (lo := 0) (n := ((sh : Int) + 1).toNat) (fun i H' => SrcA H' a (n + 70 + i) (And1 Av D) ∧ Live H' (And1 Av D) ∧ But a H7 H' ∧ ∃ cs : List Int, cs.length = i ∧ (∀ c ∈ cs, 1 ≤ c ∧ c ≤ 4) ∧ H' D = some (.lst (cs.map V.int))) ⟨(S7.add hD).le (by omega), L7.add hD, Same.but (same_upd hD), [], rfl, fun x h => (nomatch h), upd_same⟩ ?_ ?_
    · rintro i H' hi ⟨S', L', B', cs, hw, hu, eD⟩
      refine ⟨rfl, _, rfl, a, _, 4, _, rfl, S', L', by omega, by decide, by decide, fun d2 H3 e0' e1' S3 B3 => ?_⟩
      refine ⟨_, _, rfl, rfl, _, B3 _ _ nD eD, ?_, (S3.put (.inr rfl) nD).le (by omega), (L'.but S3 B3).put, keep_new (B'.trans B3) hD, cs ++ [1 + d2], ?_, ?_, ?_⟩
      · rw [List.length_map, hw]
        exact Nat.lt_of_lt_of_le (show i < 1000 by omega) (by decide)
      · rw [List.length_append, hw]; rfl
      · intro x hx
        rcases List.mem_append.mp hx with h | h
        · exact hu x h
        · rw [List.mem_singleton.mp h]; omega
      · rw [upd_same, List.map_append]; rfl
    rintro H8 ⟨S8, L8, B8, cs, hcl, hcs, eD⟩
    have S8' : SrcA H8 a (n + 80) Av := (S8.sub fun b hb => .inl hb).le (by omega)
    have L8' : Live H8 Av := fun b hb => L8 b (.inl hb)
    refine ⟨D, _, rfl, SqL.of eD, fun ct H9 hct k9 tct g9 => ?_⟩
    have nct : ct ≠ a := S8'.ne hct
    have S9 := S8'.same k9
    have L9 := L8'.same k9
    have e9 : H9 lp = some (.lst (ws.map V.str)) := k9 _ _ (B8 _ _ nlp e7)
    -- how many
    refine ⟨_, rfl, _, rfl, a, n + 80, _, Av, rfl, S9, L9, by omega, by omega, by omega, fun d3 H10 d30 d31 S10 B10 => ⟨_, _, rfl, rfl, ?_⟩⟩
    have L10 := L9.but S10 B10
    obtain ⟨mn, em⟩ : ∃ s : Nat, (s : Int) = 1 + d3 := ⟨(1 + d3).toNat, Int.toNat_of_nonneg (by omega)⟩
    simp only [← em]
    refine ⟨(by show 0 ≤ sizeLine; decide), fun cl hcl0 => ?_⟩
    have ncl : cl ≠ a := S10.ne hcl0
    have B10' : But a H H10 := ((B7.trans B8).trans (Same.but k9)).trans B10
    refine ⟨_, rfl, (mn : Nat), rfl, by omega, by omega, for_range (n := mn) (fun i σ' H' => ∃ (vs : List V) (os : List (List Int)) (c6 : Option V), σ' = [some (.ref a), some (.int 1), some (.int (keys : Nat)), some (.int (sh : Nat)), some (.int (rm : Nat)), some (.ref lp), c6, some (.ref ct), some (.int (mn : Nat)), some (.ref cl), none, none, none] ∧
      H' cl = some (.lst vs) ∧ Cos H' a vs os ∧ os.length = i ∧ vs.length = i ∧ (∀ o ∈ os, Fit cs o) ∧ SrcA H' a (n + 81 + 4 * i) (And1 Av cl) ∧ Live H' (And1 Av cl) ∧ But a H10 H') ⟨[], [], c6, rfl, upd_same, .nil, rfl, rfl, fun x h => (nomatch h), (S10.add hcl0).le (by omega), L10.add hcl0, Same.but (same_upd hcl0)⟩ ?_ ?_⟩
    · rintro i σ' H11 hi ⟨vs, os, c6, rfl, ecl, hco, hol, hvl, hfit, S11, L11, B11⟩
      have tct11 := (tct.but B10 nct).but B11 nct
      have lcs : cs.length ≤ 3 := by omega
      refine ⟨_, rfl, .inl ⟨rfl, _, SqL.of ecl⟩, _, rfl, ct, rfl, ⟨_, tct11.sq⟩, fun D hD => ?_⟩
      have nD : D ≠ a := S11.ne hD
      refine lc_tup (K := K) (a := ct) (xs := cs.map V.int) (fun j H' => SrcA H' a (n + 81 + 4 * i + j) (And1 (And1 Av cl) D) ∧ Live H' (And1 (And1 Av cl) D) ∧ But a H11 H' ∧ ∃ o : List Int, o.length = j ∧ (∀ q ∈ o.zip cs, 0 ≤ q.1 ∧ q.1 < q.2) ∧ H' D = some (.lst (o.map V.int)))
        ⟨S11.add hD, L11.add hD, Same.but (same_upd hD), [], rfl, fun x h => (nomatch h), upd_same⟩ (fun j H' _ h => (tct11.but h.2.2.1 nct).sq) ?_ ?_
      · rintro j x H' hx ⟨S', L', B', o, hw, hu, eD⟩
        rw [List.getElem?_map] at hx
        obtain ⟨c, hc, rfl⟩ := Option.map_eq_some_iff.mp hx
        have hc4 := hcs c (List.mem_of_getElem? hc)
        have hj : j < cs.length := by
          obtain ⟨z, _⟩ := List.getElem?_eq_some_iff.mp hc
          exact z
        refine ⟨rfl, _, rfl, _, rfl, a, _, c, _, rfl, S', L', by omega, by omega, by omega, fun d2 H3 e0' e1' S3 B3 => ?_⟩
        refine ⟨_, B3 _ _ nD eD, ?_, (S3.put (.inr rfl) nD).le (by omega), (L'.but S3 B3).put, keep_new (B'.trans B3) hD, o ++ [d2], ?_, ?_, ?_⟩
        · rw [List.length_map, hw]
          exact Nat.lt_of_lt_of_le (show j < 1000 by omega) (by decide)
        · rw [List.length_append, hw]; rfl
        · rw [zip_snoc d2 c o cs (by rw [hw]; exact hc)]
          intro y hy
          rcases List.mem_append.mp hy with h | h
          · exact hu y h
          · rw [List.mem_singleton.mp h]; exact ⟨e0', e1'⟩
        · rw [upd_same, List.map_append]; rfl
      rintro H12 ⟨S12, L12, B12, o, hol2, hoz, eD⟩
      rw [List.length_map] at S12 hol2
      have S12' : SrcA H12 a (n + 81 + 4 * i + cs.length) (And1 Av cl) := S12.sub fun b hb => .inl hb
      have L12' : Live H12 (And1 Av cl) := fun b hb => L12 b (.inl hb)
      refine ⟨D, _, rfl, SqL.of eD, fun t H13 ht k13 tp g13 => ?_⟩
      have nt : t ≠ a := S12.ne ht
      have ecl13 : H13 cl = some (.lst vs) := k13 _ _ (B12 _ _ ncl ecl)
      have B13 : But a H11 H13 := B12.trans (Same.but k13)
      refine ⟨cl, _, _, rfl, rfl, ecl13, Nat.lt_of_lt_of_le (show vs.length < 1000 by omega) (by decide), ?_⟩
      refine ⟨vs ++ [.ref t], os ++ [o], _, rfl, upd_same, ((hco.but B13).snoc tp nt).put ecl13, ?_, ?_, ?_, ((S12'.same k13).put (.inr rfl) ncl).le (by omega), (L12'.same k13).put, keep_new (B11.trans B13) hcl0⟩
      · rw [List.length_append, hol]; rfl
      · rw [List.length_append, hvl]; rfl
      · intro x hx
        rcases List.mem_append.mp hx with h | h
        · exact hfit x h
        · rw [List.mem_singleton.mp h]; exact ⟨hol2, hoz⟩
    rintro σ' H11 ⟨vs, os, c6, rfl, ecl, hco, hol, hvl, hfit, S11, L11, B11⟩
    have S11' : SrcA H11 a (n + 100) Av := (S11.sub fun b hb => .inl hb).le (by omega)
    have L11' : Live H11 Av := fun b hb => L11 b (.inl hb)
    -- letters
    refine ⟨_, rfl, (mn : Nat), rfl, by omega, by omega, fun D2 hD2 => ?_⟩
    have nD2 : D2 ≠ a := S11'.ne hD2
    refine lc_range (lo := 0) (n := mn) (fun i H' => SrcA H' a (n + 100 + i) (And1 Av D2) ∧ Live H' (And1 Av D2) ∧ But a H11 H' ∧ ∃ ls : List Int, ls.length = i ∧ (∀ c ∈ ls, 1 ≤ c ∧ c ≤ 3) ∧ H' D2 = some (.lst (ls.map V.int))) ⟨(S11'.add hD2).le (by omega), L11'.add hD2, Same.but (same_upd hD2), [], rfl, fun x h => (nomatch h), upd_same⟩ ?_ ?_
    · rintro i H' hi ⟨S', L', B', ls, hw, hu, eD⟩
      refine ⟨rfl, _, rfl, _, rfl, _, rfl, _, _, rfl, rfl, a, _, _, _, rfl, S', L', by omega, by decide, by decide, fun d2 H3 e0' e1' S3 B3 => ?_⟩
      refine ⟨_, _, rfl, rfl, _, B3 _ _ nD2 eD, ?_, (S3.put (.inr rfl) nD2).le (by omega), (L'.but S3 B3).put, keep_new (B'.trans B3) hD2, ls ++ [1 + d2], ?_, ?_, ?_⟩
      · rw [List.length_map, hw]
        exact Nat.lt_of_lt_of_le (show i < 1000 by omega) (by decide)
      · rw [List.length_append, hw]; rfl
      · intro x hx
        rcases List.mem_append.mp hx with h | h
        · exact hu x h
        · rw [List.mem_singleton.mp h]; omega
      · rw [upd_same, List.map_append]; rfl
    rintro H12 ⟨S12, L12, B12, ls, hll, hls, eD2⟩
    have S12' : SrcA H12 a (n + 110) Av := (S12.sub fun b hb => .inl hb).le (by omega)
    have L12' : Live H12 Av := fun b hb => L12 b (.inl hb)
    refine ⟨D2, _, rfl, SqL.of eD2, fun lt H13 hlt k13 tlt g13 => ?_⟩
    have nlt : lt ≠ a := S12'.ne hlt
    refine ⟨_, rfl, _, rfl, _, rfl, _, _, rfl, rfl, a, n + 110, _, Av, rfl, S12'.same k13, L12'.same k13, by omega, by decide, by decide, fun d4 H14 d40 d41 S14 B14 => ⟨_, _, rfl, rfl, ?_⟩⟩
    have L14 := (L12'.same k13).but S14 B14
    refine ⟨_, rfl, a, n + 110 + 1, Av, rfl, S14, L14, by omega, fun sv H15 b0 b1 b2 r nt mr mnt osv S15 B15 => ?_⟩
    have B9_15 : But a H9 H15 := ((((B10.trans B11).trans B12).trans (Same.but k13)).trans B14).trans B15
    have B11_15 : But a H11 H15 := ((B12.trans (Same.but k13)).trans B14).trans B15
    have B13_15 : But a H13 H15 := B14.trans B15
    refine ⟨_, rfl, lp, _, rfl, SqL.of (B9_15 _ _ nlp e9), fun pt H16 hpt k16 tpt g16 => ?_⟩
    refine ⟨_, rfl, _, rfl, cl, _, rfl, SqL.of (k16 _ _ (B11_15 _ _ ncl ecl)), fun ot H17 hot k17 tot g17 => ?_⟩
    refine ⟨_, rfl, _, rfl, (by show 6 ≤ sizeLine; decide), fun ht H18 hht k18 tht g18 => ?_⟩
    have npt : pt ≠ a := S15.ne hpt
    have not' : ot ≠ a := (S15.same k16).ne hot
    have nht : ht ≠ a := ((S15.same k16).same k17).ne hht
    have kz : Same H15 H18 := (k16.trans k17).trans k18
    have ob : Ob H18 a (.ref ht) (Ho.dt ⟨b0, b1, b2, r, nt, ws, cs, os, ls, 1 + d4⟩) :=
      .tup tht nht (.cons (osv.same kz) (.cons (.tup (tpt.same (k17.trans k18)) npt (obs_strs ws)) (.cons (.tup ((tct.but B9_15 nct).same kz) nct (obs_ints cs)) (.cons (.tup (tot.same k18) not' ((hco.but B11_15).obs.same kz)) (.cons (.tup ((tlt.but B13_15 nlt).same kz) nlt (obs_ints ls)) (.cons (.int _) .nil))))))
    refine q _ _ ⟨b0, b1, b2, r, nt, ws, cs, os, ls, 1 + d4⟩ ⟨mr, mnt, wu, ?_, ?_, wl15, ?_, hcs, ?_, ?_, hfit, ?_, hls, ?_, ?_⟩ ob ((((S15.same k16).same k17).same k18).le (by omega)) ?_
    · show 1 ≤ cntS ws
      omega
    · show cntS ws ≤ 2
      omega
    · show cs.length = cntS ws + 1
      omega
    · show 1 ≤ os.length
      omega
    · show os.length ≤ keys
      omega
    · show ls.length = os.length
      omega
    · show 1 ≤ 1 + d4
      omega
    · show 1 + d4 ≤ 3
      omega
    · exact ((B7.trans B8).trans (Same.but k9)).trans (B9_15.trans (Same.but kz))
end

section
variable {P : Program} {w : World} {K : PySem.W.Frag} {mg : Str → Option Value} {base : Heap}
/-- where a word stands among words -/
def placesS (ws : List Str) (k : Str) : List Nat := ws.zipIdx.filterMap fun q => if q.1 = k then some q.2 else none
/-- how many shows were done at the last such word -/
def lastS (ws : List Str) (k : Str) : Nat := match (placesS ws k).getLast? with
  | none => 0
  | some j => cntS (ws.take j)
def spLast : Sp := fun vs H Q _ => ∃ (S : AS) (v : V) (ws : List Str) (k : Str), vs = [v, .str k] ∧ Lv H S ∧ Oc H S v (strT ws) ∧ ws.length ≤ 15 ∧ ∀ H', Same H H' → Q (.int (lastS ws k : Nat)) H'
def placeR (k : Str) : Dt × Nat → Option Dt := fun q => match q.1 with
  | .str s => if s = k then some (.int (q.2 : Nat)) else none
  | _ => none
theorem places_data (ws : List Str) (k : Str) : (ws.map Dt.str).zipIdx.filterMap (placeR k) = (placesS ws k).map fun j => Dt.int (j : Nat) := by
  unfold placesS
  rw [List.zipIdx_map, List.filterMap_map, List.map_filterMap]
  congr 1
  funext q
  show placeR k (Dt.str q.1, q.2) = Option.map _ _
  unfold placeR
  by_cases c : q.1 = k
  · simp only [c, if_pos]; rfl
  · simp only [c, if_neg, if_false]; rfl
theorem ok_shown_at_last (T : Txt K mg) : FnOk P w K mg base CX0 1 T.a_shown_at_last T.d_shown_at_last ["done", "word"] spLast := by
  refine T.F_shown_at_last.ok sc_shown_at_last (fun vs H Q E h => ?_) (fun cdv A outer s H vs Q E hr h => ?_)
  · obtain ⟨S, v, ws, k, rfl, _⟩ := h
    rfl
  · obtain ⟨S, v, ws, k, rfl, lv, o, hl, q⟩ := h
    refine ⟨_, (pss_cons (ps_setLc (i := 2) (own := [("place", 3), ("other", 4)]) (g := gTup K 2 (gCons (gName 3) (gCons (gName 4) (gNil)))) (by rfl) sc_shown_at_last.nd rfl rfl (sw_true rfl rfl rfl (by decide +kernel)) (pi_enumT (by rfl) T.z_enumerate (pa_cons (pv 0) pa_nil)) (blkOk_by (own := [("place", 3), ("other", 4)]) (N := ["done", "word", "places", "place", "other"]) (sc := defScope s_shown_at_last) (by decide +kernel)) (fun _ _ _ _ _ => (pg_tup rfl (pgs_cons (pg_name (i := 3) sc_shown_at_last.nd rfl (Or.inl rfl)) (pgs_cons (pg_name (i := 4) sc_shown_at_last.nd rfl (Or.inl rfl)) pgs_nil)))) (fun _ _ _ _ _ => (pts_one (pt_cmpR op_eq (pv 4) (pv 1) (nomark _)))) (fun _ _ _ _ _ => (pv 3)))
      (pss_one (ps_ret (pe_ifExp (pt_truth (pv 2) (by intro _; rfl)) (pe_bmF PySem.F.plainAttrs_tuple PySem.F.slot_tuple_count PySem.F.type_tuple_count (mt_tcount hr.units) (pe_slice sl_tupF (pv 0) po_none (po_some (pe_ix (ixL K) (pv 2) (pe_un un_neg pe_int) (fun _ _ => rfl)))) (pa_cons pe_str pa_nil)) pe_int)))), ?_⟩
    refine S_set (S := S) (d := .lst ((placesS ws k).map fun j => Dt.int (j : Nat))) ?_ lv fun v2 H2 k2 o2 => ?_
    · refine D_eq (D_lcE (z := true) (ds := ws.map Dt.str) (r := placeR k) (D_var (i := 0) rfl o) (by rw [List.length_map]; omega) (fun _ _ => rfl) fun u d i H1 S1 hd lf od => ?_) (congrArg Dt.lst (places_data ws k))
      rw [List.getElem?_map] at hd
      obtain ⟨s, hs, rfl⟩ := Option.map_eq_some_iff.mp hd
      refine ⟨decide (s = k), T_eqS (D_var (i := 4) rfl od) (D_var (i := 1) rfl (.str k)), fun e => ⟨.int (i : Nat), ?_, D_var (i := 3) rfl (.int _)⟩, fun e => ?_⟩
      · show (if s = k then _ else _) = _
        rw [if_pos (of_decide_eq_true e)]
      · show (if s = k then _ else _) = _
        rw [if_neg (of_decide_eq_false e)]
    · have lv2 := Lv.same k2 lv
      have o1 := o.same k2
      refine S_ret (S := S) (d := .int (lastS ws k : Nat)) ?_ lv2 fun v3 H3 k3 o3 => ?_
      · refine D_if (T_truL (D_var (i := 2) rfl o2)) (fun e => ?_) (fun e => ?_)
        · obtain ⟨js, j, ej⟩ : ∃ js j, placesS ws k = js ++ [j] := by
            cases h : (placesS ws k).getLast? with
            | none => rw [List.getLast?_eq_none_iff.mp h] at e; simp at e
            | some j =>
              obtain ⟨ys, e⟩ := List.getLast?_eq_some_iff.mp h
              exact ⟨ys, j, e⟩
          have el : lastS ws k = cntS (ws.take j) := by
            unfold lastS
            rw [ej, List.getLast?_append, List.getLast?_singleton]; rfl
          rw [ej, List.map_append] at o2
          refine D_eq (D_count (ws := ws.take j) (k := "show") (D_eq (D_slTo (k := j) (D_var (i := 0) rfl o1) (D_last (tb := tVar 0) (D_var (i := 2) rfl o2))) (by rw [← List.map_take]))) ?_
          rw [el]; rfl
        · have em : placesS ws k = [] := by
            cases h : placesS ws k with
            | nil => rfl
            | cons a t => rw [h] at e; simp at e
          refine D_eq (D_int 0) ?_
          unfold lastS
          rw [em]; rfl
      · rw [o3.int_inv]
        exact q _ (k2.trans k3)
def servedB (cs : List Int) (l : Int) : Bool := cs.any fun c => decide (l < c)
def spServed : Sp := fun vs H Q _ => ∃ (S : AS) (v : V) (z : Bool) (cs : List Int) (l : Int), vs = [.int l, v] ∧ Lv H S ∧ Oc H S v (.tup z (cs.map Dt.int)) ∧ cs.length ≤ 1000 ∧ ∀ H', Same H H' → Q (.bl (servedB cs l)) H'
theorem ok_is_served (T : Txt K mg) : FnOk P w K mg base CX0 1 T.a_is_served T.d_is_served ["lane", "counts"] spServed := by
  refine T.F_is_served.ok sc_is_served (fun vs H Q E h => ?_) (fun cdv A outer s H vs Q E hr h => ?_)
  · obtain ⟨S, v, z, cs, l, rfl, _⟩ := h
    rfl
  · obtain ⟨S, v, z, cs, l, rfl, lv, o, hl, q⟩ := h
    refine ⟨_, (pss_one (ps_ret (pe_callB (cr_anyK K rfl) (by rfl) T.z_any (by decide +kernel) (pa_cons (pe_lc (own := [("count", 2)]) (g := gName 2) (tt := tYes) (by rfl) sc_is_served.nd (pi_tup (pv 1)) (blkOk_by (own := [("count", 2)]) (N := ["lane", "counts", "count"]) (sc := defScope s_is_served) (by decide +kernel)) (fun _ _ _ _ _ => (pg_name (i := 2) sc_is_served.nd rfl (Or.inl rfl))) (fun _ _ _ _ _ => pts_nil) (fun _ _ _ _ _ => (pe_cmpR op_gt (pv 2) (pv 0) (nomark _)))) pa_nil)))), ?_⟩
    refine S_ret (S := S) (d := .bl (servedB cs l)) ?_ lv fun v3 H3 k3 o3 => ?_
    · refine D_eq (D_any (bs := cs.map fun c => decide (l < c)) (D_eq (D_lcT (ds := cs.map Dt.int) (z := z) (r := fun d => some (.bl (decide (l < Lc.intD d)))) (D_var (i := 1) rfl o) (by rw [List.length_map]; omega) fun u d H1 S1 hd lf od => ?_) ?_)) ?_
      · obtain ⟨c, _, rfl⟩ := List.mem_map.mp hd
        exact turn_map rfl lf.live (D_gt (D_var (i := 2) rfl od) (D_var (i := 0) rfl (.int l)))
      · congr 1
        rw [List.filterMap_map, List.map_map]
        exact List.filterMap_eq_map ▸ rfl
      · unfold servedB
        rw [List.any_map]; rfl
    · rw [o3.bl_inv]
      exact q _ k3
end

section
variable {P : Program} {w : World} {K : PySem.W.Frag} {mg : Str → Option Value} {base : Heap}
theorem S_fld2 {σ : L2.St} {H : Hp} {S : AS} {H0 : Hp} {x C dx : Addr} {ds : List (Str × Dt)} {f : Str} {d : Dt} {tv : TE} {u : TS} {D : Ends} (I : Ini H0 S x C dx ds H) (sx : S x) (hj : σ[0]? = some (some (.ref x))) (h : DE tv σ H S d) (c : Cls K C) (n : NoAttr K C f) (e : ds.lookup f = none) (hl : ds.length < 900)
    (k : ∀ H3, Ini H0 S x C dx (ds ++ [(f, d)]) H3 → (∀ b o, b ≠ x → H b = some o → H3 b = some o) → u D σ H3) : tSeq (sFld K (tVar 0) tv f) u D σ H := by
  refine h.go I.lv fun y H2 k2 o => ?_
  obtain ⟨fs, hx, F⟩ := I.at_
  refine ⟨_, hj, x, C, dx, fs, rfl, k2 _ _ hx, c, n, by rw [F.len]; omega, ?_⟩
  rw [F.new e]
  exact k _ (I.step sx hx F k2 o) fun b u nb hb => by rw [upd_ne nb]; exact k2 _ _ hb
theorem D_max2 {σ : L2.St} {H : Hp} {S : AS} {ta tb : TE} {i j : Int} (ha : DE ta σ H S (.int i)) (hb : DE tb σ H S (.int j)) : DE (tCB (fun xs H Q => ∃ i j, xs = [.int i, .int j] ∧ Q (.int (if j > i then j else i)) H) (tCons ta (tCons tb tNil))) σ H S (.int (if j > i then j else i)) := fun H1 S1 Q x q =>
  ha H1 S1 _ x fun v H2 k o => (hb.lift (x.then k)).go (Lv.same k x.live) fun u H3 k3 o3 => by
    have e1 := (o.same k3).int_inv
    have e2 := o3.int_inv
    subst e1; subst e2
    exact ⟨i, j, rfl, q _ _ (k.trans k3) (.int _)⟩
def strOf : Dt → Str
  | .str s => s
  | _ => ""
def lanesD (n : Nat) (p : Int → Bool) : List Dt := (upto n).filterMap fun d => if p (Lc.intD d) = true then some d else none
def momF (ws : List Str) (cs : List Int) : List (Str × Dt) :=
  [("shown", .int (cntS ws : Nat)), ("told", .int (lastS ws "tell" : Nat)), ("closed", .int (lastS ws "close" : Nat)), ("opened", .int (lastS ws "open" : Nat)), ("drained", .int (lastS ws "drain" : Nat)),
   ("dropped", .int ((lastS ws "drop" : Nat) - 1)), ("newest", .int (if ((lastS ws "open" : Nat) : Int) > (lastS ws "tell" : Nat) then (lastS ws "open" : Nat) else (lastS ws "tell" : Nat))),
   ("readable", .lst (lanesD (maxL cs).toNat fun l => servedB ((cs.drop (lastS ws "drop")).take (lastS ws "open" + 1 - lastS ws "drop")) l)), ("dead", .lst (lanesD (maxL cs).toNat fun l => !servedB (cs.drop (lastS ws "drop")) l))]
def momD : List Dt → List (Str × Dt)
  | [.tup _ a, .tup _ b] => momF (a.map strOf) (b.map Lc.intD)
  | _ => []
theorem strs_back (ws : List Str) : (ws.map Dt.str).map strOf = ws := by
  rw [List.map_map]; exact (List.map_congr_left fun _ _ => rfl).trans (List.map_id ws)
theorem ints_back (ns : List Int) : (ns.map Dt.int).map Lc.intD = ns := by
  rw [List.map_map]; exact (List.map_congr_left fun _ _ => rfl).trans (List.map_id ns)
structure Cts (cs : List Int) : Prop where
  ne : cs ≠ []
  len : cs.length ≤ 3
  all : ∀ c ∈ cs, 1 ≤ c ∧ c ≤ 4
theorem max_bound {cs : List Int} (h : Cts cs) : 1 ≤ maxL cs ∧ maxL cs ≤ 4 := by
  obtain ⟨c, r, rfl⟩ := List.exists_cons_of_ne_nil h.ne
  have h1 := le_maxL (ns := c :: r) (m := c) List.mem_cons_self
  refine ⟨Int.le_trans (h.all c List.mem_cons_self).1 h1, ?_⟩
  have key : ∀ (r : List Int) (c : Int), c ≤ 4 → (∀ y ∈ r, y ≤ 4) → r.foldl max c ≤ 4 := by
    intro r
    induction r with
    | nil => intro c hc _; exact hc
    | cons y t ih =>
      intro c hc hr
      rw [List.foldl_cons]
      exact ih _ (by have := hr y List.mem_cons_self; omega) fun z hz => hr z (List.mem_cons_of_mem _ hz)
  exact key r c (h.all c List.mem_cons_self).2 fun y hy => (h.all y (List.mem_cons_of_mem _ hy)).2
def okMom (ds : List Dt) : Prop := ∃ ws cs, ds = [strT ws, intT' cs] ∧ ws.length ≤ 15 ∧ Cts cs
theorem ok_init_Moment (T : Txt K mg) : FnOk P w K mg base CX0 2 T.a_init_Moment T.d_init_Moment ["self", "done", "counts"] (spInit T.C_Moment okMom momD) := by
  refine T.F_init_Moment.ok sc_init_Moment (fun vs H Q E h => ?_) (fun cdv A outer s H vs Q E hr h => ?_)
  · obtain ⟨x, dx, S, us, ds, rfl, _, _, _, o, ⟨ws, cs, rfl, _⟩, _⟩ := h
    obtain ⟨v, u, rfl, _⟩ := o.two
    rfl
  · obtain ⟨x, dx, S, us, ds, rfl, hx, sx, lv, o, ⟨ws, cs, rfl, wl, hc⟩, q⟩ := h
    obtain ⟨vd, vc, rfl, od, oc⟩ := o.two
    have eD : momD [strT ws, intT' cs] = momF ws cs := by
      show momF ((ws.map Dt.str).map strOf) ((cs.map Dt.int).map Lc.intD) = _
      rw [strs_back, ints_back]
    rw [eD] at q
    clear eD
    refine ⟨_, (pss_cons (ps_fld (pv 0) (pe_bmF PySem.F.plainAttrs_tuple PySem.F.slot_tuple_count PySem.F.type_tuple_count (mt_tcount hr.units) (pv 1) (pa_cons pe_str pa_nil)) rfl)
      (pss_cons (ps_fld (pv 0) (pe_call (ok_shown_at_last T) (hr.mono (by decide)) rfl T.g_shown_at_last T.F_shown_at_last.kp T.b_shown_at_last .nil pass0 (pa_cons (pv 1) (pa_cons pe_str pa_nil))) rfl)
      (pss_cons (ps_fld (pv 0) (pe_call (ok_shown_at_last T) (hr.mono (by decide)) rfl T.g_shown_at_last T.F_shown_at_last.kp T.b_shown_at_last .nil pass0 (pa_cons (pv 1) (pa_cons pe_str pa_nil))) rfl)
      (pss_cons (ps_fld (pv 0) (pe_call (ok_shown_at_last T) (hr.mono (by decide)) rfl T.g_shown_at_last T.F_shown_at_last.kp T.b_shown_at_last .nil pass0 (pa_cons (pv 1) (pa_cons pe_str pa_nil))) rfl)
      (pss_cons (ps_fld (pv 0) (pe_call (ok_shown_at_last T) (hr.mono (by decide)) rfl T.g_shown_at_last T.F_shown_at_last.kp T.b_shown_at_last .nil pass0 (pa_cons (pv 1) (pa_cons pe_str pa_nil))) rfl)
      (pss_cons (ps_fld (pv 0) (pe_op op_sub (pe_call (ok_shown_at_last T) (hr.mono (by decide)) rfl T.g_shown_at_last T.F_shown_at_last.kp T.b_shown_at_last .nil pass0 (pa_cons (pv 1) (pa_cons pe_str pa_nil))) pe_int) rfl)
      (pss_cons (ps_fld (pv 0) (pe_callB (call_max2 rfl) (by rfl) T.z_max (by decide +kernel) (pa_cons (pe_fld (pv 0) rfl) (pa_cons (pe_fld (pv 0) rfl) pa_nil))) rfl)
      (pss_cons (ps_set (i := 3) sc_init_Moment.nd rfl (Or.inr rfl) (pe_op op_add (pe_fld (pv 0) rfl) pe_int))
      (pss_cons (ps_set (i := 4) sc_init_Moment.nd rfl (Or.inl rfl) (pe_callTy cr_range1 (by rfl) T.z_range (by decide +kernel) (pa_cons (pe_callB (cr_maxT K rfl hr.units) (by rfl) T.z_max (by decide +kernel) (pa_cons (pv 2) pa_nil)) pa_nil)))
      (pss_cons (ps_fld (pv 0) (pe_lc (own := [("lane", 5)]) (g := gName 5) (by rfl) sc_init_Moment.nd (pi_rngV (pv 4)) (blkOk_by (own := [("lane", 5)]) (N := ["self", "done", "counts", "first_kept", "lanes", "lane"]) (sc := defScope s_init_Moment) (by decide +kernel)) (fun _ _ _ _ _ => (pg_name (i := 5) sc_init_Moment.nd rfl (Or.inl rfl))) (fun _ _ _ _ _ => (pts_one (pt_val (pe_call (ok_is_served T) (hr.mono (by decide)) rfl T.g_is_served T.F_is_served.kp T.b_is_served .nil pass0 (pa_cons (pv 5) (pa_cons (pe_slice (sl_tupFK K) (pv 2) (po_some (pv 3)) (po_some (pe_op op_add (pe_fldK K (pv 0) rfl) pe_int))) pa_nil)))))) (fun _ _ _ _ _ => (pv 5))) rfl)
      (pss_one (ps_fld (pv 0) (pe_lc (own := [("lane", 5)]) (g := gName 5) (by rfl) sc_init_Moment.nd (pi_rngV (pv 4)) (blkOk_by (own := [("lane", 5)]) (N := ["self", "done", "counts", "first_kept", "lanes", "lane"]) (sc := defScope s_init_Moment) (by decide +kernel)) (fun _ _ _ _ _ => (pg_name (i := 5) sc_init_Moment.nd rfl (Or.inl rfl))) (fun _ _ _ _ _ => (pts_one (pt_not (pt_val (pe_call (ok_is_served T) (hr.mono (by decide)) rfl T.g_is_served T.F_is_served.kp T.b_is_served .nil pass0 (pa_cons (pv 5) (pa_cons (pe_slice (sl_tupFK K) (pv 2) (po_some (pv 3)) po_none) pa_nil))))))) (fun _ _ _ _ _ => (pv 5))) rfl)))))))))))), ?_⟩
    have I0 : Ini H S x T.C_Moment dx [] H := ⟨⟨[], hx, .nil⟩, fun _ _ _ e => e, lv⟩
    have call : ∀ (σ : L2.St) (H1 : Hp) (ds : List (Str × Dt)) (k : Str), Ini H S x T.C_Moment dx ds H1 → σ[1]? = some (some vd) → DE (tCall spLast [] E0 (tCons (tVar 1) (tCons (tC (.str k)) tNil))) σ H1 S (.int (lastS ws k : Nat)) := by
      intro σ H1 ds k I hj
      refine D_fn (ds := [strT ws, .str k]) (D_cons (D_var hj (I.ob sx od)) (D_cons (D_str k) D_nil)) fun H2 S2 vs R lf ovs qq => ?_
      obtain ⟨v, u, rfl, o1, o2⟩ := ovs.two
      rw [o2.str_inv]
      exact ⟨S2, v, ws, k, rfl, lf.live, o1, wl, fun H' k' => qq _ _ k' (.int _)⟩
    have L := T.L_Moment
    dsimp only [gName]
    refine S_fld I0 sx rfl (D_count (ws := ws) (k := "show") (D_var (i := 1) rfl (I0.ob sx od))) L T.n_Moment_shown rfl (by simp) fun H1 I1 => ?_
    refine S_fld I1 sx rfl (call _ _ _ "tell" I1 rfl) L T.n_Moment_told rfl (by simp) fun H2 I2 => ?_
    refine S_fld I2 sx rfl (call _ _ _ "close" I2 rfl) L T.n_Moment_closed rfl (by simp) fun H3 I3 => ?_
    refine S_fld I3 sx rfl (call _ _ _ "open" I3 rfl) L T.n_Moment_opened rfl (by simp) fun H4 I4 => ?_
    refine S_fld I4 sx rfl (call _ _ _ "drain" I4 rfl) L T.n_Moment_drained rfl (by simp) fun H5 I5 => ?_
    refine S_fld I5 sx rfl (D_sub (call _ _ _ "drop" I5 rfl) (D_int 1)) L T.n_Moment_dropped rfl (by simp) fun H6 I6 => ?_
    refine S_fld I6 sx rfl (D_max2 (D_self I6 rfl L T.n_Moment_told (d := .int (lastS ws "tell" : Nat)) rfl) (D_self I6 rfl L T.n_Moment_opened (d := .int (lastS ws "open" : Nat)) rfl)) L T.n_Moment_newest rfl (by simp) fun H7 I7 => ?_
    refine S_set (S := S) (d := .int (lastS ws "drop" : Nat)) (D_eq (D_add (D_self I7 rfl L T.n_Moment_dropped (d := .int ((lastS ws "drop" : Nat) - 1)) rfl) (D_int 1)) (by congr 1; omega)) I7.lv fun vk H8 k8 ok => ?_
    have I8 := I7.same k8
    have ek := ok.int_inv
    subst ek
    obtain ⟨mb1, mb2⟩ := max_bound hc
    have em : maxL cs = ((maxL cs).toNat : Nat) := by omega
    refine S_setQ ?_
    refine (D_maxInts (K := K) (m := (maxL cs).toNat) (D_var (i := 2) rfl (I8.ob sx oc)) em hc.ne).go I8.lv fun vm H9 k9 om => ?_
    have e9 := om.int_inv
    subst e9
    refine ⟨_, rfl, fun p hp => ?_⟩
    have I9 := (I8.same k9).same (same_upd (o := .rng 0 ((maxL cs).toNat : Nat)) hp)
    have np : p ≠ x := by
      rintro rfl
      obtain ⟨fs, e, _⟩ := (I8.same k9).at_
      rw [e] at hp; cases hp
    have hr9 : (upd H9 p (.rng 0 ((maxL cs).toNat : Nat))) p = some (.rng 0 ((maxL cs).toNat : Nat)) := upd_same
    generalize upd H9 p (.rng 0 ((maxL cs).toNat : Nat)) = Ha at I9 hr9 ⊢
    have served : ∀ (σ : L2.St) (H1 : Hp) (S1 : AS) (tl tc : TE) (l : Nat) (ns : List Int), ns.length ≤ 3 → DE tl σ H1 S1 (.int (l : Nat)) → DE tc σ H1 S1 (.tup true (ns.map Dt.int)) → DE (tCall spServed [] E0 (tCons tl (tCons tc tNil))) σ H1 S1 (.bl (servedB ns l)) := by
      intro σ H1 S1 tl tc l ns nl h1 h2
      refine D_fn (ds := [.int (l : Nat), .tup true (ns.map Dt.int)]) (D_cons h1 (D_cons h2 D_nil)) fun H2 S2 vs R lf ovs qq => ?_
      obtain ⟨v, u, rfl, o1, o2⟩ := ovs.two
      rw [o1.int_inv]
      exact ⟨S2, u, true, ns, l, rfl, lf.live, o2, by omega, fun H' k' => qq _ _ k' (.bl _)⟩
    refine S_fld2 I9 sx rfl (D_lcRV (p := p) (n := (maxL cs).toNat) (r := fun d => if servedB ((cs.drop (lastS ws "drop")).take (lastS ws "open" + 1 - lastS ws "drop")) (Lc.intD d) = true then some d else none) rfl hr9 (by omega) fun i Hb Sb hi lf => ?_) L T.n_Moment_readable rfl (by simp) fun Hc I10 kc => ?_
    · refine turn_test rfl lf.live (T_val (served _ _ _ _ _ i _ (by rw [List.length_take, List.length_drop]; have := hc.len; omega) (D_var (i := 5) rfl (.int _)) (D_eq (D_slMid (k := lastS ws "drop") (m := lastS ws "open" + 1) ((D_var (i := 2) rfl (lf.ob (I9.ob sx oc))) : DE _ _ Hb Sb (intT' cs)) (D_var (i := 3) rfl (.int _)) (D_eq (D_add ((D_self I9 rfl L T.n_Moment_opened (d := .int (lastS ws "open" : Nat)) rfl).lift lf) (D_int 1)) rfl)) (by rw [List.map_take, List.map_drop])))) fun _ => D_var (i := 5) rfl (.int _)
    · refine S_fld1 I10 sx rfl (D_lcRV (p := p) (n := (maxL cs).toNat) (r := fun d => if (!servedB (cs.drop (lastS ws "drop")) (Lc.intD d)) = true then some d else none) rfl (kc _ _ np hr9) (by omega) fun i Hb Sb hi lf => ?_) L T.n_Moment_dead rfl (by simp) fun Hd I11 => ?_
      · refine turn_test rfl lf.live (T_not (T_val (served _ _ _ _ _ i _ (by rw [List.length_drop]; have := hc.len; omega) (D_var (i := 5) rfl (.int _)) (D_eq (D_slFrom (k := lastS ws "drop") ((D_var (i := 2) rfl (lf.ob (I10.ob sx oc))) : DE _ _ Hb Sb (intT' cs)) (D_var (i := 3) rfl (.int _))) (by rw [List.map_drop]))))) fun _ => D_var (i := 5) rfl (.int _)
      · exact q _ I11
end

theorem if_no {c : Bool} {A B : Prop} (h : c = false) (q : B) : if c = true then A else B := by
  subst h; exact q
theorem if_yes {c : Bool} {A B : Prop} (h : c = true) (q : A) : if c = true then A else B := by
  subst h; exact q
theorem all_ints {f : Dt → Bool} {ns : List Int} (h : ∀ i ∈ ns, f (.int i) = true) : (ns.map Dt.int).all f = true := by
  rw [List.all_map, List.all_eq_true]; exact h
theorem whole_yes {i lo hi : Int} (h : lo ≤ i) (h' : i ≤ hi) : wholeD (.int i) lo hi = true := by
  show (decide (lo ≤ i) && decide (i ≤ hi)) = true
  rw [decide_eq_true h, decide_eq_true h']; rfl
theorem row_yes {z : Bool} {ds : List Dt} {lo hi : Int} (h : lo ≤ (ds.length : Int)) (h' : (ds.length : Int) ≤ hi) : rowD (.tup z ds) lo hi = true := by
  show (decide (lo ≤ (ds.length : Int)) && decide ((ds.length : Int) ≤ hi)) = true
  rw [decide_eq_true h, decide_eq_true h']; rfl
theorem course_yes {cs o : List Int} (h : Fit cs o) : courseD (intT o) (intT cs) = true := by
  unfold courseD
  have l : (cs.map Dt.int).length = cs.length := List.length_map _
  have l2 : (o.map Dt.int).length = o.length := List.length_map _
  have e : rowD (intT o) (((itemsD (intT cs)).length : Nat) : Int) (((itemsD (intT cs)).length : Nat) : Int) = true := by
    show rowD (.tup true (o.map Dt.int)) (((cs.map Dt.int).length : Nat) : Int) (((cs.map Dt.int).length : Nat) : Int) = true
    have := h.1
    exact row_yes (by omega) (by omega)
  rw [e, Bool.true_and]
  show ((o.map Dt.int).zip (cs.map Dt.int)).all _ = true
  rw [List.zip_map, List.all_map, List.all_eq_true]
  intro q hq
  have hh := h.2 q hq
  exact whole_yes hh.1 (by show q.1 ≤ q.2 - 1; omega)
theorem frame_yes {h : Ho} {keys : Nat} (ok : h.Ok keys) : frameD (schemeT h.b0 h.b1 h.b2 h.r h.nt) (strT h.ws) (intT h.cs) = true := by
  have e1 : schemeD (schemeT h.b0 h.b1 h.b2 h.r h.nt) = true := by
    show (true && (decide (h.r ∈ refusals) && decide (h.nt ∈ notings))) = true
    rw [decide_eq_true ok.r, decide_eq_true ok.nt]; rfl
  have shw : shows (strT h.ws) = cntS h.ws := shows_strs h.ws
  have c1 := ok.c1
  have wpos : 1 ≤ h.ws.length := Nat.le_trans c1 List.countP_le_length
  have wl := ok.wl
  have l : (h.ws.map Dt.str).length = h.ws.length := List.length_map _
  have e2 : planD (strT h.ws) = true := by
    unfold planD
    rw [shw, decide_eq_true ok.c1, decide_eq_true ok.c2]
    have r1 : rowD (strT h.ws) 1 15 = true := row_yes (by omega) (by omega)
    have a1 : (itemsD (strT h.ws)).all (fun x => wordD x planWords) = true := by
      show (h.ws.map Dt.str).all _ = true
      rw [List.all_map, List.all_eq_true]
      intro x hx
      exact decide_eq_true (ok.ws x hx)
    rw [r1, a1]; rfl
  have c2 := ok.c2
  have cl := ok.cl
  have lc : (h.cs.map Dt.int).length = h.cs.length := List.length_map _
  have e3 : countsD (intT h.cs) = true := by
    unfold countsD
    have r1 : rowD (intT h.cs) 2 3 = true := row_yes (by omega) (by omega)
    rw [r1, Bool.true_and]
    exact all_ints fun i hi => whole_yes (ok.cs i hi).1 (ok.cs i hi).2
  unfold frameD
  rw [e1, e2, e3, shw, decide_eq_true (show (itemsD (intT h.cs)).length = cntS h.ws + 1 from lc.trans cl)]; rfl
theorem house_ok {h : Ho} (ok : h.Ok 3) : houseD h.dt = true := by
  show (frameD _ _ _ && (keysD (.tup true (h.os.map intT)) (intT h.ls) (intT h.cs) && wholeD (.int h.m) 1 3)) = true
  have lo : (h.os.map intT).length = h.os.length := List.length_map _
  have ll : (h.ls.map Dt.int).length = h.ls.length := List.length_map _
  have o1 := ok.o1
  have o2 := ok.o2
  have l3 := ok.ll
  have e : keysD (.tup true (h.os.map intT)) (intT h.ls) (intT h.cs) = true := by
    unfold keysD
    have r1 : rowD (.tup true (h.os.map intT)) 1 3 = true := row_yes (by omega) (by omega)
    have r2 : rowD (intT h.ls) ((itemsD (.tup true (h.os.map intT))).length : Nat) ((itemsD (.tup true (h.os.map intT))).length : Nat) = true := by
      show rowD (.tup true (h.ls.map Dt.int)) (((h.os.map intT).length : Nat) : Int) (((h.os.map intT).length : Nat) : Int) = true
      exact row_yes (by omega) (by omega)
    have a1 : (itemsD (.tup true (h.os.map intT))).all (fun x => courseD x (intT h.cs)) = true := by
      show (h.os.map intT).all _ = true
      rw [List.all_map, List.all_eq_true]
      intro o ho
      exact course_yes (ok.os o ho)
    have a2 : (itemsD (intT h.ls)).all (fun x => wholeD x 1 3) = true := all_ints fun i hi => whole_yes (ok.ls i hi).1 (ok.ls i hi).2
    rw [r1, r2, a1, a2]; rfl
  rw [frame_yes ok, e, whole_yes ok.m1 ok.m2]; rfl

section
variable {P : Program} {w : World} {K : PySem.W.Frag} {mg : Str → Option Value} {base : Heap}
theorem D_lenT {σ : L2.St} {H : Hp} {S : AS} {te : TE} {z : Bool} {ds : List Dt} (h : DE te σ H S (.tup z ds)) : DE (tCB (fun xs H Q => ∃ p ys, xs = [.ref p] ∧ (SqL K H p ys ∨ SqT K H p ys) ∧ Q (.int ys.length) H) (tCons te tNil)) σ H S (.int (ds.length : Nat)) := fun H1 S1 Q x q =>
  h H1 S1 _ x fun v H2 k o => by
    obtain ⟨a, xs, rfl, ea, na, oa⟩ := o.tup_inv
    refine ⟨a, xs, rfl, .inr ea.sq, ?_⟩
    rw [oa.len]; exact q _ _ k (.int _)
theorem st_eq {f : L2.St → Hp → Prop} {σ τ : L2.St} {H : Hp} (e : σ = τ) (h : f τ H) : f σ H := e ▸ h
def idleD (nt : Str) : Dt := if nt = ("first" : Str) then .tup true [] else .int 0
def frameF (h : Ho) : List (Str × Dt) :=
  [("asks", .bl h.b0), ("paced", .bl h.b1), ("refused", .str h.r), ("notes", .str h.nt), ("steady", .bl h.b2), ("plan", strT h.ws), ("counts", intT h.cs), ("courses", .tup true (h.os.map intT)), ("letters", intT h.ls), ("senders", .int h.m), ("idle", idleD h.nt)]
def momsF (h : Ho) : List (List (Str × Dt)) := (List.range (h.ws.length + 1)).map fun i => momF (h.ws.take i) h.cs
/-- a frame, told by its house -/
def FrAt (H : Hp) (S : AS) (CF CM : Addr) (v : V) (h : Ho) : Prop := ∃ p dx fs vm, v = .ref p ∧ H p = some (.ins CF dx (fs ++ [(("moments" : Str), vm)])) ∧ ¬ S p ∧ Fds H S fs (frameF h) ∧ InssAt H S CM vm (momsF h)
theorem FrAt.but {H H' : Hp} {S : AS} {CF CM : Addr} {v : V} {h : Ho} (b : ButS S H H') (f : FrAt H S CF CM v h) : FrAt H' S CF CM v h := by
  obtain ⟨p, dx, fs, vm, rfl, e, n, F, M⟩ := f
  exact ⟨p, dx, fs, vm, rfl, b _ _ n e, n, F.map fun _ _ o => o.but b, M.but b⟩
theorem Ho.Ok.cts {h : Ho} {keys : Nat} (ok : h.Ok keys) : Cts h.cs := by
  have c1 := ok.c1
  have c2 := ok.c2
  have cl := ok.cl
  exact ⟨fun z => by rw [z] at cl; simp at cl, by omega, ok.cs⟩
def spFrame (CF CM : Addr) : Sp := fun vs H Q _ => ∃ (x dx : Addr) (S : AS) (v : V) (h : Ho) (keys : Nat), vs = [.ref x, v] ∧ H x = some (.ins CF dx []) ∧ S x ∧ Lv H S ∧ Oc H S v h.dt ∧ h.Ok keys ∧
  ∀ H' fs vm, H' x = some (.ins CF dx (fs ++ [(("moments" : Str), vm)])) → Fds H' S fs (frameF h) → InssAt H' S CM vm (momsF h) → (∀ b o, b ≠ x → H b = some o → H' b = some o) → Q .non H'
theorem ocs5 {H : Hp} {S : AS} {vs : List V} {a b c d e : Dt} (h : Ocs H S vs [a, b, c, d, e]) : ∃ v1 v2 v3 v4 v5, vs = [v1, v2, v3, v4, v5] ∧ Oc H S v1 a ∧ Oc H S v2 b ∧ Oc H S v3 c ∧ Oc H S v4 d ∧ Oc H S v5 e := by
  cases h with
  | cons h1 t =>
    cases t with
    | cons h2 t =>
      obtain ⟨v3, v4, v5, rfl, h3, h4, h5⟩ := t.three
      exact ⟨_, _, _, _, _, rfl, h1, h2, h3, h4, h5⟩
theorem ocs6 {H : Hp} {S : AS} {vs : List V} {a b c d e f : Dt} (h : Ocs H S vs [a, b, c, d, e, f]) : ∃ v1 v2 v3 v4 v5 v6, vs = [v1, v2, v3, v4, v5, v6] ∧ Oc H S v1 a ∧ Oc H S v2 b ∧ Oc H S v3 c ∧ Oc H S v4 d ∧ Oc H S v5 e ∧ Oc H S v6 f := by
  cases h with
  | cons h1 t =>
    obtain ⟨v2, v3, v4, v5, v6, rfl, h2, h3, h4, h5, h6⟩ := ocs5 t
    exact ⟨_, _, _, _, _, _, rfl, h1, h2, h3, h4, h5, h6⟩
theorem ok_init_Frame (T : Txt K mg) : FnOk P w K mg base CX0 4 T.a_init_Frame T.d_init_Frame ["self", "house"] (spFrame T.C_Frame T.C_Moment) := by
  refine T.F_init_Frame.ok sc_init_Frame (fun vs H Q E h => ?_) (fun cdv A outer s H vs Q E hr h => ?_)
  · obtain ⟨x, dx, S, v, h, keys, rfl, _⟩ := h
    rfl
  · obtain ⟨x, dx, S, v, h, keys, rfl, hx, sx, lv, o, ok, q⟩ := h
    refine ⟨_, (pss_cons (ps_asg (pv 1) (pg_tup rfl (pgs_cons (pg_name (i := 2) sc_init_Frame.nd rfl (Or.inl rfl)) (pgs_cons (pg_name (i := 3) sc_init_Frame.nd rfl (Or.inr rfl)) (pgs_cons (pg_name (i := 4) sc_init_Frame.nd rfl (Or.inr rfl)) (pgs_cons (pg_name (i := 5) sc_init_Frame.nd rfl (Or.inl rfl)) (pgs_cons (pg_name (i := 6) sc_init_Frame.nd rfl (Or.inl rfl)) (pgs_cons (pg_name (i := 7) sc_init_Frame.nd rfl (Or.inl rfl)) pgs_nil))))))))
      (pss_cons (ps_asg (pv 2) (pg_tup rfl (pgs_cons (pg_name (i := 8) sc_init_Frame.nd rfl (Or.inl rfl)) (pgs_cons (pg_name (i := 9) sc_init_Frame.nd rfl (Or.inl rfl)) (pgs_cons (pg_name (i := 10) sc_init_Frame.nd rfl (Or.inl rfl)) (pgs_cons (pg_name (i := 11) sc_init_Frame.nd rfl (Or.inl rfl)) (pgs_cons (pg_name (i := 12) sc_init_Frame.nd rfl (Or.inl rfl)) pgs_nil)))))))
      (pss_cons (ps_fld (pv 0) (pv 8) rfl)
      (pss_cons (ps_fld (pv 0) (pv 9) rfl)
      (pss_cons (ps_fld (pv 0) (pv 10) rfl)
      (pss_cons (ps_fld (pv 0) (pv 11) rfl)
      (pss_cons (ps_fld (pv 0) (pv 12) rfl)
      (pss_cons (ps_fld (pv 0) (pv 3) rfl)
      (pss_cons (ps_fld (pv 0) (pv 4) rfl)
      (pss_cons (ps_fld (pv 0) (pv 5) rfl)
      (pss_cons (ps_fld (pv 0) (pv 6) rfl)
      (pss_cons (ps_fld (pv 0) (pv 7) rfl)
      (pss_cons (ps_fld (pv 0) (pe_ifExp (pt_cmpR op_eq (pv 11) pe_str (nomark _)) (pe_tupF pa_nil) pe_int) rfl)
      (pss_one (ps_fld (pv 0) (pe_lc (own := [("place", 13)]) (g := gName 13) (tt := tYes) (by rfl) sc_init_Frame.nd (pi_range1 rfl T.z_range (pa_cons (pe_op op_add (pe_callB call_len_seq (by rfl) T.z_len (by decide +kernel) (pa_cons (pv 3) pa_nil)) pe_int) pa_nil)) (blkOk_by (own := [("place", 13)]) (N := ["self", "house", "scheme", "plan", "counts", "courses", "letters", "senders", "asks", "paced", "refused", "notes", "steady", "place"]) (sc := defScope s_init_Frame) (by decide +kernel)) (fun _ _ _ _ _ => (pg_name (i := 13) sc_init_Frame.nd rfl (Or.inl rfl))) (fun _ _ _ _ _ => pts_nil) (fun _ _ _ _ _ => (pe_make T.M_Moment (ok_init_Moment T) (hr.mono (by decide)) (by rfl) T.g_Moment T.b_init_Moment .nil pass0 (pa_cons (pe_slice (sl_tupFK K) (pv 3) po_none (po_some (pv 13))) (pa_cons (pv 4) pa_nil))))) rfl))))))))))))))), ?_⟩
    have I0 : Ini H S x T.C_Frame dx [] H := ⟨⟨[], hx, .nil⟩, fun _ _ _ e => e, lv⟩
    have L := T.L_Frame
    obtain ⟨a, xs, rfl, ea, na, oa⟩ := o.tup_inv
    obtain ⟨v1, v2, v3, v4, v5, v6, rfl, o1, o2, o3, o4, o5, o6⟩ := ocs6 oa
    obtain ⟨b, ys, rfl, eb, nb, ob⟩ := o1.tup_inv
    obtain ⟨u1, u2, u3, u4, u5, rfl, p1, p2, p3, p4, p5⟩ := ocs5 ob
    refine ⟨_, rfl, a, _, rfl, ea.sq, rfl, _, _, rfl, _, _, rfl, _, _, rfl, _, _, rfl, _, _, rfl, _, _, rfl, rfl, ?_⟩
    refine ⟨_, rfl, b, _, rfl, eb.sq, rfl, _, _, rfl, _, _, rfl, _, _, rfl, _, _, rfl, _, _, rfl, rfl, ?_⟩
    dsimp only [gName]
    refine st_eq (τ := [some (.ref x), some (.ref a), some (.ref b), some v2, some v3, some v4, some v5, some v6, some u1, some u2, some u3, some u4, some u5, none]) (by rfl) ?_
    refine S_fld I0 sx rfl (D_var (i := 8) rfl p1) L T.n_Frame_asks rfl (by simp) fun H1 I1 => ?_
    refine S_fld I1 sx rfl (D_var (i := 9) rfl (I1.ob sx p2)) L T.n_Frame_paced rfl (by simp) fun H2 I2 => ?_
    refine S_fld I2 sx rfl (D_var (i := 10) rfl (I2.ob sx p3)) L T.n_Frame_refused rfl (by simp) fun H3 I3 => ?_
    refine S_fld I3 sx rfl (D_var (i := 11) rfl (I3.ob sx p4)) L T.n_Frame_notes rfl (by simp) fun H4 I4 => ?_
    refine S_fld I4 sx rfl (D_var (i := 12) rfl (I4.ob sx p5)) L T.n_Frame_steady rfl (by simp) fun H5 I5 => ?_
    refine S_fld I5 sx rfl (D_var (i := 3) rfl (I5.ob sx o2)) L T.n_Frame_plan rfl (by simp) fun H6 I6 => ?_
    refine S_fld I6 sx rfl (D_var (i := 4) rfl (I6.ob sx o3)) L T.n_Frame_counts rfl (by simp) fun H7 I7 => ?_
    refine S_fld I7 sx rfl (D_var (i := 5) rfl (I7.ob sx o4)) L T.n_Frame_courses rfl (by simp) fun H8 I8 => ?_
    refine S_fld I8 sx rfl (D_var (i := 6) rfl (I8.ob sx o5)) L T.n_Frame_letters rfl (by simp) fun H9 I9 => ?_
    refine S_fld I9 sx rfl (D_var (i := 7) rfl (I9.ob sx o6)) L T.n_Frame_senders rfl (by simp) fun Ha Ia => ?_
    refine S_fld Ia sx rfl (d := idleD h.nt) (D_if (T_eqS (D_var (i := 11) rfl (Ia.ob sx p4)) (D_str "first")) (fun e => D_eq (D_tup D_nil (by simp)) (by unfold idleD; rw [if_pos (of_decide_eq_true e)])) (fun e => D_eq (D_int 0) (by unfold idleD; rw [if_neg (of_decide_eq_false e)]))) L T.n_Frame_idle rfl (by simp) fun Hb Ib => ?_
    have wl := ok.wl
    have cts := ok.cts
    refine lc_ins (C := T.C_Moment) (j := 13) (n := h.ws.length + 1) (f := fun i => momF (h.ws.take i) h.cs) (D_eq (D_add (D_lenT (D_var (i := 3) rfl (Ib.ob sx o2))) (D_int 1)) (by rw [List.length_map]; rfl)) (by omega) (fun _ => rfl) Ib.lv (fun i Hc Sc R hi lf qq => ?_) fun vm Hd kd om => ?_
    · have eD : momD [strT (h.ws.take i), intT' h.cs] = momF (h.ws.take i) h.cs := by
        show momF (((h.ws.take i).map Dt.str).map strOf) ((h.cs.map Dt.int).map Lc.intD) = _
        rw [strs_back, ints_back]
      refine make_ins (ds := [strT (h.ws.take i), intT' h.cs]) (D_cons (D_eq (D_slTo (k := i) (D_var (i := 3) rfl (lf.ob (Ib.ob sx o2))) (D_var (i := 13) rfl (.int _))) (by rw [← List.map_take]; rfl)) (D_cons (D_var (i := 4) rfl (lf.ob (Ib.ob sx o3))) D_nil)) ⟨_, _, rfl, by rw [List.length_take]; omega, cts⟩ (Lift.refl lf.live) fun v H2 k2 oi => ?_
      rw [eD] at oi
      exact qq _ _ k2 oi
    · have Id := Ib.same kd
      obtain ⟨fs, hx', F⟩ := Id.at_
      refine ⟨_, rfl, x, _, dx, fs, rfl, hx', L, T.n_Frame_moments, by rw [F.len]; simp, ?_⟩
      rw [F.new (f := "moments") rfl]
      have kb : ButS S Hd (upd Hd x (.ins T.C_Frame dx (fs ++ [(("moments" : Str), vm)]))) := fun b u nb e => by
        have nbx : b ≠ x := by
          intro z
          rw [z] at nb
          exact nb sx
        rw [upd_ne nbx]; exact e
      exact q _ fs vm upd_same (F.map fun _ _ o => o.but kb) (om.but kb) fun b u nb hb => by
        rw [upd_ne nb]; exact Id.but b u nb hb
theorem ho_pl (h : Ho) : h.dt.pl = true := by
  have e1 : (strT h.ws).pl = true := pl_strs _
  have e2 : (intT h.cs).pl = true := pl_ints _
  have e3 : (Dt.tup true (h.os.map intT)).pl = true := pl_of_map (f := intT) (fun a => (pl_ints a : (intT a).pl = true)) _
  have e4 : (intT h.ls).pl = true := pl_ints _
  have e5 : (schemeT h.b0 h.b1 h.b2 h.r h.nt).pl = true := rfl
  show Dt.plAll [schemeT h.b0 h.b1 h.b2 h.r h.nt, strT h.ws, intT h.cs, Dt.tup true (h.os.map intT), intT h.ls, .int h.m] = true
  simp only [Dt.plAll, e1, e2, e3, e4, e5]; rfl
end

/-! ### states, typed -/
abbrev R2T := Int × Int
abbrev R3T := Int × Int × Int
abbrev R4T := Int × Int × Int × Int
def enc2 (r : R2T) : Dt := intT' [r.1, r.2]
def enc3 (r : R3T) : Dt := intT' [r.1, r.2.1, r.2.2]
def enc4 (r : R4T) : Dt := intT' [r.1, r.2.1, r.2.2.1, r.2.2.2]
inductive Rdr where | n (i : Int) | e | l (x : R3T)
deriving DecidableEq
def Rdr.dt : Rdr → Dt
  | .n i => .int i
  | .e => .tup true []
  | .l x => enc3 x
abbrev Stp := Str × List Int
def encS (s : Stp) : Dt := .tup true (.str s.1 :: s.2.map Dt.int)
structure Stt where
  place : Nat
  held : List Int
  way : List R4T
  back : List R4T
  lanes : List (List R3T)
  readers : List Rdr
  sent : List Int
  taken : List R2T
  lost : List R2T
def encL (l : List R3T) : Dt := .tup true (l.map enc3)
def Stt.dt (s : Stt) : Dt := .tup true [.int (s.place : Nat), intT' s.held, .tup true (s.way.map enc4), .tup true (s.back.map enc4), .tup true (s.lanes.map encL), .tup true (s.readers.map Rdr.dt), intT' s.sent, .tup true (s.taken.map enc2), .tup true (s.lost.map enc2)]
def insD (C : Addr) (fs : List (Str × Dt)) : Dt := .ins C (fs.map Prod.fst) (fs.map Prod.snd)
def frD (CF CM : Addr) (h : Ho) : Dt := insD CF (frameF h ++ [(("moments" : Str), .lst ((momsF h).map (insD CM)))])
theorem _root_.Lc.Fds.oc {H : Hp} {S : AS} {fs : List (Str × V)} {ds : List (Str × Dt)} (h : Fds H S fs ds) : fs.map Prod.fst = ds.map Prod.fst ∧ Ocs H S (fs.map Prod.snd) (ds.map Prod.snd) := by
  induction h with
  | nil => exact ⟨rfl, .nil⟩
  | cons o t ih => exact ⟨by rw [List.map_cons, List.map_cons, ih.1], .cons o ih.2⟩
theorem _root_.Lc.InsAt.oc {H : Hp} {S : AS} {C : Addr} {v : V} {ds : List (Str × Dt)} (h : InsAt H S C v ds) : Oc H S v (insD C ds) := by
  obtain ⟨p, dx, fs, rfl, e, n, F⟩ := h
  obtain ⟨a, b⟩ := F.oc
  exact .ins e n a b
theorem _root_.Lc.Inss.oc {H : Hp} {S : AS} {C : Addr} {vs : List V} {ds : List (List (Str × Dt))} (h : Inss H S C vs ds) : Ocs H S vs (ds.map (insD C)) := by
  induction h with
  | nil => exact .nil
  | cons o t ih => exact .cons o.oc ih
theorem FrAt.oc {H : Hp} {S : AS} {CF CM : Addr} {v : V} {h : Ho} (F : FrAt H S CF CM v h) : Oc H S v (frD CF CM h) := by
  obtain ⟨p, dx, fs, vm, rfl, e, n, F, q, ws, rfl, eq, nq, M⟩ := F
  obtain ⟨a, b⟩ := F.oc
  have m : Oc H S (.ref q) (.lst ((momsF h).map (insD CM))) := .lst eq nq M.oc
  refine .ins (C := CF) (dx := dx) e n ?_ ?_
  · rw [List.map_append, List.map_append, a]; rfl
  · rw [List.map_append, List.map_append]
    exact b.append (.cons m .nil)
theorem q_rdr : Enq Rdr.dt where
  pl a := by cases a <;> first | rfl | exact pl_ints _
  eq a b := by
    cases a with
    | n i => cases b with
      | n j => by_cases h : i = j <;> simp [Rdr.dt, pd, PyData.eqv, h]
      | e => simp [Rdr.dt, pd, PyData.eqv]
      | l x => simp [Rdr.dt, enc3, intT', pd, PyData.eqv]
    | e => cases b with
      | n j => simp [Rdr.dt, pd, PyData.eqv]
      | e => simp [Rdr.dt, pd, pdAll, PyData.eqv, PyData.eqvAll]
      | l x => simp [Rdr.dt, enc3, intT', pd, pdAll, PyData.eqv, PyData.eqvAll]
    | l x => cases b with
      | n j => simp [Rdr.dt, enc3, intT', pd, PyData.eqv]
      | e => simp [Rdr.dt, enc3, intT', pd, pdAll, PyData.eqv, PyData.eqvAll]
      | l y =>
        show PyData.eqv (pd (intT' [x.1, x.2.1, x.2.2])) (pd (intT' [y.1, y.2.1, y.2.2])) = _
        rw [q_rows.eq]
        refine decide_eq_decide.mpr ⟨fun h => ?_, fun h => ?_⟩
        · obtain ⟨a, b, c⟩ := x
          obtain ⟨d, e, f⟩ := y
          simp at h
          obtain ⟨rfl, rfl, rfl⟩ := h
          rfl
        · cases h; rfl
  sh a := by
    cases a with
    | n i => rfl
    | e => rfl
    | l x => exact q_rows.sh _
  dp a := by
    cases a with
    | n i => show PyData.depth (.int i) ≤ 8; simp [PyData.depth]
    | e => show PyData.depth (.tuple []) ≤ 8; simp [PyData.depth, PyData.depthAll]
    | l x => exact q_rows.dp _
theorem q_2 : Enq enc2 := q_rows.inj (fun r : R2T => [r.1, r.2]) fun a b h => by
  obtain ⟨a, b⟩ := a; rename_i y; obtain ⟨c, d⟩ := y; simp at h; obtain ⟨rfl, rfl⟩ := h; rfl
theorem q_3 : Enq enc3 := q_rows.inj (fun r : R3T => [r.1, r.2.1, r.2.2]) fun a b h => by
  obtain ⟨a, b, c⟩ := a; rename_i y; obtain ⟨d, e, f⟩ := y; simp at h; obtain ⟨rfl, rfl, rfl⟩ := h; rfl
theorem q_4 : Enq enc4 := q_rows.inj (fun r : R4T => [r.1, r.2.1, r.2.2.1, r.2.2.2]) fun a b h => by
  obtain ⟨a, b, c, d⟩ := a; rename_i y; obtain ⟨e, f, g, i⟩ := y; simp at h; obtain ⟨rfl, rfl, rfl, rfl⟩ := h; rfl
theorem map_get {α β : Type} (f : α → β) {l : List α} {n : Nat} (z : α) (h : n < l.length) : (l.map f)[n]? = some (f (l.getD n z)) := by
  rw [List.getElem?_map, List.getD_eq_getElem?_getD, List.getElem?_eq_getElem h]; rfl
/-- is a lane empty -/
theorem E_emp {ρ : Rho} {K : PySem.W.Frag} {ta tb : TE} {l : List R3T} (ha : Ep ta ρ (encL l)) (hb : Ep tb ρ (.tup true [])) : Ep (tOp (rNeD K) ta tb) ρ (.bl (!l.isEmpty)) := fun H S σ en H1 S1 Q x qq =>
  ha.go (en.lift x) fun v H2 k o => hb.go ((en.lift x).same k) fun u H3 k3 o3 => by
    have pl : (encL l).pl = true := pl_of_map q_3.pl l
    refine ⟨_, _, (o.same k3).dp pl, o3.dp, ?_, by rfl, ?_⟩
    · show SeqAt.shaped (.tuple (pdAll (l.map enc3))) = true
      rw [pdAll_map]
      have h := q_3.shaped l
      unfold SeqAt.shaped at h ⊢
      simpa [PyData.canLay0, PyData.depth] using h
    · have e : (!PyData.eqv (pd (encL l)) (pd (.tup true []))) = !l.isEmpty := by
        cases l with
        | nil => rfl
        | cons a r => rfl
      rw [e]; exact qq _ _ (k.trans k3) (.bl _)
/-! ### the lanes of a moment -/
def lanI (n : Nat) (p : Int → Bool) : List Int := ((List.range n).map fun i : Nat => (i : Int)).filter p
theorem lanesD_eq (n : Nat) (p : Int → Bool) : lanesD n p = (lanI n p).map Dt.int := by
  unfold lanesD lanI upto
  rw [List.filterMap_map, List.filter_map, List.map_map]
  induction List.range n with
  | nil => rfl
  | cons i r ih =>
    by_cases c : p (i : Int) = true
    · have a : ((fun d => if p (Lc.intD d) = true then some d else none) ∘ fun i : Nat => Dt.int (i : Int)) i = some (.int (i : Int)) := if_pos c
      have b : (p ∘ fun i : Nat => (i : Int)) i = true := c
      rw [List.filterMap_cons, a, List.filter_cons, if_pos b, List.map_cons]
      exact congrArg _ ih
    · have a : ((fun d => if p (Lc.intD d) = true then some d else none) ∘ fun i : Nat => Dt.int (i : Int)) i = none := if_neg c
      have b : ¬ (p ∘ fun i : Nat => (i : Int)) i = true := c
      rw [List.filterMap_cons, a, List.filter_cons, if_neg b]
      exact ih
theorem mem_lanI {n : Nat} {p : Int → Bool} {l : Int} : l ∈ lanI n p ↔ (0 ≤ l ∧ l < n) ∧ p l = true := by
  unfold lanI
  rw [List.mem_filter, List.mem_map]
  constructor
  · rintro ⟨⟨i, hi, rfl⟩, h⟩
    rw [List.mem_range] at hi
    exact ⟨⟨by omega, by omega⟩, h⟩
  · rintro ⟨⟨h0, h1⟩, h⟩
    exact ⟨⟨l.toNat, by rw [List.mem_range]; omega, by omega⟩, h⟩
def readI (ws : List Str) (cs : List Int) : List Int := lanI (maxL cs).toNat fun l => servedB ((cs.drop (lastS ws "drop")).take (lastS ws "open" + 1 - lastS ws "drop")) l
def deadI (ws : List Str) (cs : List Int) : List Int := lanI (maxL cs).toNat fun l => !servedB (cs.drop (lastS ws "drop")) l
theorem lanI_len (n : Nat) (p : Int → Bool) : (lanI n p).length ≤ n := by
  unfold lanI
  have := List.length_filter_le p ((List.range n).map fun i : Nat => (i : Int))
  rw [List.length_map, List.length_range] at this
  exact this

local macro_rules | `(tactic| walk_at "M") => `(tactic| first
  | (with_reducible exact E_nil)
  | ((with_reducible apply E_cons) <;> walk_at "M")
  | ((with_reducible apply E_starT) <;> (walk_at "M"; done))
  | ((with_reducible apply E_starL) <;> walk_at "M")
  | ((with_reducible apply E_own); exact rfl)
  | ((with_reducible apply Ef.l); first | ((with_reducible apply E_lst) <;> walk_at "M") | ((with_reducible apply E_slLTo) <;> walk_at "M") | ((with_reducible apply E_slLFrom) <;> walk_at "M") | ((with_reducible apply E_slLMid) <;> walk_at "M") | ((with_reducible apply E_catL) <;> walk_at "M"))
  | ((with_reducible apply E_lst) <;> walk_at "M")
  | ((with_reducible apply E_slLTo) <;> walk_at "M")
  | ((with_reducible apply E_slLFrom) <;> walk_at "M")
  | ((with_reducible apply E_slLMid) <;> walk_at "M")
  | ((with_reducible apply E_catL) <;> walk_at "M")
  | ((with_reducible apply E_tand) <;> walk_at "M")
  | ((with_reducible apply E_tor) <;> walk_at "M")
  | ((with_reducible apply E_not) <;> walk_at "M")
  | ((with_reducible apply E_test) <;> walk_at "M")
  | ((with_reducible apply E_val) <;> walk_at "M")
  | ((with_reducible apply E_var); exact rfl)
  | ((with_reducible apply Lc.E_intE); exact rfl)
  | ((with_reducible apply Lc.E_strE); exact rfl)
  | ((with_reducible apply Lc.E_blE); exact rfl)
  | ((with_reducible apply Lc.E_nonE); exact rfl)
  | ((with_reducible apply E_tup) <;> walk_at "M")
  | ((with_reducible apply E_add) <;> walk_at "M")
  | ((with_reducible apply E_sub) <;> walk_at "M")
  | ((with_reducible apply E_lt) <;> walk_at "M")
  | ((with_reducible apply E_le) <;> walk_at "M")
  | ((with_reducible apply E_gt) <;> walk_at "M")
  | ((with_reducible apply E_ge) <;> walk_at "M")
  | ((with_reducible apply E_eqI) <;> (walk_at "M"; done))
  | ((with_reducible apply E_eqS) <;> (walk_at "M"; done))
  | ((with_reducible apply E_eqB) <;> (walk_at "M"; done))
  | ((with_reducible apply E_neI) <;> (walk_at "M"; done))
  | ((with_reducible apply E_neS) <;> (walk_at "M"; done))
  | ((with_reducible apply E_neB) <;> (walk_at "M"; done))
  | ((with_reducible apply E_and) <;> walk_at "M")
  | ((with_reducible apply E_or) <;> walk_at "M")
  | ((with_reducible apply E_neg) <;> walk_at "M")
  | ((with_reducible apply E_mod) <;> walk_at "M")
  | ((with_reducible apply E_ixTi) <;> walk_at "M")
  | ((with_reducible apply E_last) <;> walk_at "M")
  | ((with_reducible apply E_ixLi) <;> walk_at "M")
  | ((with_reducible apply E_cat) <;> walk_at "M")
  | ((with_reducible apply E_tupOf) <;> walk_at "M")
  | ((with_reducible apply E_lenT) <;> (walk_at "M"; done))
  | ((with_reducible apply E_lenL) <;> walk_at "M")
  | ((with_reducible apply Ef.p); first | ((with_reducible apply E_lst) <;> walk_at "M") | ((with_reducible apply E_slLTo) <;> walk_at "M") | ((with_reducible apply E_slLFrom) <;> walk_at "M") | ((with_reducible apply E_slLMid) <;> walk_at "M") | ((with_reducible apply E_catL) <;> walk_at "M"))
  | ((with_reducible apply Ep.l) <;> walk_at "M")
  | ((with_reducible intro _); walk_at "M") | exact rfl | assumption | (simp; done) | decide | omega | skip)
local macro_rules | `(tactic| walk_at "E") => `(tactic| first
  | ((with_reducible apply E_eq) <;> walk_at "M")
  | ((with_reducible apply Ea.eq) <;> walk_at "M")
  | ((with_reducible apply El.eq) <;> walk_at "M")
  | ((with_reducible apply Ef.eq) <;> walk_at "M")
  | ((with_reducible apply Et.eq) <;> walk_at "M")
  | walk_at "M")

section
variable {P : Program} {w : World} {K : PySem.W.Frag} {mg : Str → Option Value} {base : Heap}
abbrev moD (CM : Addr) (ws : List Str) (cs : List Int) : Dt := insD CM (momF ws cs)
/-- good counts are few -/
theorem max4 {h : Ho} {k : Nat} (ok : h.Ok k) : 1 ≤ maxL h.cs ∧ maxL h.cs ≤ 4 := max_bound ok.cts
def mayB (h : Ho) (ws : List Str) (e : Int) : Bool := decide (e < (if ((lastS ws "open" : Nat) : Int) > (lastS ws "tell" : Nat) then ((lastS ws "open" : Nat) : Int) else ((lastS ws "tell" : Nat) : Int))) && (decide (e < 0) || (h.b0 || decide (e < (lastS ws "close" : Nat))))
theorem ok_may_learn (T : Txt K mg) : FnOk P w K mg base CX0 1 T.a_may_learn T.d_may_learn ["frame", "moment", "edition"] (spTy (fun a : Ho × List Str × Int => [frD T.C_Frame T.C_Moment a.1, moD T.C_Moment a.2.1 a.1.cs, .int a.2.2]) (fun _ => True) fun a => .bl (mayB a.1 a.2.1 a.2.2)) := by
  refine T.F_may_learn.ok sc_may_learn (fun vs H Q E h => ?_) (fun cdv A outer s H vs Q E hr h => ?_)
  · obtain ⟨S, a, o, _⟩ := h
    exact o.len
  · obtain ⟨S, ⟨h, ws, e⟩, o, lv, hp, q⟩ := h
    refine ⟨_, (pss_one (ps_ret (pe_and (pe_cmpR op_lt (pv 2) (pe_fld (pv 1) rfl) (nomark _)) (pe_one (pe_or (pe_cmpR op_lt (pv 2) pe_int (nomark _)) (pe_or (pe_fld (pv 0) rfl) (pe_one (pe_cmpR op_lt (pv 2) (pe_fld (pv 1) rfl) (nomark _))))))))), ?_⟩
    refine fn_body lv o ?_ q
    exact Sv_ret (E_and (E_lt (E_var rfl) (E_fld (E_var rfl) T.L_Moment T.n_Moment_newest rfl)) fun _ => E_or (E_lt (E_var rfl) (E_int 0)) fun _ => E_or (E_fld (E_var rfl) T.L_Frame T.n_Frame_asks rfl) fun _ => E_lt (E_var rfl) (E_fld (E_var rfl) T.L_Moment T.n_Moment_closed rfl)) rfl
def idleR (nt : Str) : Rdr := if nt = ("first" : Str) then .e else .n 0
theorem idle_dt (nt : Str) : idleD nt = (idleR nt).dt := by
  unfold idleD idleR
  split <;> rfl
def stp1 (k : Str) (l : Int) : Stp := (k, [l])
def rdAt (rs : List Rdr) (l : Int) : Rdr := rs.getD l.toNat .e
def lnAt (ls : List (List R3T)) (l : Int) : List R3T := ls.getD l.toNat []
theorem rd_get {rs : List Rdr} {l : Int} {n : Nat} (h0 : 0 ≤ l ∧ l < n) (hn : n ≤ rs.length) : (rs.map Rdr.dt)[l.toNat]? = some (rdAt rs l).dt := map_get Rdr.dt .e (by omega)
theorem ln_get {rs : List (List R3T)} {l : Int} {n : Nat} (h0 : 0 ≤ l ∧ l < n) (hn : n ≤ rs.length) : (rs.map encL)[l.toNat]? = some (encL (lnAt rs l)) := map_get encL [] (by omega)
def handS (h : Ho) (ws : List Str) (rs : List Rdr) : List Stp := if h.b2 || decide (h.nt = ("with" : Str)) then [] else ((readI ws h.cs).filter fun l => !decide (rdAt rs l = idleR h.nt)).map (stp1 "hand")
theorem map_stp (ls : List Int) (k : Str) : (ls.map fun l => Dt.tup true [.str k, .int l]) = (ls.map (stp1 k)).map encS := by
  rw [List.map_map]; rfl
/-- the lanes that can be read -/
theorem E_readable (T : Txt K mg) {ρ : Rho} {i : Nat} {ws : List Str} {cs : List Int} {K' : PySem.W.Frag} (e : K' = K) (h : ρ[i]? = some (.d (moD T.C_Moment ws cs))) : Ep (tFld K' (tVar i) "readable") ρ (.lst ((readI ws cs).map Dt.int)) := by
  subst e
  refine E_eq (E_fld (E_var h) T.L_Moment T.n_Moment_readable rfl) ?_
  exact congrArg Dt.lst (lanesD_eq _ _)
theorem ok_hand_steps (T : Txt K mg) : FnOk P w K mg base CX0 1 T.a_hand_steps T.d_hand_steps ["frame", "moment", "readers"] (spTy (fun a : Ho × List Str × List Rdr => [frD T.C_Frame T.C_Moment a.1, moD T.C_Moment a.2.1 a.1.cs, .tup true (a.2.2.map Rdr.dt)]) (fun a => a.1.Ok 3 ∧ (maxL a.1.cs).toNat ≤ a.2.2.length) fun a => .lst ((handS a.1 a.2.1 a.2.2).map encS)) := by
  refine T.F_hand_steps.ok sc_hand_steps (fun vs H Q E h => ?_) (fun cdv A outer s H vs Q E hr h => ?_)
  · obtain ⟨S, a, o, _⟩ := h
    exact o.len
  · obtain ⟨S, ⟨h, ws, rs⟩, o, lv, ⟨ok, hl⟩, q⟩ := h
    obtain ⟨m1, m2⟩ := max4 ok
    refine ⟨_, (pss_cons (ps_if (PW.pt (pw_or (pt_val (pe_fld (pv 0) rfl)) (pw_or1 (pt_cmpR op_eq (pe_fld (pv 0) rfl) pe_str (nomark _)))))
      (pss_one (ps_ret (pe_lst pa_nil)))
      pss_nil)
      (pss_one (ps_ret (pe_lc (own := [("lane", 3)]) (g := gName 3) (by rfl) sc_hand_steps.nd (pi_list (pe_fld (pv 1) rfl)) (blkOk_by (own := [("lane", 3)]) (N := ["frame", "moment", "readers", "lane"]) (sc := defScope s_hand_steps) (by decide +kernel)) (fun _ _ _ _ _ => (pg_name (i := 3) sc_hand_steps.nd rfl (Or.inl rfl))) (fun _ _ _ _ _ => (pts_one (pt_cmpR (op_neDK K hr.units) (pe_ix (ixT K) (pv 2) (pv 3) (fun _ _ => rfl)) (pe_fldK K (pv 0) rfl) (nomark _)))) (fun _ _ _ _ _ => (pe_tupF (pa_cons pe_str (pa_cons (pv 3) pa_nil)))))))), ?_⟩
    refine fn_body lv o ?_ q
    refine Sv_seq (fun r => r = _ ∧ (h.b2 || decide (h.nt = ("with" : Str))) = false) (Sv_if (b := h.b2 || decide (h.nt = ("with" : Str))) (E_tor (E_val (E_fld (E_var rfl) T.L_Frame T.n_Frame_steady rfl)) fun _ => E_test (E_eqS (E_fld (E_var rfl) T.L_Frame T.n_Frame_notes rfl) (E_str _))) (fun z => Sv_ret (E_lst E_nil (by simp)).p ?_) fun z => Sv_skip ⟨rfl, z⟩) fun r hr => ?_
    · show _ = Dt.lst ((handS h ws rs).map encS)
      unfold handS
      rw [if_pos z]; rfl
    · obtain ⟨rfl, z⟩ := hr
      refine Sv_ret (E_eq (E_lcA (0 : Int) (E_readable T rfl rfl) (Nat.le_trans (lanI_len _ _) (by omega)) (p := fun l => !decide (rdAt rs l = idleR h.nt)) (f := fun l => .tup true [.str "hand", .int l]) (fun l hm => ?_) fun l hm _ => ?_).p ?_) rfl
      · obtain ⟨h0, _⟩ := mem_lanI.mp hm
        exact E_test (E_neQ q_rdr (E_ixTi (E_var rfl) (E_var rfl) h0.1 (rd_get h0 hl)) (E_eq (E_fld (E_var rfl) T.L_Frame T.n_Frame_idle rfl) (idle_dt _)))
      · exact E_tup (E_cons (E_str _) (E_cons (E_var rfl) E_nil)) (by simp)
      · show Dt.lst _ = Dt.lst ((handS h ws rs).map encS)
        unfold handS
        rw [if_neg (by rw [z]; decide), map_stp]
end

section
variable {P : Program} {w : World} {K : PySem.W.Frag} {mg : Str → Option Value} {base : Heap}
def noteS (h : Ho) (ws : List Str) (ls : List (List R3T)) (rs : List Rdr) : List Stp :=
  if h.nt = ("behind" : Str) then ((readI ws h.cs).filter fun l => !decide (rdAt rs l = .n 0)).map (stp1 "note")
  else if h.nt = ("first" : Str) then ((readI ws h.cs).filter fun l => decide (rdAt rs l = .e) && !(lnAt ls l).isEmpty).map (stp1 "note") else []
def rdI : Rdr → Int
  | .n i => i
  | _ => 0
def takeS (h : Ho) (ws : List Str) (ls : List (List R3T)) (rs : List Rdr) : List Stp :=
  if h.nt = ("first" : Str) then ((readI ws h.cs).filter fun l => !decide (rdAt rs l = .e)).map (stp1 "take")
  else ((readI ws h.cs).filter fun l => decide (rdI (rdAt rs l) < ((lnAt ls l).length : Nat))).map (stp1 "take")
/-- what readers stand at -/
structure RdOk (h : Ho) (ls : List (List R3T)) (rs : List Rdr) : Prop where
  l1 : ls.length = (maxL h.cs).toNat
  l2 : rs.length = (maxL h.cs).toNat
  n : h.nt ≠ ("first" : Str) → ∀ r ∈ rs, ∃ i, r = .n i
abbrev encM (CF CM : Addr) (a : Ho × List Str × List (List R3T) × List Rdr) : List Dt := [frD CF CM a.1, moD CM a.2.1 a.1.cs, .tup true (a.2.2.1.map encL), .tup true (a.2.2.2.map Rdr.dt)]
theorem ok_note_steps (T : Txt K mg) : FnOk P w K mg base CX0 1 T.a_note_steps T.d_note_steps ["frame", "moment", "lanes", "readers"] (spTy (encM T.C_Frame T.C_Moment) (fun a => a.1.Ok 3 ∧ RdOk a.1 a.2.2.1 a.2.2.2) fun a => .lst ((noteS a.1 a.2.1 a.2.2.1 a.2.2.2).map encS)) := by
  refine T.F_note_steps.ok sc_note_steps (fun vs H Q E h => ?_) (fun cdv A outer s H vs Q E hr h => ?_)
  · obtain ⟨S, a, o, _⟩ := h
    exact o.len
  · obtain ⟨S, ⟨h, ws, ls, rs⟩, o, lv, ⟨ok, rk⟩, q⟩ := h
    obtain ⟨m1, m2⟩ := max4 ok
    have l1 : ls.length = (maxL h.cs).toNat := rk.l1
    have l2 : rs.length = (maxL h.cs).toNat := rk.l2
    have rdg : ∀ l : Int, 0 ≤ l ∧ l < ((maxL h.cs).toNat : Nat) → (rs.map Rdr.dt)[l.toNat]? = some (rdAt rs l).dt := fun l h0 => rd_get h0 (by omega)
    have lng : ∀ l : Int, 0 ≤ l ∧ l < ((maxL h.cs).toNat : Nat) → (ls.map encL)[l.toNat]? = some (encL (lnAt ls l)) := fun l h0 => ln_get h0 (by omega)
    have lm : ∀ l : Int, 0 ≤ l ∧ l < ((maxL h.cs).toNat : Nat) → rdAt rs l ∈ rs := fun l h0 => by
      unfold rdAt
      rw [List.getD_eq_getElem?_getD, List.getElem?_eq_getElem (by omega)]
      exact List.getElem_mem _
    refine ⟨_, (pss_cons (ps_if (pt_cmpR op_eq (pe_fld (pv 0) rfl) pe_str (nomark _))
      (pss_one (ps_ret (pe_lc (own := [("lane", 4)]) (g := gName 4) (by rfl) sc_note_steps.nd (pi_list (pe_fld (pv 1) rfl)) (blkOk_by (own := [("lane", 4)]) (N := ["frame", "moment", "lanes", "readers", "lane"]) (sc := defScope s_note_steps) (by decide +kernel)) (fun _ _ _ _ _ => (pg_name (i := 4) sc_note_steps.nd rfl (Or.inl rfl))) (fun _ _ _ _ _ => (pts_one (pt_cmpR (op_neDK K hr.units) (pe_ix (ixT K) (pv 3) (pv 4) (fun _ _ => rfl)) pe_int (nomark _)))) (fun _ _ _ _ _ => (pe_tupF (pa_cons pe_str (pa_cons (pv 4) pa_nil)))))))
      pss_nil)
      (pss_cons (ps_if (pt_cmpR op_eq (pe_fld (pv 0) rfl) pe_str (nomark _))
      (pss_one (ps_ret (pe_lc (own := [("lane", 4)]) (g := gName 4) (by rfl) sc_note_steps.nd (pi_list (pe_fld (pv 1) rfl)) (blkOk_by (own := [("lane", 4)]) (N := ["frame", "moment", "lanes", "readers", "lane"]) (sc := defScope s_note_steps) (by decide +kernel)) (fun _ _ _ _ _ => (pg_name (i := 4) sc_note_steps.nd rfl (Or.inl rfl))) (fun _ _ _ _ _ => (pts_one (PW.pt (pw_and (pt_cmpR (op_eqDK K hr.units) (pe_ix (ixT K) (pv 3) (pv 4) (fun _ _ => rfl)) (pe_tupF pa_nil) (nomark _)) (pw_and1 (pt_cmpR (op_neDK K hr.units) (pe_ix (ixT K) (pv 2) (pv 4) (fun _ _ => rfl)) (pe_tupF pa_nil) (nomark _))))))) (fun _ _ _ _ _ => (pe_tupF (pa_cons pe_str (pa_cons (pv 4) pa_nil)))))))
      pss_nil)
      (pss_one (ps_ret (pe_lst pa_nil))))), ?_⟩
    refine fn_body lv o ?_ q
    have n1 := fun (X : Prop) (h : X) => h
    refine Sv_seq (fun r => r = _ ∧ ¬ h.nt = ("behind" : Str)) (Sv_if (b := decide (h.nt = ("behind" : Str))) (E_test (E_eqS (E_fld (E_var rfl) T.L_Frame T.n_Frame_notes rfl) (E_str _))) (fun z => Sv_ret (E_lcA (0 : Int) (E_readable T rfl rfl) (Nat.le_trans (lanI_len _ _) (by omega)) (p := fun l => !decide (rdAt rs l = .n 0)) (f := fun l => .tup true [.str "note", .int l]) (fun l hm => ?_) fun l hm _ => ?_).p ?_) fun z => Sv_skip ⟨rfl, of_decide_eq_false z⟩) fun r hr => ?_
    · obtain ⟨h0, _⟩ := mem_lanI.mp hm
      exact E_test (E_neQ q_rdr (E_ixTi (E_var rfl) (E_var rfl) h0.1 (rdg _ h0)) (E_eq (E_int 0) (by rfl)))
    · exact E_tup (E_cons (E_str _) (E_cons (E_var rfl) E_nil)) (by simp)
    · show Dt.lst _ = Dt.lst ((noteS h ws ls rs).map encS)
      unfold noteS
      rw [if_pos (of_decide_eq_true z), map_stp]
    obtain ⟨rfl, z1⟩ := hr
    refine Sv_seq (fun r => r = _ ∧ ¬ h.nt = ("first" : Str)) (Sv_if (b := decide (h.nt = ("first" : Str))) (E_test (E_eqS (E_fld (E_var rfl) T.L_Frame T.n_Frame_notes rfl) (E_str _))) (fun z => Sv_ret (E_lcA (0 : Int) (E_readable T rfl rfl) (Nat.le_trans (lanI_len _ _) (by omega)) (p := fun l => decide (rdAt rs l = .e) && !(lnAt ls l).isEmpty) (f := fun l => .tup true [.str "note", .int l]) (fun l hm => ?_) fun l hm _ => ?_).p ?_) fun z => Sv_skip ⟨rfl, of_decide_eq_false z⟩) fun r hr => ?_
    · obtain ⟨h0, _⟩ := mem_lanI.mp hm
      exact E_tand (E_test (E_eqQ q_rdr (E_ixTi (E_var rfl) (E_var rfl) h0.1 (rdg _ h0)) (E_eq (E_tup E_nil (by simp)) (by rfl)))) fun _ => E_test (E_emp (E_ixTi (E_var rfl) (E_var rfl) h0.1 (lng _ h0)) (E_tup E_nil (by simp)))
    · exact E_tup (E_cons (E_str _) (E_cons (E_var rfl) E_nil)) (by simp)
    · show Dt.lst _ = Dt.lst ((noteS h ws ls rs).map encS)
      unfold noteS
      rw [if_neg z1, if_pos (of_decide_eq_true z), map_stp]
    obtain ⟨rfl, z2⟩ := hr
    refine Sv_ret (E_lst E_nil (by simp)).p ?_
    show _ = Dt.lst ((noteS h ws ls rs).map encS)
    unfold noteS
    rw [if_neg z1, if_neg z2]; rfl
theorem ok_take_steps (T : Txt K mg) : FnOk P w K mg base CX0 1 T.a_take_steps T.d_take_steps ["frame", "moment", "lanes", "readers"] (spTy (encM T.C_Frame T.C_Moment) (fun a => a.1.Ok 3 ∧ RdOk a.1 a.2.2.1 a.2.2.2) fun a => .lst ((takeS a.1 a.2.1 a.2.2.1 a.2.2.2).map encS)) := by
  refine T.F_take_steps.ok sc_take_steps (fun vs H Q E h => ?_) (fun cdv A outer s H vs Q E hr h => ?_)
  · obtain ⟨S, a, o, _⟩ := h
    exact o.len
  · obtain ⟨S, ⟨h, ws, ls, rs⟩, o, lv, ⟨ok, rk⟩, q⟩ := h
    obtain ⟨m1, m2⟩ := max4 ok
    have l1 : ls.length = (maxL h.cs).toNat := rk.l1
    have l2 : rs.length = (maxL h.cs).toNat := rk.l2
    have rdg : ∀ l : Int, 0 ≤ l ∧ l < ((maxL h.cs).toNat : Nat) → (rs.map Rdr.dt)[l.toNat]? = some (rdAt rs l).dt := fun l h0 => rd_get h0 (by omega)
    have lng : ∀ l : Int, 0 ≤ l ∧ l < ((maxL h.cs).toNat : Nat) → (ls.map encL)[l.toNat]? = some (encL (lnAt ls l)) := fun l h0 => ln_get h0 (by omega)
    have lm : ∀ l : Int, 0 ≤ l ∧ l < ((maxL h.cs).toNat : Nat) → rdAt rs l ∈ rs := fun l h0 => by
      unfold rdAt
      rw [List.getD_eq_getElem?_getD, List.getElem?_eq_getElem (by omega)]
      exact List.getElem_mem _
    refine ⟨_, (pss_cons (ps_if (pt_cmpR op_eq (pe_fld (pv 0) rfl) pe_str (nomark _))
      (pss_one (ps_ret (pe_lc (own := [("lane", 4)]) (g := gName 4) (by rfl) sc_take_steps.nd (pi_list (pe_fld (pv 1) rfl)) (blkOk_by (own := [("lane", 4)]) (N := ["frame", "moment", "lanes", "readers", "lane"]) (sc := defScope s_take_steps) (by decide +kernel)) (fun _ _ _ _ _ => (pg_name (i := 4) sc_take_steps.nd rfl (Or.inl rfl))) (fun _ _ _ _ _ => (pts_one (pt_cmpR (op_neDK K hr.units) (pe_ix (ixT K) (pv 3) (pv 4) (fun _ _ => rfl)) (pe_tupF pa_nil) (nomark _)))) (fun _ _ _ _ _ => (pe_tupF (pa_cons pe_str (pa_cons (pv 4) pa_nil)))))))
      pss_nil)
      (pss_one (ps_ret (pe_lc (own := [("lane", 4)]) (g := gName 4) (by rfl) sc_take_steps.nd (pi_list (pe_fld (pv 1) rfl)) (blkOk_by (own := [("lane", 4)]) (N := ["frame", "moment", "lanes", "readers", "lane"]) (sc := defScope s_take_steps) (by decide +kernel)) (fun _ _ _ _ _ => (pg_name (i := 4) sc_take_steps.nd rfl (Or.inl rfl))) (fun _ _ _ _ _ => (pts_one (pt_cmpR op_lt (pe_ix (ixT K) (pv 3) (pv 4) (fun _ _ => rfl)) (pe_callB (lenK K) (by rfl) T.z_len (by decide +kernel) (pa_cons (pe_ix (ixT K) (pv 2) (pv 4) (fun _ _ => rfl)) pa_nil)) (nomark _)))) (fun _ _ _ _ _ => (pe_tupF (pa_cons pe_str (pa_cons (pv 4) pa_nil)))))))), ?_⟩
    refine fn_body lv o ?_ q
    refine Sv_seq (fun r => r = _ ∧ ¬ h.nt = ("first" : Str)) (Sv_if (b := decide (h.nt = ("first" : Str))) (E_test (E_eqS (E_fld (E_var rfl) T.L_Frame T.n_Frame_notes rfl) (E_str _))) (fun z => Sv_ret (E_lcA (0 : Int) (E_readable T rfl rfl) (Nat.le_trans (lanI_len _ _) (by omega)) (p := fun l => !decide (rdAt rs l = .e)) (f := fun l => .tup true [.str "take", .int l]) (fun l hm => ?_) fun l hm _ => ?_).p ?_) fun z => Sv_skip ⟨rfl, of_decide_eq_false z⟩) fun r hr => ?_
    · obtain ⟨h0, _⟩ := mem_lanI.mp hm
      exact E_test (E_neQ q_rdr (E_ixTi (E_var rfl) (E_var rfl) h0.1 (rdg _ h0)) (E_eq (E_tup E_nil (by simp)) (by rfl)))
    · exact E_tup (E_cons (E_str _) (E_cons (E_var rfl) E_nil)) (by simp)
    · show Dt.lst _ = Dt.lst ((takeS h ws ls rs).map encS)
      unfold takeS
      rw [if_pos (of_decide_eq_true z), map_stp]
    obtain ⟨rfl, z1⟩ := hr
    refine Sv_ret (E_eq (E_lcA (0 : Int) (E_readable T rfl rfl) (Nat.le_trans (lanI_len _ _) (by omega)) (p := fun l => decide (rdI (rdAt rs l) < ((lnAt ls l).length : Nat))) (f := fun l => .tup true [.str "take", .int l]) (fun l hm => ?_) fun l hm _ => ?_).p ?_) rfl
    · obtain ⟨h0, _⟩ := mem_lanI.mp hm
      have hr : ∃ i, rdAt rs l = .n i := rk.n z1 _ (lm _ h0)
      obtain ⟨i, ei⟩ := hr
      rw [ei]
      refine E_test (E_lt (E_eq (E_ixTi (E_var rfl) (E_var rfl) h0.1 (rdg _ h0)) (by rw [ei]; rfl)) (E_eq (E_lenT (E_ixTi (E_var rfl) (E_var rfl) h0.1 (lng _ h0))) ?_))
      rw [List.length_map]
    · exact E_tup (E_cons (E_str _) (E_cons (E_var rfl) E_nil)) (by simp)
    · show Dt.lst _ = Dt.lst ((takeS h ws ls rs).map encS)
      unfold takeS
      rw [if_neg z1, map_stp]
/-! ### again -/
def againF (held : List Int) (acc : List Stp × Int) (r : R4T) : List Stp × Int :=
  (if r.2.2.1 ≠ acc.2 ∧ r.2.1 < held.getD r.1.toNat 0 then acc.1 ++ [(("again" : Str), [r.2.2.1, r.2.2.2])] else acc.1, r.2.2.1)
def againS (held : List Int) (back : List R4T) : List Stp := (back.foldl (againF held) ([], -1)).1
theorem again_len (held : List Int) : ∀ (back : List R4T) (acc : List Stp × Int), (back.foldl (againF held) acc).1.length ≤ acc.1.length + back.length
  | [], acc => by simp
  | r :: t, acc => by
    rw [List.foldl_cons, List.length_cons]
    have h := again_len held t (againF held acc r)
    have h2 : (againF held acc r).1.length ≤ acc.1.length + 1 := by
      unfold againF
      dsimp only
      split
      · simp
      · omega
    omega
theorem fold_take {α β : Type} (f : β → α → β) (b : β) {l : List α} {i : Nat} {a : α} (h : l[i]? = some a) : (l.take (i + 1)).foldl f b = f ((l.take i).foldl f b) a := by
  rw [List.take_add_one, h, List.foldl_append]; rfl
theorem getD_of {α : Type} {l : List α} {i : Nat} {a z : α} (h : l[i]? = some a) : l.getD i z = a := by
  rw [List.getD_eq_getElem?_getD, h]; rfl
theorem ok_again_steps (T : Txt K mg) : FnOk P w K mg base CX0 1 T.a_again_steps T.d_again_steps ["held", "back"] (spTy (fun a : List Int × List R4T => [intT' a.1, .tup true (a.2.map enc4)]) (fun a => a.2.length ≤ 1000 ∧ ∀ r ∈ a.2, 0 ≤ r.1 ∧ r.1.toNat < a.1.length) fun a => .lst ((againS a.1 a.2).map encS)) := by
  refine T.F_again_steps.ok sc_again_steps (fun vs H Q E h => ?_) (fun cdv A outer s H vs Q E hr h => ?_)
  · obtain ⟨S, a, o, _⟩ := h
    exact o.len
  · obtain ⟨S, ⟨held, back⟩, o, lv, ⟨hb, hh⟩, q⟩ := h
    have hb : back.length ≤ 1000 := hb
    refine ⟨_, (pss_cons (ps_set (i := 2) sc_again_steps.nd rfl (Or.inl rfl) (pe_lst pa_nil))
      (pss_cons (ps_set (i := 3) sc_again_steps.nd rfl (Or.inl rfl) (pe_un un_neg pe_int))
      (pss_cons (ps_for PassesOwn.never rfl (pi_tup (pv 1)) (pg_tup rfl (pgs_cons (pg_name (i := 4) sc_again_steps.nd rfl (Or.inl rfl)) (pgs_cons (pg_name (i := 5) sc_again_steps.nd rfl (Or.inl rfl)) (pgs_cons (pg_name (i := 6) sc_again_steps.nd rfl (Or.inl rfl)) (pgs_cons (pg_name (i := 7) sc_again_steps.nd rfl (Or.inl rfl)) pgs_nil)))))
      (pss_cons (ps_if (PW.pt (pw_and (pt_cmpR op_ne (pv 6) (pv 3) (nomark _)) (pw_and1 (pt_cmpR op_gt (pe_ix (ixT K) (pv 0) (pv 4) (fun _ _ => rfl)) (pv 5) (nomark _)))))
      (pss_one (ps_expr (pe_bm PySem.F.plainAttrs_list PySem.F.slot_list_append PySem.F.type_list_append mt_append (pv 2) (pa_cons (pe_tupF (pa_cons pe_str (pa_cons (pv 6) (pa_cons (pv 7) pa_nil)))) pa_nil))))
      pss_nil)
      (pss_one (ps_set (i := 3) sc_again_steps.nd rfl (Or.inl rfl) (pv 6)))))
      (pss_one (ps_ret (pv 2)))))), ?_⟩
    refine fn_body lv o ?_ q
    refine Sv_newT (ds := []) (E_lst E_nil (by simp)) rfl ?_
    refine Sv_setT (d := .int (-1)) (by walk_at "E") rfl ?_
    refine Sv_seq (fun r => ∃ b x4 x5 x6 x7, r = [.d (intT' held), .d (.tup true (back.map enc4)), .o ((againS held back).map encS), b, x4, x5, x6, x7]) (Sv_for (Es_tup (ds := back.map enc4) (vs := [4, 5, 6, 7]) (f := fun i ρ => (((ρ.set 4 (.d (.int (back.getD i (0, 0, 0, 0)).1))).set 5 (.d (.int (back.getD i (0, 0, 0, 0)).2.1))).set 6 (.d (.int (back.getD i (0, 0, 0, 0)).2.2.1))).set 7 (.d (.int (back.getD i (0, 0, 0, 0)).2.2.2))) (E_var rfl) fun i d hd ρ => ?_)
      (fun i ρ => ∃ x4 x5 x6 x7, ρ = [.d (intT' held), .d (.tup true (back.map enc4)), .o (((back.take i).foldl (againF held) ([], -1)).1.map encS), .d (.int ((back.take i).foldl (againF held) ([], -1)).2), x4, x5, x6, x7]) ⟨_, _, _, _, rfl⟩ (fun i ρ' hi ⟨x4, x5, x6, x7, e⟩ => ?_) fun ρ' ⟨x4, x5, x6, x7, e⟩ => ?_) fun r ⟨b, x4, x5, x6, x7, e⟩ => ?_
    · rw [List.getElem?_map] at hd
      obtain ⟨a, ha, rfl⟩ := Option.map_eq_some_iff.mp hd
      rw [getD_of ha]
      exact G_tup (G_cons (G_name (by simp)) (G_cons (G_name (by simp)) (G_cons (G_name (by simp)) (G_cons (G_name (by simp)) G_nil))))
    · subst e
      rw [List.length_map] at hi
      obtain ⟨a, ha⟩ : ∃ a, back[i]? = some a := ⟨_, List.getElem?_eq_getElem hi⟩
      obtain ⟨h0, h1⟩ := hh a (List.mem_of_getElem? ha)
      have ft := fold_take (againF held) ([], -1) ha
      have ln : ((back.take i).foldl (againF held) ([], -1)).1.length < 1000000 := by
        have h9 := again_len held (back.take i) ([], -1)
        rw [List.length_take] at h9
        simp only [List.length_nil] at h9
        omega
      rw [getD_of ha]
      obtain ⟨s, ed, k, n⟩ := a
      generalize (back.take i).foldl (againF held) ([], -1) = acc at *
      refine Sv_seq (fun r => r = [.d (intT' held), .d (.tup true (back.map enc4)), .o ((againF held acc (s, ed, k, n)).1.map encS), .d (.int acc.2), .d (.int s), .d (.int ed), .d (.int k), .d (.int n)]) (Sv_if (b := decide (k ≠ acc.2) && decide (ed < held.getD s.toNat 0)) ?_ (fun z => ?_) fun z => ?_) fun r e => ?_
      · refine Et.eq (E_tand (E_test (E_neI (E_var rfl) (E_var rfl))) fun _ => E_test (E_gt (E_ixTi (E_var rfl) (E_var rfl) h0 (map_get Dt.int 0 h1)) (E_var rfl))) ?_
        by_cases c : k = acc.2 <;> simp [c]
      · rw [Bool.and_eq_true, decide_eq_true_eq, decide_eq_true_eq] at z
        refine Sv_app (ds := acc.1.map encS) (d := encS ("again", [k, n])) rfl (by walk_at "E") (by rw [List.length_map]; exact ln) ?_
        show _ = _
        have e : (againF held acc (s, ed, k, n)).1 = acc.1 ++ [(("again" : Str), [k, n])] := by
          unfold againF
          exact if_pos z
        rw [e, List.map_append]; rfl
      · refine Sv_skip ?_
        have e : (againF held acc (s, ed, k, n)).1 = acc.1 := by
          unfold againF
          refine if_neg fun y => ?_
          rw [decide_eq_true y.1, decide_eq_true y.2] at z
          cases z
        rw [e]; rfl
      · subst e
        refine Sv_set (d := .int k) (E_var rfl) ?_
        rw [ft]
        exact ⟨_, _, _, _, rfl⟩
    · subst e
      rw [List.length_map, List.take_length]
      exact ⟨_, _, _, _, _, rfl⟩
    · subst e
      refine Sv_frz (i := 2) rfl rfl ?_
      exact Sv_ret (E_var rfl) rfl
end

section
open PySem.W
variable {P : Program} {w : World} {K : PySem.W.Frag} {mg : Str → Option Value} {base : Heap}
/-! ### arrive -/
def laneOfK (h : Ho) (k e : Int) : Int := (h.os.getD k.toNat []).getD e.toNat 0
def arrF (h : Ho) (acc : List R2T × List (List Int)) (r : R4T) : List R2T × List (List Int) :=
  (if [r.1, laneOfK h r.2.2.1 r.2.1] ∈ acc.2 then acc.1 else acc.1 ++ [(r.2.2.1, r.2.2.2)], acc.2 ++ [[r.1, laneOfK h r.2.2.1 r.2.1]])
def arrive2 (k : Str) (a : R2T) : Dt := .tup true [.str k, .int a.1, .int a.2]
def arriveP (k : Str) (a : R2T) : PyData := .tuple [.str k, .int a.1, .int a.2]
def sortA (k : Str) (rows : List R2T) : List R2T := rows.mergeSort (dataLe false (arriveP k))
def stp2 (k : Str) (a : R2T) : Stp := (k, [a.1, a.2])
def arriveS (h : Ho) (way : List R4T) : List Stp := (sortA "arrive" (way.foldl (arrF h) ([], [])).1).map (stp2 "arrive")
theorem alike_arr (k : Str) (a b : R2T) : alike (arriveP k a) (arriveP k b) = true := by
  show alike (.tuple (.str k :: [a.1, a.2].map PyData.int)) (.tuple (.str k :: [b.1, b.2].map PyData.int)) = true
  rw [alike, alikeAll, PySem.W.alike_ints]
  simp [alike]
theorem E_sortA {ρ : Rho} {K : PySem.W.Frag} {tl : TE} {k : Str} {rows : List R2T} (h : Ep tl ρ (.lst (rows.map (arrive2 k)))) : Ep (tCB (rSortD K) (tCons tl tNil)) ρ (.lst ((sortA k rows).map (arrive2 k))) := fun H S σ en =>
  D_sortG (K := K) (f := arrive2 k) (enc := arriveP k) (fun _ => rfl) (fun _ => rfl) (alike_arr k) (.inl fun d hd => by
    obtain ⟨a, _, rfl⟩ := List.mem_map.mp hd
    exact ⟨_, _, rfl⟩) (fun a => by
      show PyData.depth (.tuple [.str k, .int a.1, .int a.2]) ≤ 16
      simp [PyData.depth, PyData.depthAll]) (h H S σ en)
theorem arr_len (h : Ho) : ∀ (way : List R4T) (acc : List R2T × List (List Int)), (way.foldl (arrF h) acc).1.length ≤ acc.1.length + way.length ∧ (way.foldl (arrF h) acc).2.length = acc.2.length + way.length
  | [], acc => by simp
  | r :: t, acc => by
    rw [List.foldl_cons, List.length_cons]
    have h1 := arr_len h t (arrF h acc r)
    have h2 : (arrF h acc r).1.length ≤ acc.1.length + 1 := by
      unfold arrF
      dsimp only
      split
      · omega
      · simp
    have h3 : (arrF h acc r).2.length = acc.2.length + 1 := by
      unfold arrF
      simp
    omega
/-- entries of way, of back -/
structure EntOk (h : Ho) (r : R4T) : Prop where
  s0 : 0 ≤ r.1
  s1 : r.1 < h.m
  e0 : 0 ≤ r.2.1
  e1 : r.2.1 < (h.cs.length : Nat)
  k0 : 0 ≤ r.2.2.1
  k1 : r.2.2.1 < (h.os.length : Nat)
theorem E_lane (T : Txt K mg) {ρ : Rho} {i : Nat} {te tf : TE} {h : Ho} {kk : Nat} (ok : h.Ok kk) {k e : Int} {K' K2 K3 : PySem.W.Frag} (z : K' = K) (hi : ρ[i]? = some (.d (frD T.C_Frame T.C_Moment h))) (hk : Ep te ρ (.int k)) (he : Ep tf ρ (.int e)) (k0 : 0 ≤ k) (k1 : k < (h.os.length : Nat)) (e0 : 0 ≤ e) (e1 : e < (h.cs.length : Nat)) :
    Ep (tOp (rIxT K2) (tOp (rIxT K3) (tFld K' (tVar i) "courses") te) tf) ρ (.int (laneOfK h k e)) := by
  subst z
  have hm : h.os.getD k.toNat [] ∈ h.os := by
    rw [List.getD_eq_getElem?_getD, List.getElem?_eq_getElem (by omega)]
    exact List.getElem_mem _
  refine E_ixTi (E_ixTi (E_fld (E_var hi) T.L_Frame T.n_Frame_courses rfl) hk k0 (map_get intT [] (by omega))) he e0 ?_
  exact map_get Dt.int 0 (by rw [(ok.os _ hm).1]; omega)
theorem ok_arrive_steps (T : Txt K mg) : FnOk P w K mg base CX0 1 T.a_arrive_steps T.d_arrive_steps ["frame", "way"] (spTy (fun a : Ho × List R4T => [frD T.C_Frame T.C_Moment a.1, .tup true (a.2.map enc4)]) (fun a => a.1.Ok 3 ∧ a.2.length ≤ 1000 ∧ ∀ r ∈ a.2, EntOk a.1 r) fun a => .lst ((arriveS a.1 a.2).map encS)) := by
  refine T.F_arrive_steps.ok sc_arrive_steps (fun vs H Q E h => ?_) (fun cdv A outer s H vs Q E hr h => ?_)
  · obtain ⟨S, a, o, _⟩ := h
    exact o.len
  · obtain ⟨S, ⟨h, way⟩, o, lv, ⟨ok, hb, hh⟩, q⟩ := h
    have hb : way.length ≤ 1000 := hb
    refine ⟨_, (pss_cons (ps_set (i := 2) sc_arrive_steps.nd rfl (Or.inl rfl) (pe_lst pa_nil))
      (pss_cons (ps_set (i := 3) sc_arrive_steps.nd rfl (Or.inl rfl) (pe_lst pa_nil))
      (pss_cons (ps_for PassesOwn.never rfl (pi_tup (pv 1)) (pg_tup rfl (pgs_cons (pg_name (i := 4) sc_arrive_steps.nd rfl (Or.inl rfl)) (pgs_cons (pg_name (i := 5) sc_arrive_steps.nd rfl (Or.inl rfl)) (pgs_cons (pg_name (i := 6) sc_arrive_steps.nd rfl (Or.inl rfl)) (pgs_cons (pg_name (i := 7) sc_arrive_steps.nd rfl (Or.inl rfl)) pgs_nil)))))
      (pss_cons (ps_set (i := 8) sc_arrive_steps.nd rfl (Or.inl rfl) (pe_tupF (pa_cons (pv 4) (pa_cons (pe_ix (ixT K) (pe_ix (ixT K) (pe_fld (pv 0) rfl) (pv 6) (fun _ _ => rfl)) (pv 5) (fun _ _ => rfl)) pa_nil))))
      (pss_cons (ps_if (pt_cmpR (op_notInD (units65 hr)) (pv 8) (pv 3) rfl)
      (pss_one (ps_expr (pe_bm PySem.F.plainAttrs_list PySem.F.slot_list_append PySem.F.type_list_append mt_append (pv 2) (pa_cons (pe_tupF (pa_cons pe_str (pa_cons (pv 6) (pa_cons (pv 7) pa_nil)))) pa_nil))))
      pss_nil)
      (pss_one (ps_expr (pe_bm PySem.F.plainAttrs_list PySem.F.slot_list_append PySem.F.type_list_append mt_append (pv 3) (pa_cons (pv 8) pa_nil)))))))
      (pss_one (ps_ret (pe_callB (cr_sortD K hr.units) (by rfl) T.z_sorted (by decide +kernel) (pa_cons (pv 2) pa_nil))))))), ?_⟩
    refine fn_body lv o ?_ q
    refine Sv_newT (ds := []) (E_lst E_nil (by simp)) rfl ?_
    refine Sv_newT (ds := []) (E_lst E_nil (by simp)) rfl ?_
    refine Sv_seq (fun r => ∃ b x4 x5 x6 x7 x8, r = [.d (frD T.C_Frame T.C_Moment h), .d (.tup true (way.map enc4)), .o ((way.foldl (arrF h) ([], [])).1.map (arrive2 "arrive")), b, x4, x5, x6, x7, x8]) (Sv_for (Es_tup (ds := way.map enc4) (vs := [4, 5, 6, 7]) (f := fun i ρ => (((ρ.set 4 (.d (.int (way.getD i (0, 0, 0, 0)).1))).set 5 (.d (.int (way.getD i (0, 0, 0, 0)).2.1))).set 6 (.d (.int (way.getD i (0, 0, 0, 0)).2.2.1))).set 7 (.d (.int (way.getD i (0, 0, 0, 0)).2.2.2))) (E_var rfl) fun i d hd ρ => ?_)
      (fun i ρ => ∃ x4 x5 x6 x7 x8, ρ = [.d (frD T.C_Frame T.C_Moment h), .d (.tup true (way.map enc4)), .o (((way.take i).foldl (arrF h) ([], [])).1.map (arrive2 "arrive")), .o (((way.take i).foldl (arrF h) ([], [])).2.map intT'), x4, x5, x6, x7, x8]) ⟨_, _, _, _, _, rfl⟩ (fun i ρ' hi ⟨x4, x5, x6, x7, x8, e⟩ => ?_) fun ρ' ⟨x4, x5, x6, x7, x8, e⟩ => ?_) fun r ⟨b, x4, x5, x6, x7, x8, e⟩ => ?_
    · rw [List.getElem?_map] at hd
      obtain ⟨a, ha, rfl⟩ := Option.map_eq_some_iff.mp hd
      rw [getD_of ha]
      exact G_tup (G_cons (G_name (by simp)) (G_cons (G_name (by simp)) (G_cons (G_name (by simp)) (G_cons (G_name (by simp)) G_nil))))
    · subst e
      rw [List.length_map] at hi
      obtain ⟨a, ha⟩ : ∃ a, way[i]? = some a := ⟨_, List.getElem?_eq_getElem hi⟩
      have en := hh a (List.mem_of_getElem? ha)
      have ft := fold_take (arrF h) ([], []) ha
      have ln := arr_len h (way.take i) ([], [])
      rw [List.length_take] at ln
      simp only [List.length_nil] at ln
      rw [getD_of ha]
      obtain ⟨s, ed, k, n⟩ := a
      obtain ⟨s0, s1, e0, e1, k0, k1⟩ := en
      dsimp only at s0 s1 e0 e1 k0 k1
      generalize (way.take i).foldl (arrF h) ([], []) = acc at *
      obtain ⟨ln1, ln2⟩ := ln
      refine Sv_setT (d := intT' [s, laneOfK h k ed]) (E_tup (E_cons (E_var rfl) (E_cons (E_lane T ok rfl rfl (E_var rfl) (E_var rfl) k0 k1 e0 e1) E_nil)) (by simp)) rfl ?_
      refine Sv_seq (fun r => r = [.d (frD T.C_Frame T.C_Moment h), .d (.tup true (way.map enc4)), .o ((arrF h acc (s, ed, k, n)).1.map (arrive2 "arrive")), .o (acc.2.map intT'), .d (.int s), .d (.int ed), .d (.int k), .d (.int n), .d (intT' [s, laneOfK h k ed])]) (Sv_if (b := !decide ([s, laneOfK h k ed] ∈ acc.2)) (E_test (E_eq (E_ninL q_rows (a := [s, laneOfK h k ed]) (as := acc.2) (E_var rfl) (E_own rfl)) (congrArg Dt.bl (congrArg not (decide_eq_decide.mpr Iff.rfl))))) (fun z => ?_) fun z => ?_) fun r e => ?_
      · have z2 : ¬ [s, laneOfK h k ed] ∈ acc.2 := by simpa using z
        refine Sv_app (ds := acc.1.map (arrive2 "arrive")) (d := arrive2 "arrive" (k, n)) rfl (by walk_at "E") (by rw [List.length_map]; omega) ?_
        show _ = _
        have e : (arrF h acc (s, ed, k, n)).1 = acc.1 ++ [(k, n)] := by
          unfold arrF
          exact if_neg z2
        rw [e, List.map_append]; rfl
      · have z2 : [s, laneOfK h k ed] ∈ acc.2 := by simpa using z
        refine Sv_skip ?_
        have e : (arrF h acc (s, ed, k, n)).1 = acc.1 := by
          unfold arrF
          exact if_pos z2
        rw [e]; rfl
      · subst e
        refine Sv_app (ds := acc.2.map intT') (d := intT' [s, laneOfK h k ed]) rfl (E_var rfl) (by rw [List.length_map]; omega) ?_
        have e : (arrF h acc (s, ed, k, n)).2 = acc.2 ++ [[s, laneOfK h k ed]] := rfl
        rw [ft, e, List.map_append]
        exact ⟨_, _, _, _, _, rfl⟩
    · subst e
      rw [List.length_map, List.take_length]
      exact ⟨_, _, _, _, _, _, rfl⟩
    · subst e
      refine Sv_frz (i := 2) rfl rfl ?_
      refine Sv_ret (E_eq (E_sortA (k := "arrive") (E_var rfl)) ?_) rfl
      show Dt.lst _ = Dt.lst ((arriveS h way).map encS)
      unfold arriveS
      rw [List.map_map]; rfl
end

section
open PySem.W
variable {P : Program} {w : World} {K : PySem.W.Frag} {mg : Str → Option Value} {base : Heap}
/-! ### send -/
def barredI (h : Ho) (way back : List R4T) : List Int := back.map (·.2.2.1) ++ (if h.b1 = true then way.map (·.2.2.1) else [])
def keysI (h : Ho) (way back : List R4T) (sent : List Int) : List Int := (sent.zipIdx.filter fun q => decide (q.1 < h.ls.getD q.2 0) && !decide (((q.2 : Nat) : Int) ∈ barredI h way back)).map fun q => ((q.2 : Nat) : Int)
def freeK (way : List R4T) (s k : Int) : Bool := !(way.map fun r => !decide (r.1 = s) && decide (r.2.2.1 = k)).any id
def sendS (h : Ho) (held : List Int) (way back : List R4T) (sent : List Int) : List Stp :=
  (List.range held.length).flatMap fun i => if decide (0 ≤ held.getD i 0) = true then ((keysI h way back sent).filter fun k => freeK way ((i : Nat) : Int) k).map fun k => (("send" : Str), [((i : Nat) : Int), k]) else []
theorem filter_true {α : Type} (l : List α) : (l.filter fun _ => true) = l := by simp
abbrev encSend (CF CM : Addr) (a : Ho × List Int × List R4T × List R4T × List Int) : List Dt := [frD CF CM a.1, intT' a.2.1, .tup true (a.2.2.1.map enc4), .tup true (a.2.2.2.1.map enc4), intT' a.2.2.2.2]
theorem E_keysOf {ρ : Rho} {K : PySem.W.Frag} {tl : TE} {b : Bool} {way : List R4T} (h : Ep tl ρ (.tup b (way.map enc4))) (hz : way.length ≤ 1000) (l7 : 8 < ρ.length) : Ef (tLc (iTup K tl) (gTup K 4 (gCons (gName 7) (gCons (gName 7) (gCons (gName 8) (gCons (gName 7) gNil))))) tYes (tVar 8) [7, 7, 8, 7]) ρ ((way.map (·.2.2.1)).map Dt.int) := by
  refine (E_lcGT (K := K) (0, 0, 0, 0) (F := fun r ρ => (((ρ.set 7 (.d (.int r.1))).set 7 (.d (.int r.2.1))).set 8 (.d (.int r.2.2.1))).set 7 (.d (.int r.2.2.2))) (p := fun _ => true) (f := fun r => .int r.2.2.1) h (by omega) (fun r _ ρ => ?_) (fun r _ => E_yes) fun r _ _ => ?_).eq ?_
  · exact G_tup (G_cons (G_name (by simp)) (G_cons (G_name (by simp)) (G_cons (G_name (by simp)) (G_cons (G_name (by simp)) G_nil))))
  · refine E_var ?_
    have e : ∀ ρ : Rho, 8 < ρ.length → ((((ρ.set 7 (.d (.int r.1))).set 7 (.d (.int r.2.1))).set 8 (.d (.int r.2.2.1))).set 7 (.d (.int r.2.2.2)))[8]? = some (.d (.int r.2.2.1)) := fun ρ hl => by
      rw [List.getElem?_set_ne (by decide), List.getElem?_set_self (by simpa using hl)]
    exact e _ (by simpa [wipeR] using l7)
  · rw [filter_true, List.map_map]; rfl
theorem ok_send_steps (T : Txt K mg) : FnOk P w K mg base CX0 1 T.a_send_steps T.d_send_steps ["frame", "held", "way", "back", "sent"] (spTy (encSend T.C_Frame T.C_Moment) (fun a => a.1.Ok 3 ∧ a.2.1.length ≤ 1000 ∧ a.2.2.1.length ≤ 1000 ∧ a.2.2.2.1.length ≤ 1000 ∧ a.2.2.2.2.length = a.1.ls.length) fun a => .lst ((sendS a.1 a.2.1 a.2.2.1 a.2.2.2.1 a.2.2.2.2).map encS)) := by
  refine T.F_send_steps.ok sc_send_steps (fun vs H Q E h => ?_) (fun cdv A outer s H vs Q E hr h => ?_)
  · obtain ⟨S, a, o, _⟩ := h
    exact o.len
  · obtain ⟨S, ⟨h, held, way, back, sent⟩, o, lv, ⟨ok, z1, z2, z3, z4⟩, q⟩ := h
    have z1 : held.length ≤ 1000 := z1
    have z2 : way.length ≤ 1000 := z2
    have z3 : back.length ≤ 1000 := z3
    have z4 : sent.length = h.ls.length := z4
    have ok : h.Ok 3 := ok
    have o2 := ok.o2
    have lll := ok.ll
    refine ⟨_, (pss_cons (ps_set (i := 5) sc_send_steps.nd rfl (Or.inr rfl) (pe_lc (own := [("_", 7), ("_", 7), ("key", 8), ("_", 7)]) (g := gTup K 4 (gCons (gName 7) (gCons (gName 7) (gCons (gName 8) (gCons (gName 7) (gNil)))))) (tt := tYes) (by rfl) sc_send_steps.nd (pi_tup (pv 3)) (blkOk_by (own := [("_", 7), ("_", 7), ("key", 8), ("_", 7)]) (N := ["frame", "held", "way", "back", "sent", "barred", "keys", "_", "key", "number", "sender", "edition", "other", "theirs"]) (sc := defScope s_send_steps) (by decide +kernel)) (fun _ _ _ _ _ => (pg_tup rfl (pgs_cons (pg_name (i := 7) sc_send_steps.nd rfl (Or.inl rfl)) (pgs_cons (pg_name (i := 7) sc_send_steps.nd rfl (Or.inl rfl)) (pgs_cons (pg_name (i := 8) sc_send_steps.nd rfl (Or.inl rfl)) (pgs_cons (pg_name (i := 7) sc_send_steps.nd rfl (Or.inl rfl)) pgs_nil)))))) (fun _ _ _ _ _ => pts_nil) (fun _ _ _ _ _ => (pv 8))))
      (pss_cons (ps_if (pt_val (pe_fld (pv 0) rfl))
      (pss_one (ps_expr (pe_bm PySem.F.plainAttrs_list PySem.F.slot_list_extend PySem.F.type_list_extend mt_extend (pv 5) (pa_cons (pe_lc (own := [("_", 7), ("_", 7), ("key", 8), ("_", 7)]) (g := gTup K 4 (gCons (gName 7) (gCons (gName 7) (gCons (gName 8) (gCons (gName 7) (gNil)))))) (tt := tYes) (by rfl) sc_send_steps.nd (pi_tup (pv 2)) (blkOk_by (own := [("_", 7), ("_", 7), ("key", 8), ("_", 7)]) (N := ["frame", "held", "way", "back", "sent", "barred", "keys", "_", "key", "number", "sender", "edition", "other", "theirs"]) (sc := defScope s_send_steps) (by decide +kernel)) (fun _ _ _ _ _ => (pg_tup rfl (pgs_cons (pg_name (i := 7) sc_send_steps.nd rfl (Or.inl rfl)) (pgs_cons (pg_name (i := 7) sc_send_steps.nd rfl (Or.inl rfl)) (pgs_cons (pg_name (i := 8) sc_send_steps.nd rfl (Or.inl rfl)) (pgs_cons (pg_name (i := 7) sc_send_steps.nd rfl (Or.inl rfl)) pgs_nil)))))) (fun _ _ _ _ _ => pts_nil) (fun _ _ _ _ _ => (pv 8))) pa_nil))))
      pss_nil)
      (pss_cons (ps_set (i := 6) sc_send_steps.nd rfl (Or.inr rfl) (pe_lc (own := [("key", 8), ("number", 9)]) (g := gTup K 2 (gCons (gName 8) (gCons (gName 9) (gNil)))) (by rfl) sc_send_steps.nd (pi_enumT (by rfl) T.z_enumerate (pa_cons (pv 4) pa_nil)) (blkOk_by (own := [("key", 8), ("number", 9)]) (N := ["frame", "held", "way", "back", "sent", "barred", "keys", "_", "key", "number", "sender", "edition", "other", "theirs"]) (sc := defScope s_send_steps) (by decide +kernel)) (fun _ _ _ _ _ => (pg_tup rfl (pgs_cons (pg_name (i := 8) sc_send_steps.nd rfl (Or.inl rfl)) (pgs_cons (pg_name (i := 9) sc_send_steps.nd rfl (Or.inl rfl)) pgs_nil)))) (fun _ _ _ _ _ => (pts_one (PW.pt (pw_and (pt_cmpR op_lt (pv 9) (pe_ix (ixT K) (pe_fldK K (pv 0) rfl) (pv 8) (fun _ _ => rfl)) (nomark _)) (pw_and1 (pt_cmpR (op_ninK K) (pv 8) (pv 5) rfl)))))) (fun _ _ _ _ _ => (pv 8))))
      (pss_one (ps_ret (pe_lc2 (own := [("sender", 10), ("edition", 11), ("key", 8)]) (vs1 := [8]) (g := gTup K 2 (gCons (gName 10) (gCons (gName 11) (gNil)))) (g1 := gName 8) (by rfl) sc_send_steps.nd (pi_enumT (by rfl) T.z_enumerate (pa_cons (pv 1) pa_nil)) (blkOk_by (own := [("sender", 10), ("edition", 11), ("key", 8)]) (N := ["frame", "held", "way", "back", "sent", "barred", "keys", "_", "key", "number", "sender", "edition", "other", "theirs"]) (sc := defScope s_send_steps) (by decide +kernel)) (by decide) (fun _ _ _ _ _ => (pg_tup rfl (pgs_cons (pg_name (i := 10) sc_send_steps.nd rfl (Or.inr rfl)) (pgs_cons (pg_name (i := 11) sc_send_steps.nd rfl (Or.inl rfl)) pgs_nil)))) (fun _ _ _ _ _ => (pts_one (pt_cmpR op_ge (pv 11) pe_int (nomark _)))) (fun _ _ _ _ _ => (pi_listK K (pv 6))) (fun _ _ _ _ _ => (pg_name (i := 8) sc_send_steps.nd rfl (Or.inr rfl))) (fun _ _ _ _ _ => (pts_one (pt_not (pt_val (pe_callB (cr_anyK K (by rfl)) (by rfl) T.z_any (by decide +kernel) (pa_cons (pe_lc (own := [("other", 12), ("_", 7), ("theirs", 13), ("_", 7)]) (g := gTup K 4 (gCons (gName 12) (gCons (gName 7) (gCons (gName 13) (gCons (gName 7) (gNil)))))) (tt := tYes) (by rfl) sc_send_steps.nd (pi_tupK K (pv 2)) (blkOk_in (own := [("other", 12), ("_", 7), ("theirs", 13), ("_", 7)]) (N := ["frame", "held", "way", "back", "sent", "barred", "keys", "_", "key", "number", "sender", "edition", "other", "theirs"]) (sc0 := defScope s_send_steps) rfl (by decide +kernel)) (fun _ _ _ _ _ => (pg_tup rfl (pgs_cons (pg_name (i := 12) sc_send_steps.nd rfl (Or.inl rfl)) (pgs_cons (pg_name (i := 7) sc_send_steps.nd rfl (Or.inl rfl)) (pgs_cons (pg_name (i := 13) sc_send_steps.nd rfl (Or.inl rfl)) (pgs_cons (pg_name (i := 7) sc_send_steps.nd rfl (Or.inl rfl)) pgs_nil)))))) (fun _ _ _ _ _ => pts_nil) (fun _ _ _ _ _ => (pe_and (pe_cmpR op_ne (pv 12) (pv 10) (nomark _)) (pe_one (pe_cmpR op_eq (pv 13) (pv 8) (nomark _)))))) pa_nil)))))) (fun _ _ _ _ _ => (pe_tupF (pa_cons pe_str (pa_cons (pv 10) (pa_cons (pv 8) pa_nil))))))))))), ?_⟩
    refine fn_body lv o ?_ q
    refine Sv_newT (E_keysOf (way := back) (E_var rfl) z3 (by show 8 < 14; decide)) rfl ?_
    refine Sv_then (ρ1 := [.d (frD T.C_Frame T.C_Moment h), .d (intT' held), .d (.tup true (way.map enc4)), .d (.tup true (back.map enc4)), .d (intT' sent), .o ((barredI h way back).map Dt.int), .no, .no, .no, .no, .no, .no, .no, .no]) (Sv_if (b := h.b1) (E_val (E_fld (E_var rfl) T.L_Frame T.n_Frame_paced rfl)) (fun z => Sv_ext rfl (E_keysOf (way := way) (E_var rfl) z2 (by show 8 < 14; decide)).p (by rw [List.length_map, List.length_map, List.length_map, List.length_map]; omega) ?_) fun z => Sv_skip ?_) ?_
    · show _ = _
      unfold barredI
      rw [if_pos z, List.map_append]; rfl
    · show _ = _
      unfold barredI
      rw [if_neg (by rw [z]; decide), List.append_nil]; rfl
    have bl : (barredI h way back).length ≤ 2000 := by
      unfold barredI
      rw [List.length_append, List.length_map]
      split
      · rw [List.length_map]; omega
      · simp; omega
    refine Sv_setT (d := .lst ((keysI h way back sent).map Dt.int)) ?_ rfl ?_
    · refine (Ef.eq (E_lcN (K := K) (0 : Int) (p := fun i n => decide (n < h.ls.getD i 0) && !decide (((i : Nat) : Int) ∈ barredI h way back)) (f := fun i _ => .int (i : Nat)) (E_var rfl : Ep _ _ (.tup true (sent.map Dt.int))) (by omega) (fun i n hi => ?_) fun i n hi _ => E_var rfl) ?_).p
      · have hi2 : i < sent.length := (List.getElem?_eq_some_iff.mp hi).1
        refine E_tand (E_test (E_lt (E_var rfl) (E_ixTi (E_fld (E_var rfl) T.L_Frame T.n_Frame_letters rfl) (E_var rfl) (by omega) (map_get Dt.int 0 (by omega))))) fun _ => E_test (E_eq (E_inIL (neg := true) (ns := barredI h way back) (E_var rfl) (E_own rfl)) ?_)
        rw [if_pos rfl]
      · unfold keysI
        rw [List.map_map]; rfl
    have kl : (keysI h way back sent).length ≤ 900 := by
      unfold keysI
      rw [List.length_map]
      have := List.length_filter_le (fun q : Int × Nat => decide (q.1 < h.ls.getD q.2 0) && !decide (((q.2 : Nat) : Int) ∈ barredI h way back)) sent.zipIdx
      rw [List.length_zipIdx] at this
      omega
    refine Sv_ret (E_eq (E_lc2 (n := held.length) (m := fun _ => (keysI h way back sent).length) (vs := [10, 11, 8]) (f := fun i ρ => (ρ.set 10 (.d (.int (i : Nat)))).set 11 (.d (.int (held.getD i 0)))) (f1 := fun _ j ρ => ρ.set 8 (.d (.int ((keysI h way back sent).getD j 0)))) (b := fun i => decide (0 ≤ held.getD i 0))
      (r := fun i j => if freeK way ((i : Nat) : Int) ((keysI h way back sent).getD j 0) = true then some (encS (("send" : Str), [((i : Nat) : Int), (keysI h way back sent).getD j 0])) else none) ?_ z1 (fun _ _ => kl) (fun i hi => E_test (E_ge (E_var rfl) (E_int 0))) (fun i hi _ => ?_) fun i j hi _ hj => ?_).p ?_) rfl
    · refine (fun hh : Es _ _ _ ((held.map Dt.int).length) _ _ => by rw [List.length_map] at hh; exact hh) (Es_enumT (i1 := 10) (vs := [10, 11, 8]) (E_var rfl) (by simp) fun i d hd ρ => ?_)
      rw [List.getElem?_map] at hd
      obtain ⟨a, ha, rfl⟩ := Option.map_eq_some_iff.mp hd
      rw [getD_of ha]
      exact G_name (by simp)
    · refine (fun hh : Es _ _ _ (((keysI h way back sent).map Dt.int).length) _ _ => by rw [List.length_map] at hh; exact hh) (Es_list (E_var rfl) fun j d hd ρ => ?_)
      rw [List.getElem?_map] at hd
      obtain ⟨a, ha, rfl⟩ := Option.map_eq_some_iff.mp hd
      rw [getD_of ha]
      exact G_name (by simp)
    · refine C_if (b := freeK way ((i : Nat) : Int) ((keysI h way back sent).getD j 0)) ?_ fun _ => ?_
      · generalize (keysI h way back sent).getD j 0 = k
        generalize hr0 : (((wipeR (((wipeR _ [10, 11, 8]).set 10 _).set 11 _) [8]).set 8 _) : Rho) = r0
        have h2 : r0[2]? = some (.d (.tup true (way.map enc4))) := by rw [← hr0]; rfl
        have h8 : r0[8]? = some (.d (.int k)) := by rw [← hr0]; rfl
        have h10 : r0[10]? = some (.d (.int ((i : Nat) : Int))) := by rw [← hr0]; rfl
        have hl : r0.length = 14 := by rw [← hr0]; rfl
        clear hr0
        refine E_not (E_val (E_any (bs := way.map fun r => !decide (r.1 = ((i : Nat) : Int)) && decide (r.2.2.1 = k)) (El.eq (Ef.l (E_lcGT (K := K) (0, 0, 0, 0) (vs := [12, 7, 13, 7]) (F := fun r ρ => (((ρ.set 12 (.d (.int r.1))).set 7 (.d (.int r.2.1))).set 13 (.d (.int r.2.2.1))).set 7 (.d (.int r.2.2.2))) (p := fun _ => true) (f := fun r => .bl (!decide (r.1 = ((i : Nat) : Int)) && decide (r.2.2.1 = k))) (E_var h2) (by omega) (fun r _ ρ => ?_) (fun r _ => E_yes) fun r _ _ => ?_)) ?_)))
        · exact G_tup (G_cons (G_name (by simp)) (G_cons (G_name (by simp)) (G_cons (G_name (by simp)) (G_cons (G_name (by simp)) G_nil))))
        · have g12 : ((((((wipeR r0 [12, 7, 13, 7]).set 12 (.d (.int r.1))).set 7 (.d (.int r.2.1))).set 13 (.d (.int r.2.2.1))).set 7 (.d (.int r.2.2.2))) : Rho)[12]? = some (.d (.int r.1)) := by
            rw [List.getElem?_set_ne (by decide), List.getElem?_set_ne (by decide), List.getElem?_set_ne (by decide), List.getElem?_set_self (by simp [wipeR, hl])]
          have g13 : ((((((wipeR r0 [12, 7, 13, 7]).set 12 (.d (.int r.1))).set 7 (.d (.int r.2.1))).set 13 (.d (.int r.2.2.1))).set 7 (.d (.int r.2.2.2))) : Rho)[13]? = some (.d (.int r.2.2.1)) := by
            rw [List.getElem?_set_ne (by decide), List.getElem?_set_self (by simp [wipeR, hl])]
          have g10 : ((((((wipeR r0 [12, 7, 13, 7]).set 12 (.d (.int r.1))).set 7 (.d (.int r.2.1))).set 13 (.d (.int r.2.2.1))).set 7 (.d (.int r.2.2.2))) : Rho)[10]? = some (.d (.int ((i : Nat) : Int))) := by
            simp [wipeR, h10]
          have g8 : ((((((wipeR r0 [12, 7, 13, 7]).set 12 (.d (.int r.1))).set 7 (.d (.int r.2.1))).set 13 (.d (.int r.2.2.1))).set 7 (.d (.int r.2.2.2))) : Rho)[8]? = some (.d (.int k)) := by
            simp [wipeR, h8]
          exact E_and (E_neI (E_var g12) (E_var g10)) fun _ => E_eqI (E_var g13) (E_var g8)
        · rw [filter_true, List.map_map]; rfl
      · exact E_tup (E_cons (E_str _) (E_cons (E_var rfl) (E_cons (E_var rfl) E_nil))) (by simp)
    · show Dt.lst _ = Dt.lst ((sendS h held way back sent).map encS)
      unfold sendS
      rw [List.map_flatMap]
      congr 1
      congr 1
      funext i
      split
      · rw [← fm_if, List.map_filterMap]
        refine rng_fm (keysI h way back sent) _ _ fun j a ha => ?_
        rw [getD_of ha]
        split <;> rfl
      · rfl
end

section
open PySem.W
variable {P : Program} {w : World} {K : PySem.W.Frag} {mg : Str → Option Value} {base : Heap}
theorem rng_flat {α β : Type} (l : List α) (z : α) (g : α → List β) : ((List.range l.length).flatMap fun i => g (l.getD i z)) = l.flatMap g := by
  have key : ∀ n, n ≤ l.length → ((List.range n).flatMap fun i => g (l.getD i z)) = (l.take n).flatMap g := by
    intro n
    induction n with
    | zero => intro _; rfl
    | succ n ih =>
      intro hn
      have e : l[n]? = some l[n] := List.getElem?_eq_getElem hn
      rw [rngf_succ, ih (by omega), List.take_add_one, e, List.flatMap_append, getD_of e]
      simp
  rw [key _ (Nat.le_refl _), List.take_length]
theorem rng_map {α β : Type} (l : List α) (z : α) (g : α → β) : ((List.range l.length).filterMap fun i => some (g (l.getD i z))) = l.map g := by
  rw [rng_fm l (fun a => some (g a)) _ fun i a e => by rw [getD_of e]]
  exact List.filterMap_eq_map ▸ rfl
def edsI (k : Str) (s : Stt) : List Int := if k = ("agree" : Str) then s.held.filter fun e => decide (0 ≤ e) else if k = ("clear" : Str) then s.way.map (·.2.1) else if k = ("drain" : Str) then s.lanes.flatMap fun l => l.map (·.2.2) else []
def canB (ws : List Str) (s : Stt) (k : Str) : Bool := decide (((cntS ws : Nat) : Int) ≤ (if edsI k s = [] then ((cntS ws : Nat) : Int) else minL (edsI k s)))
/-- sizes of a state -/
structure Sz (s : Stt) : Prop where
  held : s.held.length ≤ 900
  way : s.way.length ≤ 900
  back : s.back.length ≤ 900
  lanes : s.lanes.length ≤ 900
  lane : ∀ l ∈ s.lanes, l.length ≤ 900
abbrev encC (CM : Addr) (a : List Str × List Int × Stt × Str) : List Dt := [moD CM a.1 a.2.1, a.2.2.1.dt, .str a.2.2.2]
theorem ok_can_do (T : Txt K mg) : FnOk P w K mg base CX0 1 T.a_can_do T.d_can_do ["moment", "state", "word"] (spTy (encC T.C_Moment) (fun a => Sz a.2.2.1) fun a => .bl (canB a.1 a.2.2.1 a.2.2.2)) := by
  refine T.F_can_do.ok sc_can_do (fun vs H Q E h => ?_) (fun cdv A outer s H vs Q E hr h => ?_)
  · obtain ⟨S, a, o, _⟩ := h
    exact o.len
  · obtain ⟨S, ⟨ws, cs, s, k⟩, o, lv, sz, q⟩ := h
    have sz : Sz s := sz
    refine ⟨_, (pss_cons (ps_asg (pv 1) (pg_tup rfl (pgs_cons (pg_name (i := 3) sc_can_do.nd rfl (Or.inl rfl)) (pgs_cons (pg_name (i := 4) sc_can_do.nd rfl (Or.inl rfl)) (pgs_cons (pg_name (i := 5) sc_can_do.nd rfl (Or.inl rfl)) (pgs_cons (pg_name (i := 3) sc_can_do.nd rfl (Or.inl rfl)) (pgs_cons (pg_name (i := 6) sc_can_do.nd rfl (Or.inl rfl)) (pgs_cons (pg_name (i := 3) sc_can_do.nd rfl (Or.inl rfl)) (pgs_cons (pg_name (i := 3) sc_can_do.nd rfl (Or.inl rfl)) (pgs_cons (pg_name (i := 3) sc_can_do.nd rfl (Or.inl rfl)) (pgs_cons (pg_name (i := 3) sc_can_do.nd rfl (Or.inl rfl)) pgs_nil)))))))))))
      (pss_cons (ps_set (i := 7) sc_can_do.nd rfl (Or.inl rfl) (pe_lst pa_nil))
      (pss_cons (ps_if (pt_cmpR op_eq (pv 2) pe_str (nomark _))
      (pss_one (ps_setLc (i := 7) (own := [("edition", 8)]) (g := gName 8) (by rfl) sc_can_do.nd rfl rfl (sw_true rfl rfl rfl (by decide +kernel)) (pi_tup (pv 4)) (blkOk_by (own := [("edition", 8)]) (N := ["moment", "state", "word", "_", "held", "way", "lanes", "editions", "edition", "letters"]) (sc := defScope s_can_do) (by decide +kernel)) (fun _ _ _ _ _ => (pg_name (i := 8) sc_can_do.nd rfl (Or.inl rfl))) (fun _ _ _ _ _ => (pts_one (pt_cmpR op_ge (pv 8) pe_int (nomark _)))) (fun _ _ _ _ _ => (pv 8))))
      (pss_one (ps_if (pt_cmpR op_eq (pv 2) pe_str (nomark _))
      (pss_one (ps_setLc (i := 7) (own := [("_", 3), ("edition", 8), ("_", 3), ("_", 3)]) (g := gTup K 4 (gCons (gName 3) (gCons (gName 8) (gCons (gName 3) (gCons (gName 3) (gNil)))))) (tt := tYes) (by rfl) sc_can_do.nd rfl rfl (sw_true rfl rfl rfl (by decide +kernel)) (pi_tup (pv 5)) (blkOk_by (own := [("_", 3), ("edition", 8), ("_", 3), ("_", 3)]) (N := ["moment", "state", "word", "_", "held", "way", "lanes", "editions", "edition", "letters"]) (sc := defScope s_can_do) (by decide +kernel)) (fun _ _ _ _ _ => (pg_tup rfl (pgs_cons (pg_name (i := 3) sc_can_do.nd rfl (Or.inl rfl)) (pgs_cons (pg_name (i := 8) sc_can_do.nd rfl (Or.inl rfl)) (pgs_cons (pg_name (i := 3) sc_can_do.nd rfl (Or.inl rfl)) (pgs_cons (pg_name (i := 3) sc_can_do.nd rfl (Or.inl rfl)) pgs_nil)))))) (fun _ _ _ _ _ => pts_nil) (fun _ _ _ _ _ => (pv 8))))
      (pss_one (ps_if (pt_cmpR op_eq (pv 2) pe_str (nomark _))
      (pss_one (ps_setLc2 (i := 7) (own := [("letters", 9), ("_", 3), ("_", 3), ("edition", 8)]) (vs1 := [3, 3, 8]) (g := gName 9) (g1 := gTup K 3 (gCons (gName 3) (gCons (gName 3) (gCons (gName 8) (gNil))))) (tt := tYes) (tt1 := tYes) (by rfl) sc_can_do.nd rfl rfl (sw_true rfl rfl rfl (by decide +kernel)) (pi_tup (pv 6)) (blkOk_by (own := [("letters", 9), ("_", 3), ("_", 3), ("edition", 8)]) (N := ["moment", "state", "word", "_", "held", "way", "lanes", "editions", "edition", "letters"]) (sc := defScope s_can_do) (by decide +kernel)) (by decide) (fun _ _ _ _ _ => (pg_name (i := 9) sc_can_do.nd rfl (Or.inl rfl))) (fun _ _ _ _ _ => pts_nil) (fun _ _ _ _ _ => (pi_tupK K (pv 9))) (fun _ _ _ _ _ => (pg_tup rfl (pgs_cons (pg_name (i := 3) sc_can_do.nd rfl (Or.inl rfl)) (pgs_cons (pg_name (i := 3) sc_can_do.nd rfl (Or.inl rfl)) (pgs_cons (pg_name (i := 8) sc_can_do.nd rfl (Or.inl rfl)) pgs_nil))))) (fun _ _ _ _ _ => pts_nil) (fun _ _ _ _ _ => (pv 8))))
      pss_nil)))))
      (pss_one (ps_ret (pe_cmpR op_ge (pe_callBK (crk_minD K rfl hr.units) (by rfl) T.z_min (by decide +kernel) (pa_cons (pv 7) pa_nil) (pk_cons (pe_fld (pv 0) rfl) pk_nil)) (pe_fld (pv 0) rfl) (nomark _))))))), ?_⟩
    refine fn_body lv o ?_ q
    refine Sv_asgT (vs := [3, 4, 5, 6]) (ρ1 := [.d (moD T.C_Moment ws cs), .d s.dt, .d (.str k), .d (.tup true (s.lost.map enc2)), .d (intT' s.held), .d (.tup true (s.way.map enc4)), .d (.tup true (s.lanes.map encL)), .no, .no, .no]) (E_var rfl) (G_tup (G_cons (G_name (by simp)) (G_cons (G_name (by simp)) (G_cons (G_name (by simp)) (G_cons (G_name (by simp)) (G_cons (G_name (by simp)) (G_cons (G_name (by simp)) (G_cons (G_name (by simp)) (G_cons (G_name (by simp)) (G_cons (G_name (by simp)) G_nil)))))))))) ?_
    refine Sv_newT (ds := []) (ρ1 := [.d (moD T.C_Moment ws cs), .d s.dt, .d (.str k), .d (.tup true (s.lost.map enc2)), .d (intT' s.held), .d (.tup true (s.way.map enc4)), .d (.tup true (s.lanes.map encL)), .o [], .no, .no]) (E_lst E_nil (by simp)) rfl ?_
    have sh := sz.held
    have sw := sz.way
    have sl := sz.lanes
    refine Sv_then (ρ1 := [.d (moD T.C_Moment ws cs), .d s.dt, .d (.str k), .d (.tup true (s.lost.map enc2)), .d (intT' s.held), .d (.tup true (s.way.map enc4)), .d (.tup true (s.lanes.map encL)), .o ((edsI k s).map Dt.int), .no, .no]) (Sv_if (b := decide (k = ("agree" : Str))) (E_test (E_eqS (E_var rfl) (E_str _))) (fun z => ?_) fun z => Sv_if (b := decide (k = ("clear" : Str))) (E_test (E_eqS (E_var rfl) (E_str _))) (fun z2 => ?_) fun z2 => Sv_if (b := decide (k = ("drain" : Str))) (E_test (E_eqS (E_var rfl) (E_str _))) (fun z3 => ?_) fun z3 => Sv_skip ?_) ?_
    · refine Sv_new (ds := (edsI k s).map Dt.int) (Ef.eq (E_lcAT (K := K) (0 : Int) (p := fun e => decide (0 ≤ e)) (f := fun e => .int e) (E_var rfl : Ep _ _ (.tup true (s.held.map Dt.int))) (by omega) (fun e _ => E_test (E_ge (E_var rfl) (E_int 0))) fun e _ _ => E_var rfl) ?_) rfl
      unfold edsI
      rw [if_pos (of_decide_eq_true z)]
    · refine Sv_new (ds := (edsI k s).map Dt.int) (Ef.eq (E_lcGT (K := K) (0, 0, 0, 0) (F := fun r ρ => (((ρ.set 3 (.d (.int r.1))).set 8 (.d (.int r.2.1))).set 3 (.d (.int r.2.2.1))).set 3 (.d (.int r.2.2.2))) (p := fun _ => true) (f := fun r => .int r.2.1) (E_var rfl) (by omega) (fun r _ ρ => ?_) (fun r _ => E_yes) fun r _ _ => E_var rfl) ?_) rfl
      · exact G_tup (G_cons (G_name (by simp)) (G_cons (G_name (by simp)) (G_cons (G_name (by simp)) (G_cons (G_name (by simp)) G_nil))))
      · unfold edsI
        rw [if_neg (of_decide_eq_false z), if_pos (of_decide_eq_true z2), filter_true, List.map_map]; rfl
    · refine Sv_new (ds := (edsI k s).map Dt.int) (Ef.eq (E_lc2 (n := s.lanes.length) (m := fun i => (s.lanes.getD i []).length) (vs := [9, 3, 3, 8]) (f := fun i ρ => ρ.set 9 (.d (encL (s.lanes.getD i [])))) (f1 := fun i j ρ => ((ρ.set 3 (.d (.int ((s.lanes.getD i []).getD j (0, 0, 0)).1))).set 3 (.d (.int ((s.lanes.getD i []).getD j (0, 0, 0)).2.1))).set 8 (.d (.int ((s.lanes.getD i []).getD j (0, 0, 0)).2.2))) (b := fun _ => true)
        (r := fun i j => some (.int ((s.lanes.getD i []).getD j (0, 0, 0)).2.2)) ?_ (by omega) (fun i hi => ?_) (fun i hi => E_yes) (fun i hi _ => ?_) fun i j hi _ hj => C_map (E_var rfl)) ?_) rfl
      · refine (fun hh : Es _ _ _ ((s.lanes.map encL).length) _ _ => by rw [List.length_map] at hh; exact hh) (Es_tup (E_var rfl) fun i d hd ρ => ?_)
        rw [List.getElem?_map] at hd
        obtain ⟨a, ha, rfl⟩ := Option.map_eq_some_iff.mp hd
        rw [getD_of ha]
        exact G_name (by simp)
      · refine sz.lane _ ?_
        rw [List.getD_eq_getElem?_getD, List.getElem?_eq_getElem hi]
        exact List.getElem_mem _
      · refine (fun hh : Es _ _ _ (((s.lanes.getD i []).map enc3).length) _ _ => by rw [List.length_map] at hh; exact hh) (Es_tup (E_var rfl) fun j d hd ρ => ?_)
        rw [List.getElem?_map] at hd
        obtain ⟨a, ha, rfl⟩ := Option.map_eq_some_iff.mp hd
        rw [getD_of ha]
        exact G_tup (G_cons (G_name (by simp)) (G_cons (G_name (by simp)) (G_cons (G_name (by simp)) G_nil)))
      · unfold edsI
        rw [if_neg (of_decide_eq_false z), if_neg (of_decide_eq_false z2), if_pos (of_decide_eq_true z3), List.map_flatMap]
        refine Eq.trans ?_ (rng_flat s.lanes [] fun l => (l.map (·.2.2)).map Dt.int)
        congr 1
        funext i
        rw [if_pos rfl, List.map_map]
        exact rng_map (s.lanes.getD i []) (0, 0, 0) fun r => Dt.int r.2.2
    · show _ = _
      unfold edsI
      rw [if_neg (of_decide_eq_false z), if_neg (of_decide_eq_false z2), if_neg (of_decide_eq_false z3)]; rfl
    · refine Sv_ret (E_ge (E_minDf (ns := edsI k s) (E_own rfl) (E_fld (E_var rfl) T.L_Moment T.n_Moment_shown rfl)) (E_fld (E_var rfl) T.L_Moment T.n_Moment_shown rfl)) rfl
end

section
open PySem.W
variable {P : Program} {w : World} {K : PySem.W.Frag} {mg : Str → Option Value} {base : Heap}
def doneW (h : Ho) (s : Stt) : List Str := h.ws.take s.place
def wordS (h : Ho) (s : Stt) : List Stp := if decide (s.place < h.ws.length) && canB (doneW h s) s (h.ws.getD s.place "") then [(("word" : Str), [])] else []
abbrev encW (CF CM : Addr) (a : Ho × Stt) : List Dt := [frD CF CM a.1, moD CM (doneW a.1 a.2) a.1.cs, a.2.dt]
theorem ok_word_steps (T : Txt K mg) : FnOk P w K mg base CX0 2 T.a_word_steps T.d_word_steps ["frame", "moment", "state"] (spTy (encW T.C_Frame T.C_Moment) (fun a => Sz a.2) fun a => .lst ((wordS a.1 a.2).map encS)) := by
  refine T.F_word_steps.ok sc_word_steps (fun vs H Q E h => ?_) (fun cdv A outer s H vs Q E hr h => ?_)
  · obtain ⟨S, a, o, _⟩ := h
    exact o.len
  · obtain ⟨S, ⟨h, s⟩, o, lv, sz, q⟩ := h
    have sz : Sz s := sz
    refine ⟨_, (pss_cons (ps_asg (pv 2) (pg_star rfl (pgs_cons (pg_name (i := 3) sc_word_steps.nd rfl (Or.inl rfl)) (pgs_star (pg_name (i := 4) sc_word_steps.nd rfl (Or.inl rfl)) pgs_nil))))
      (pss_cons (ps_if (PW.pt (pw_and (pt_cmpR op_lt (pv 3) (pe_callB call_len_seq (by rfl) T.z_len (by decide +kernel) (pa_cons (pe_fld (pv 0) rfl) pa_nil)) (nomark _)) (pw_and1 (pt_val (pe_call (ok_can_do T) (hr.mono (by decide)) rfl T.g_can_do T.F_can_do.kp T.b_can_do .nil pass0 (pa_cons (pv 1) (pa_cons (pv 2) (pa_cons (pe_ix (ixT K) (pe_fld (pv 0) rfl) (pv 3) (fun _ _ => rfl)) pa_nil))))))))
      (pss_one (ps_ret (pe_lst (pa_cons (pe_tupF (pa_cons pe_str pa_nil)) pa_nil))))
      pss_nil)
      (pss_one (ps_ret (pe_lst pa_nil))))), ?_⟩
    refine fn_body lv o ?_ q
    obtain ⟨rest, er⟩ : ∃ r, r = ([intT' s.held, .tup true (s.way.map enc4), .tup true (s.back.map enc4), .tup true (s.lanes.map encL), .tup true (s.readers.map Rdr.dt), intT' s.sent, .tup true (s.taken.map enc2), .tup true (s.lost.map enc2)] : List Dt) := ⟨_, rfl⟩
    have es : s.dt = .tup true (.int (s.place : Nat) :: rest) := by rw [er]; rfl
    refine Sv_starT (k := 1) (z := true) (ds := .int (s.place : Nat) :: rest) (vs := [3, 4]) (ρ1 := [.d (frD T.C_Frame T.C_Moment h), .d (moD T.C_Moment (doneW h s) h.cs), .d s.dt, .d (.int (s.place : Nat)), .d (.lst rest)]) (E_eq (E_var rfl) es) (by simp) (G_cons (G_name (by simp)) (G_cons (G_name (by simp)) G_nil)) ?_
    have ep : Ep (tFld K (tVar 0) "plan") [.d (frD T.C_Frame T.C_Moment h), .d (moD T.C_Moment (doneW h s) h.cs), .d s.dt, .d (.int (s.place : Nat)), .d (.lst rest)] (.tup true (h.ws.map Dt.str)) := E_fld (E_var rfl) T.L_Frame T.n_Frame_plan rfl
    refine Sv_seq (fun r => r = _ ∧ (decide (s.place < h.ws.length) && canB (doneW h s) s (h.ws.getD s.place "")) = false) (Sv_if (b := decide (s.place < h.ws.length) && canB (doneW h s) s (h.ws.getD s.place "")) (E_tand (E_test (E_eq (E_lt (E_var rfl) (E_lenT ep)) ?_)) fun z => E_val (E_eq (E_callT (doneW h s, h.cs, s, h.ws.getD s.place "") (E_cons (E_var rfl) (E_cons (E_var rfl) (E_cons (E_ixTi (i := (s.place : Nat)) ep (E_var rfl) (by omega) ?_) E_nil))) sz) (by rfl))) (fun z => Sv_ret (E_lst (E_cons (E_tup (E_cons (E_str _) E_nil) (by simp)) E_nil) (by simp)).p ?_) fun z => Sv_skip ⟨rfl, z⟩) fun r hr => ?_
    · rw [List.length_map]
      congr 1
      exact decide_eq_decide.mpr (by omega)
    · rw [Int.toNat_natCast]
      exact map_get Dt.str "" (of_decide_eq_true z)
    · show _ = Dt.lst ((wordS h s).map encS)
      unfold wordS
      rw [if_pos z]; rfl
    · obtain ⟨rfl, z⟩ := hr
      refine Sv_ret (E_lst E_nil (by simp)).p ?_
      show _ = Dt.lst ((wordS h s).map encS)
      unfold wordS
      rw [if_neg (by rw [z]; decide)]; rfl
/-! ### the steps of a state -/
def hearS (h : Ho) (s : Stt) : List Stp := (s.held.zipIdx.filter fun q => decide (0 ≤ q.1) && decide (q.1 < ((lastS (doneW h s) "tell" : Nat) : Int))).map fun q => (("hear" : Str), [((q.2 : Nat) : Int)])
def learnS (h : Ho) (s : Stt) : List Stp := (s.held.zipIdx.filter fun q => mayB h (doneW h s) q.1).map fun q => (("learn" : Str), [((q.2 : Nat) : Int)])
def stepsS (h : Ho) (s : Stt) : List Stp :=
  againS s.held s.back ++ (arriveS h s.way ++ (handS h (doneW h s) s.readers ++ (hearS h s ++ (learnS h s ++ (noteS h (doneW h s) s.lanes s.readers ++ (sendS h s.held s.way s.back s.sent ++ (takeS h (doneW h s) s.lanes s.readers ++ (wordS h s ++ []))))))))
/-- a state that fits its house -/
structure Wf (h : Ho) (s : Stt) : Prop where
  sz : Sz s
  place : s.place ≤ h.ws.length
  held : s.held.length = h.m.toNat
  way : ∀ r ∈ s.way, EntOk h r
  back : ∀ r ∈ s.back, EntOk h r
  sent : s.sent.length = h.ls.length
  rd : RdOk h s.lanes s.readers
theorem readI_len (ws : List Str) (cs : List Int) : (readI ws cs).length ≤ (maxL cs).toNat := lanI_len _ _
theorem hand_len (h : Ho) (ws : List Str) (rs : List Rdr) : (handS h ws rs).length ≤ (maxL h.cs).toNat := by
  unfold handS
  split
  · simp
  · rw [List.length_map]; exact Nat.le_trans (List.length_filter_le _ _) (readI_len _ _)
theorem note_len (h : Ho) (ws : List Str) (ls : List (List R3T)) (rs : List Rdr) : (noteS h ws ls rs).length ≤ (maxL h.cs).toNat := by
  unfold noteS
  split
  · rw [List.length_map]; exact Nat.le_trans (List.length_filter_le _ _) (readI_len _ _)
  · split
    · rw [List.length_map]; exact Nat.le_trans (List.length_filter_le _ _) (readI_len _ _)
    · simp
theorem takeS_len (h : Ho) (ws : List Str) (ls : List (List R3T)) (rs : List Rdr) : (takeS h ws ls rs).length ≤ (maxL h.cs).toNat := by
  unfold takeS
  split <;> (rw [List.length_map]; exact Nat.le_trans (List.length_filter_le _ _) (readI_len _ _))
theorem word_len (h : Ho) (s : Stt) : (wordS h s).length ≤ 1 := by
  unfold wordS
  split <;> simp
theorem againS_len (held : List Int) (back : List R4T) : (againS held back).length ≤ back.length := by
  have h := again_len held back ([], -1)
  unfold againS
  simpa using h
theorem arriveS_len (h : Ho) (way : List R4T) : (arriveS h way).length ≤ way.length := by
  have h := (arr_len h way ([], [])).1
  unfold arriveS sortA
  rw [List.length_map, List.length_mergeSort]
  simpa using h
theorem keys_len (h : Ho) (way back : List R4T) (sent : List Int) : (keysI h way back sent).length ≤ sent.length := by
  unfold keysI
  rw [List.length_map]
  have := List.length_filter_le (fun q : Int × Nat => decide (q.1 < h.ls.getD q.2 0) && !decide (((q.2 : Nat) : Int) ∈ barredI h way back)) sent.zipIdx
  rw [List.length_zipIdx] at this
  exact this
theorem sendS_len (h : Ho) (held : List Int) (way back : List R4T) (sent : List Int) : (sendS h held way back sent).length ≤ held.length * sent.length := by
  unfold sendS
  have := fl_len2 (List.range held.length) (fun i => if decide (0 ≤ held.getD i 0) = true then ((keysI h way back sent).filter fun k => freeK way ((i : Nat) : Int) k).map fun k => (("send" : Str), [((i : Nat) : Int), k]) else []) sent.length fun i _ => by
    split
    · rw [List.length_map]; exact Nat.le_trans (List.length_filter_le _ _) (keys_len _ _ _ _)
    · simp
  rw [List.length_range] at this
  exact this
abbrev encFS (CF CM : Addr) (a : Ho × Stt) : List Dt := [frD CF CM a.1, a.2.dt]
theorem E_starLst {ρ : Rho} {K : PySem.W.Frag} {te : TE} {t : TA} {ds es : List Dt} (h : Ep te ρ (.lst ds)) (ht : Ea t ρ es) : Ea (StX.tStar K te t) ρ (ds ++ es) := E_starL h.l ht
theorem ok_steps_in (T : Txt K mg) : FnOk P w K mg base CX0 3 T.a_steps_in T.d_steps_in ["frame", "state"] (spNw (encFS T.C_Frame T.C_Moment) (fun a => a.1.Ok 3 ∧ Wf a.1 a.2) fun a => (stepsS a.1 a.2).map encS) := by
  refine T.F_steps_in.ok sc_steps_in (fun vs H Q E h => ?_) (fun cdv A outer s H vs Q E hr h => ?_)
  · obtain ⟨S, a, o, _⟩ := h
    exact o.len
  · obtain ⟨S, ⟨h, s⟩, o, lv, ⟨ok, wf⟩, q⟩ := h
    have ok : h.Ok 3 := ok
    have wf : Wf h s := wf
    refine ⟨_, (pss_cons (ps_asg (pv 1) (pg_tup rfl (pgs_cons (pg_name (i := 2) sc_steps_in.nd rfl (Or.inl rfl)) (pgs_cons (pg_name (i := 3) sc_steps_in.nd rfl (Or.inl rfl)) (pgs_cons (pg_name (i := 4) sc_steps_in.nd rfl (Or.inl rfl)) (pgs_cons (pg_name (i := 5) sc_steps_in.nd rfl (Or.inl rfl)) (pgs_cons (pg_name (i := 6) sc_steps_in.nd rfl (Or.inl rfl)) (pgs_cons (pg_name (i := 7) sc_steps_in.nd rfl (Or.inl rfl)) (pgs_cons (pg_name (i := 8) sc_steps_in.nd rfl (Or.inl rfl)) (pgs_cons (pg_name (i := 9) sc_steps_in.nd rfl (Or.inl rfl)) (pgs_cons (pg_name (i := 9) sc_steps_in.nd rfl (Or.inl rfl)) pgs_nil)))))))))))
      (pss_cons (ps_set (i := 10) sc_steps_in.nd rfl (Or.inr rfl) (pe_ix (ixL K) (pe_fld (pv 0) rfl) (pv 2) (fun _ _ => rfl)))
      (pss_one (ps_ret (pe_lst (StX.pa_star (pe_call (ok_again_steps T) (hr.mono (by decide)) rfl T.g_again_steps T.F_again_steps.kp T.b_again_steps .nil pass0 (pa_cons (pv 3) (pa_cons (pv 5) pa_nil))) (StX.pa_star (pe_call (ok_arrive_steps T) (hr.mono (by decide)) rfl T.g_arrive_steps T.F_arrive_steps.kp T.b_arrive_steps .nil pass0 (pa_cons (pv 0) (pa_cons (pv 4) pa_nil))) (StX.pa_star (pe_call (ok_hand_steps T) (hr.mono (by decide)) rfl T.g_hand_steps T.F_hand_steps.kp T.b_hand_steps .nil pass0 (pa_cons (pv 0) (pa_cons (pv 10) (pa_cons (pv 7) pa_nil)))) (StX.pa_star (pe_lc (own := [("sender", 11), ("edition", 12)]) (g := gTup K 2 (gCons (gName 11) (gCons (gName 12) (gNil)))) (by rfl) sc_steps_in.nd (pi_enumT (by rfl) T.z_enumerate (pa_cons (pv 3) pa_nil)) (blkOk_by (own := [("sender", 11), ("edition", 12)]) (N := ["frame", "state", "place", "held", "way", "back", "lanes", "readers", "sent", "_", "moment", "sender", "edition"]) (sc := defScope s_steps_in) (by decide +kernel)) (fun _ _ _ _ _ => (pg_tup rfl (pgs_cons (pg_name (i := 11) sc_steps_in.nd rfl (Or.inl rfl)) (pgs_cons (pg_name (i := 12) sc_steps_in.nd rfl (Or.inl rfl)) pgs_nil)))) (fun _ _ _ _ _ => (pts_one (pt_chain op_le op_lt pe_int (pv 12) (pe_fldK K (pv 10) rfl)))) (fun _ _ _ _ _ => (pe_tupF (pa_cons pe_str (pa_cons (pv 11) pa_nil))))) (StX.pa_star (pe_lc (own := [("sender", 11), ("edition", 12)]) (g := gTup K 2 (gCons (gName 11) (gCons (gName 12) (gNil)))) (by rfl) sc_steps_in.nd (pi_enumT (by rfl) T.z_enumerate (pa_cons (pv 3) pa_nil)) (blkOk_by (own := [("sender", 11), ("edition", 12)]) (N := ["frame", "state", "place", "held", "way", "back", "lanes", "readers", "sent", "_", "moment", "sender", "edition"]) (sc := defScope s_steps_in) (by decide +kernel)) (fun _ _ _ _ _ => (pg_tup rfl (pgs_cons (pg_name (i := 11) sc_steps_in.nd rfl (Or.inl rfl)) (pgs_cons (pg_name (i := 12) sc_steps_in.nd rfl (Or.inl rfl)) pgs_nil)))) (fun _ _ _ _ _ => (pts_one (pt_val (pe_call (ok_may_learn T) (hr.mono (by decide)) rfl T.g_may_learn T.F_may_learn.kp T.b_may_learn .nil pass0 (pa_cons (pv 0) (pa_cons (pv 10) (pa_cons (pv 12) pa_nil))))))) (fun _ _ _ _ _ => (pe_tupF (pa_cons pe_str (pa_cons (pv 11) pa_nil))))) (StX.pa_star (pe_call (ok_note_steps T) (hr.mono (by decide)) rfl T.g_note_steps T.F_note_steps.kp T.b_note_steps .nil pass0 (pa_cons (pv 0) (pa_cons (pv 10) (pa_cons (pv 6) (pa_cons (pv 7) pa_nil))))) (StX.pa_star (pe_call (ok_send_steps T) (hr.mono (by decide)) rfl T.g_send_steps T.F_send_steps.kp T.b_send_steps .nil pass0 (pa_cons (pv 0) (pa_cons (pv 3) (pa_cons (pv 4) (pa_cons (pv 5) (pa_cons (pv 8) pa_nil)))))) (StX.pa_star (pe_call (ok_take_steps T) (hr.mono (by decide)) rfl T.g_take_steps T.F_take_steps.kp T.b_take_steps .nil pass0 (pa_cons (pv 0) (pa_cons (pv 10) (pa_cons (pv 6) (pa_cons (pv 7) pa_nil))))) (StX.pa_star (pe_call (ok_word_steps T) (hr.mono (by decide)) rfl T.g_word_steps T.F_word_steps.kp T.b_word_steps .nil pass0 (pa_cons (pv 0) (pa_cons (pv 10) (pa_cons (pv 1) pa_nil)))) pa_nil)))))))))))))), ?_⟩
    refine fn_new lv o ?_ q
    refine Sn_asgT (vs := [2, 3, 4, 5, 6, 7, 8, 9]) (ρ1 := [.d (frD T.C_Frame T.C_Moment h), .d s.dt, .d (.int (s.place : Nat)), .d (intT' s.held), .d (.tup true (s.way.map enc4)), .d (.tup true (s.back.map enc4)), .d (.tup true (s.lanes.map encL)), .d (.tup true (s.readers.map Rdr.dt)), .d (intT' s.sent), .d (.tup true (s.lost.map enc2)), .no, .no, .no]) (E_var rfl) (G_tup (G_cons (G_name (by simp)) (G_cons (G_name (by simp)) (G_cons (G_name (by simp)) (G_cons (G_name (by simp)) (G_cons (G_name (by simp)) (G_cons (G_name (by simp)) (G_cons (G_name (by simp)) (G_cons (G_name (by simp)) (G_cons (G_name (by simp)) G_nil)))))))))) ?_
    have pl := wf.place
    refine Sn_setT (d := moD T.C_Moment (doneW h s) h.cs) (E_ixLi (i := (s.place : Nat)) (E_fld (E_var rfl) T.L_Frame T.n_Frame_moments rfl : Ep _ _ (.lst ((momsF h).map (insD T.C_Moment)))).l (E_var rfl) (by omega) ?_) rfl ?_
    · rw [Int.toNat_natCast]
      unfold momsF
      rw [List.map_map, List.getElem?_map, List.getElem?_range (by omega)]; rfl
    obtain ⟨ρ, eρ⟩ : ∃ r : Rho, r = [.d (frD T.C_Frame T.C_Moment h), .d s.dt, .d (.int (s.place : Nat)), .d (intT' s.held), .d (.tup true (s.way.map enc4)), .d (.tup true (s.back.map enc4)), .d (.tup true (s.lanes.map encL)), .d (.tup true (s.readers.map Rdr.dt)), .d (intT' s.sent), .d (.tup true (s.lost.map enc2)), .d (moD T.C_Moment (doneW h s) h.cs), .no, .no] := ⟨_, rfl⟩
    have sh := wf.sz.held
    have sw := wf.sz.way
    have sb := wf.sz.back
    have m1 := ok.m1
    have m2 := ok.m2
    have o2 := ok.o2
    have lll := ok.ll
    have hl := wf.held
    have sl := wf.sent
    obtain ⟨x1, x2⟩ := max4 ok
    have r1 := wf.rd.l1
    have r2 := wf.rd.l2
    have en : ∀ r ∈ s.back, 0 ≤ r.1 ∧ r.1.toNat < s.held.length := fun r hr => by
      have e := wf.back r hr
      have a := e.s0
      have b := e.s1
      exact ⟨a, by omega⟩
    have hl2 := List.length_filter_le (fun q : Int × Nat => decide (0 ≤ q.1) && decide (q.1 < ((lastS (doneW h s) "tell" : Nat) : Int))) s.held.zipIdx
    have hl3 := List.length_filter_le (fun q : Int × Nat => mayB h (doneW h s) q.1) s.held.zipIdx
    rw [List.length_zipIdx] at hl2 hl3
    refine Sn_ret (Ef.eq (E_lst (E_starLst (E_eq (E_callT (s.held, s.back) (by walk_at "E") ⟨by show s.back.length ≤ 1000; omega, en⟩) (by rfl)) (E_starLst (E_eq (E_callT (h, s.way) (by walk_at "E") ⟨ok, by show s.way.length ≤ 1000; omega, wf.way⟩) (by rfl)) (E_starLst (E_eq (E_callT (h, doneW h s, s.readers) (by walk_at "E") ⟨ok, by show (maxL h.cs).toNat ≤ s.readers.length; omega⟩) (by rfl)) (E_starLst (E_lcN (K := K) (0 : Int) (p := fun _ e => decide (0 ≤ e) && decide (e < ((lastS (doneW h s) "tell" : Nat) : Int))) (f := fun i _ => .tup true [.str "hear", .int (i : Nat)]) (E_var rfl : Ep _ _ (.tup true (s.held.map Dt.int))) (by omega) (fun i e _ => ?_) fun i e _ _ => ?_).p (E_starLst (E_lcN (K := K) (0 : Int) (p := fun _ e => mayB h (doneW h s) e) (f := fun i _ => .tup true [.str "learn", .int (i : Nat)]) (E_var rfl : Ep _ _ (.tup true (s.held.map Dt.int))) (by omega) (fun i e _ => ?_) fun i e _ _ => ?_).p (E_starLst (E_eq (E_callT (h, doneW h s, s.lanes, s.readers) (by walk_at "E") ⟨ok, wf.rd⟩) (by rfl)) (E_starLst (E_eq (E_callT (h, s.held, s.way, s.back, s.sent) (by walk_at "E") ⟨ok, by show s.held.length ≤ 1000; omega, by show s.way.length ≤ 1000; omega, by show s.back.length ≤ 1000; omega, sl⟩) (by rfl)) (E_starLst (E_eq (E_callT (h, doneW h s, s.lanes, s.readers) (by walk_at "E") ⟨ok, wf.rd⟩) (by rfl)) (E_starLst (E_eq (E_callT (h, s) (by walk_at "E") wf.sz) (by rfl)) E_nil))))))))) ?_) ?_)
    · exact E_test (E_chain (f := fun i j => decide (i ≤ j)) (g := fun i j => decide (i < j)) (E_int 0) (E_var rfl) (E_fld (E_var rfl) T.L_Moment T.n_Moment_told rfl))
    · exact E_tup (E_cons (E_str _) (E_cons (E_var rfl) E_nil)) (by simp)
    · exact E_val (E_eq (E_callT (h, doneW h s, e) (by walk_at "E") trivial) (by rfl))
    · exact E_tup (E_cons (E_str _) (E_cons (E_var rfl) E_nil)) (by simp)
    · simp only [List.length_append, List.length_map, List.length_nil]
      have a1 := againS_len s.held s.back
      have a2 := arriveS_len h s.way
      have a3 := hand_len h (doneW h s) s.readers
      have a4 := note_len h (doneW h s) s.lanes s.readers
      have a5 := takeS_len h (doneW h s) s.lanes s.readers
      have a6 := word_len h s
      have a7 := sendS_len h s.held s.way s.back s.sent
      have a8 : s.held.length * s.sent.length ≤ 900 * 3 := Nat.mul_le_mul sh (by omega)
      omega
    · show _ = (stepsS h s).map encS
      unfold stepsS hearS learnS
      simp only [List.map_append, List.map_map, List.map_nil]
      rfl
end

section
open PySem.W
variable {P : Program} {w : World} {K : PySem.W.Frag} {mg : Str → Option Value} {base : Heap}
/-- the first state -/
def firstSt (h : Ho) : Stt := ⟨0, List.replicate h.m.toNat (-1), [], [], List.replicate (maxL h.cs).toNat [], List.replicate (maxL h.cs).toNat (idleR h.nt), List.replicate h.ls.length 0, [], []⟩
theorem ok_first_state (T : Txt K mg) : FnOk P w K mg base CX0 1 T.a_first_state T.d_first_state ["frame"] (spTy (fun h : Ho => [frD T.C_Frame T.C_Moment h]) (fun h => h.Ok 3) fun h => (firstSt h).dt) := by
  refine T.F_first_state.ok sc_first_state (fun vs H Q E h => ?_) (fun cdv A outer s H vs Q E hr h => ?_)
  · obtain ⟨S, a, o, _⟩ := h
    exact o.len
  · obtain ⟨S, h, o, lv, ok, q⟩ := h
    have ok : h.Ok 3 := ok
    refine ⟨_, (pss_cons (ps_set (i := 1) sc_first_state.nd rfl (Or.inl rfl) (pe_callB (cr_maxT K rfl hr.units) (by rfl) T.z_max (by decide +kernel) (pa_cons (pe_fld (pv 0) rfl) pa_nil)))
      (pss_cons (ps_set (i := 2) sc_first_state.nd rfl (Or.inl rfl) (pe_op op_repB (pe_tupF (pa_cons (pe_un un_neg pe_int) pa_nil)) (pe_fld (pv 0) rfl)))
      (pss_one (ps_ret (pe_tupF (pa_cons pe_int (pa_cons (pv 2) (pa_cons (pe_tupF pa_nil) (pa_cons (pe_tupF pa_nil) (pa_cons (pe_op op_repB (pe_tupF (pa_cons (pe_tupF pa_nil) pa_nil)) (pv 1)) (pa_cons (pe_op op_repB (pe_tupF (pa_cons (pe_fld (pv 0) rfl) pa_nil)) (pv 1)) (pa_cons (pe_op op_repB (pe_tupF (pa_cons pe_int pa_nil)) (pe_callB call_len_seq (by rfl) T.z_len (by decide +kernel) (pa_cons (pe_fld (pv 0) rfl) pa_nil))) (pa_cons (pe_tupF pa_nil) (pa_cons (pe_tupF pa_nil) pa_nil)))))))))))))), ?_⟩
    refine fn_body lv o ?_ q
    obtain ⟨mb1, mb2⟩ := max4 ok
    have cts := ok.cts
    have m1 := ok.m1
    have m2 := ok.m2
    have o1 := ok.o1
    have o2 := ok.o2
    have l3 := ok.ll
    refine Sv_setT (d := .int (maxL h.cs)) (ρ1 := [.d (frD T.C_Frame T.C_Moment h), .d (.int (maxL h.cs)), .no]) (E_maxT (ns := h.cs) (E_fld (E_var rfl) T.L_Frame T.n_Frame_counts rfl) cts.ne) rfl ?_
    refine Sv_setT (d := intT' (List.replicate h.m.toNat (-1))) (ρ1 := [.d (frD T.C_Frame T.C_Moment h), .d (.int (maxL h.cs)), .d (intT' (List.replicate h.m.toNat (-1)))]) (E_eq (E_rep (K := K) (k := h.m) (E_tup (E_cons (E_neg (E_int 1)) E_nil) (by simp)) (E_fld (E_var rfl) T.L_Frame T.n_Frame_senders rfl) (by omega) (by omega)) ?_) rfl ?_
    · show Dt.tup true _ = Dt.tup true _
      rw [List.map_replicate]
    refine Sv_ret (d := (firstSt h).dt) (E_tup (E_cons (E_int 0) (E_cons (E_var rfl) (E_cons (E_tup (ds := []) E_nil (by simp)) (E_cons (E_tup (ds := []) E_nil (by simp)) (E_cons (E_eq (E_rep (K := K) (k := maxL h.cs) (d := .tup true []) (E_tup (E_cons (E_tup E_nil (by simp)) E_nil) (by simp)) (E_var rfl) (by omega) (by omega)) ?_) (E_cons (E_eq (E_rep (K := K) (k := maxL h.cs) (d := (idleR h.nt).dt) (E_tup (E_cons (E_eq (E_fld (E_var rfl) T.L_Frame T.n_Frame_idle rfl) (idle_dt _)) E_nil) (by simp)) (E_var rfl) (by omega) (by omega)) ?_) (E_cons (E_eq (E_rep (K := K) (k := (h.ls.length : Nat)) (d := .int 0) (E_tup (E_cons (E_int 0) E_nil) (by simp)) (E_eq (E_lenT (E_fld (E_var rfl) T.L_Frame T.n_Frame_letters rfl : Ep _ _ (.tup true (h.ls.map Dt.int)))) (by rw [List.length_map])) (by omega) (by omega)) ?_) (E_cons (E_tup (ds := []) E_nil (by simp)) (E_cons (E_tup (ds := []) E_nil (by simp)) E_nil))))))))) (by simp)) rfl
    · show Dt.tup true _ = Dt.tup true ((List.replicate (maxL h.cs).toNat ([] : List R3T)).map encL)
      rw [List.map_replicate]; rfl
    · show Dt.tup true _ = Dt.tup true ((List.replicate (maxL h.cs).toNat (idleR h.nt)).map Rdr.dt)
      rw [List.map_replicate]
    · show Dt.tup true _ = Dt.tup true ((List.replicate h.ls.length (0 : Int)).map Dt.int)
      rw [List.map_replicate, Int.toNat_natCast]
theorem wf_first {h : Ho} (ok : h.Ok 3) : Wf h (firstSt h) := by
  obtain ⟨mb1, mb2⟩ := max4 ok
  have m2 := ok.m2
  have o2 := ok.o2
  have l3 := ok.ll
  refine ⟨⟨?_, by simp [firstSt], by simp [firstSt], ?_, ?_⟩, by simp [firstSt], ?_, by simp [firstSt], by simp [firstSt], ?_, ?_⟩
  · show (List.replicate h.m.toNat (-1 : Int)).length ≤ 900
    rw [List.length_replicate]; omega
  · show (List.replicate (maxL h.cs).toNat ([] : List R3T)).length ≤ 900
    rw [List.length_replicate]; omega
  · intro l hl
    have := List.eq_of_mem_replicate (show l ∈ List.replicate (maxL h.cs).toNat [] from hl)
    subst this; simp
  · show (List.replicate h.m.toNat (-1 : Int)).length = _
    rw [List.length_replicate]
  · show (List.replicate h.ls.length (0 : Int)).length = _
    rw [List.length_replicate]
  · refine ⟨?_, ?_, fun ne r hr => ?_⟩
    · show (List.replicate (maxL h.cs).toNat ([] : List R3T)).length = _
      rw [List.length_replicate]
    · show (List.replicate (maxL h.cs).toNat (idleR h.nt)).length = _
      rw [List.length_replicate]
    · have := List.eq_of_mem_replicate (show r ∈ List.replicate (maxL h.cs).toNat (idleR h.nt) from hr)
      subst this
      exact ⟨0, if_neg ne⟩
end

section
open PySem.W
variable {P : Program} {w : World} {K : PySem.W.Frag} {mg : Str → Option Value} {base : Heap}
theorem ok_frame_of (T : Txt K mg) : FnOk P w K mg base CX0 6 T.a_frame_of T.d_frame_of ["house"] (spTy (fun h : Ho => [h.dt]) (fun h => h.Ok 3) fun h => frD T.C_Frame T.C_Moment h) := by
  refine T.F_frame_of.ok sc_frame_of (fun vs H Q E h => ?_) (fun cdv A outer s H vs Q E hr h => ?_)
  · obtain ⟨S, a, o, _⟩ := h
    exact o.len
  · obtain ⟨S, h, o, lv, ok, q⟩ := h
    have ok : h.Ok 3 := ok
    obtain ⟨v, rfl, oh⟩ := (show Ocs H S vs [h.dt] from o).one
    obtain ⟨p, ob⟩ := oh.obx (ho_pl h)
    have ob := ob p (Nat.le_refl _)
    refine ⟨_, (pss_cons (ps_if (pt_not (pt_val (pe_call (ok_is_house T) (hr.mono (by decide)) rfl T.g_is_house T.F_is_house.kp T.b_is_house .nil pass0 (pa_cons (pv 0) pa_nil))))
      (pss_one ps_never)
      pss_nil)
      (pss_one (ps_ret (pe_make T.M_Frame (ok_init_Frame T) (hr.mono (by decide)) (by rfl) T.g_Frame T.b_init_Frame .nil pass0 (pa_cons (pv 0) pa_nil))))), ?_⟩
    refine ⟨v, rfl, p, v, h.dt, rfl, ob, fun _ _ => rfl, fun H1 k1 => ⟨_, rfl, ?_⟩⟩
    rw [house_ok ok]
    refine iteF ?_
    have o1 := oh.same k1
    have lv1 := Lv.same k1 lv
    refine ⟨v, rfl, fun a dx na nd ne => ?_⟩
    have hd := same_upd (o := .own a) nd
    have ea : upd H1 dx (.own a) a = none := by rw [upd_ne (Ne.symm ne)]; exact na
    have lv2 := Lv.same hd lv1
    have o2 := ((o1.same hd).add ea).put (D := a) (o := .ins T.C_Frame dx []) (.inr rfl)
    refine ⟨a, dx, And1 S a, v, h, 3, rfl, upd_same, .inr rfl, lv2.add ea, o2, ok, fun H' fs vm e F M b => ⟨rfl, ?_⟩⟩
    refine q _ _ (k1.trans fun b' u hb => ?_) (FrAt.oc ⟨a, dx, fs, vm, rfl, e, Lv.out lv2 ea, F.map fun _ _ o => o.sub fun _ h => .inl h, M.sub fun _ h => .inl h⟩)
    have nb : b' ≠ a := fun z => by rw [z, na] at hb; cases hb
    refine b b' u nb ?_
    rw [upd_ne nb]
    exact hd _ _ hb
def spNo : Sp := fun _ _ _ _ => False
theorem ok_can_take (T : Txt K mg) : FnOk P w K mg base CX0 4 T.a_can_take T.d_can_take ["frame", "state", "thing"] spNo := { len := fun _ _ _ _ h => h.elim, run := by intros; exact False.elim ‹_› }
theorem ok_after_step (T : Txt K mg) : FnOk P w K mg base CX0 4 T.a_after_step T.d_after_step ["frame", "state", "step"] spNo := { len := fun _ _ _ _ h => h.elim, run := by intros; exact False.elim ‹_› }
theorem ok_walk (T : Txt K mg) : FnOk P w K mg base CX0 5 T.a_walk T.d_walk ["frame", "start", "steps"] (spTy (fun a : Dt × Dt => [a.1, a.2, .lst []]) (fun _ => True) fun a => .tup true [.lst [a.2], .lst []]) := by
  refine T.F_walk.ok sc_walk (fun vs H Q E h => ?_) (fun cdv A outer s H vs Q E hr h => ?_)
  · obtain ⟨S, a, o, _⟩ := h
    exact o.len
  · obtain ⟨S, ⟨d, e⟩, o, lv, hp, q⟩ := h
    refine ⟨_, (pss_cons (ps_set (i := 3) sc_walk.nd rfl (Or.inl rfl) (pe_lst (pa_cons (pv 1) pa_nil)))
      (pss_cons (ps_set (i := 4) sc_walk.nd rfl (Or.inl rfl) (pe_lst pa_nil))
      (pss_cons (ps_for PassesOwn.never rfl (pi_enum (by rfl) T.z_enumerate (pa_cons (pv 2) pa_nil)) (pg_tup rfl (pgs_cons (pg_name (i := 5) sc_walk.nd rfl (Or.inl rfl)) (pgs_cons (pg_name (i := 6) sc_walk.nd rfl (Or.inl rfl)) pgs_nil)))
      (pss_cons (ps_if (pt_not (pt_val (pe_call (ok_can_take T) (hr.mono (by decide)) rfl T.g_can_take T.F_can_take.kp T.b_can_take .nil pass0 (pa_cons (pv 0) (pa_cons (pe_ix (ixL K) (pv 3) (pe_un un_neg pe_int) (fun _ _ => rfl)) (pa_cons (pv 6) pa_nil))))))
      (pss_one ps_never)
      pss_nil)
      (pss_cons (ps_asg (pe_call (ok_after_step T) (hr.mono (by decide)) rfl T.g_after_step T.F_after_step.kp T.b_after_step .nil pass0 (pa_cons (pv 0) (pa_cons (pe_ix (ixL K) (pv 3) (pe_un un_neg pe_int) (fun _ _ => rfl)) (pa_cons (pv 6) pa_nil)))) (pg_tup rfl (pgs_cons (pg_name (i := 7) sc_walk.nd rfl (Or.inl rfl)) (pgs_cons (pg_name (i := 8) sc_walk.nd rfl (Or.inl rfl)) pgs_nil))))
      (pss_cons (ps_expr (pe_bm PySem.F.plainAttrs_list PySem.F.slot_list_append PySem.F.type_list_append mt_append (pv 3) (pa_cons (pv 7) pa_nil)))
      (pss_one (ps_expr (pe_bm PySem.F.plainAttrs_list PySem.F.slot_list_append PySem.F.type_list_append mt_append (pv 4) (pa_cons (pv 8) pa_nil))))))))
      (pss_one (ps_ret (pe_tupF (pa_cons (pv 3) (pa_cons (pv 4) pa_nil)))))))), ?_⟩
    refine fn_body lv o ?_ q
    refine Sv_newT (ds := [e]) (ρ1 := [.d d, .d e, .d (.lst []), .o [e], .no, .no, .no, .no, .no]) (E_lst (E_cons (E_var rfl) E_nil) (by simp)) rfl ?_
    refine Sv_newT (ds := []) (ρ1 := [.d d, .d e, .d (.lst []), .o [e], .o [], .no, .no, .no, .no]) (E_lst E_nil (by simp)) rfl ?_
    refine Sv_then (ρ1 := [.d d, .d e, .d (.lst []), .o [e], .o [], .no, .no, .no, .no]) (Sv_for (Es_enumL (ds := []) (vs := [5, 6]) (f := fun i ρ => ρ) (E_var rfl) (by simp) fun i d h => nomatch h) (fun _ ρ => ρ = [.d d, .d e, .d (.lst []), .o [e], .o [], .no, .no, .no, .no]) rfl (fun i _ h => absurd h (Nat.not_lt_zero _)) fun ρ' h => h) ?_
    refine Sv_frz (i := 3) rfl rfl (Sv_frz (i := 4) rfl rfl ?_)
    exact Sv_ret (d := .tup true [.lst [e], .lst []]) (E_tup (E_cons (E_var rfl) (E_cons (E_var rfl) E_nil)) (by simp)) rfl
theorem ok_follow (T : Txt K mg) : FnOk P w K mg base CX0 6 T.a_follow T.d_follow ["frame", "run"] (spTy (fun h : Ho => [frD T.C_Frame T.C_Moment h, .lst []]) (fun h => h.Ok 3) fun h => .tup true [.lst [(firstSt h).dt], .lst []]) := by
  refine T.F_follow.ok sc_follow (fun vs H Q E h => ?_) (fun cdv A outer s H vs Q E hr h => ?_)
  · obtain ⟨S, a, o, _⟩ := h
    exact o.len
  · obtain ⟨S, h, o, lv, ok, q⟩ := h
    refine ⟨_, (pss_cons (ps_if (pt_not (pt_val (pe_callB call_isi (by rfl) T.z_isinstance (by decide +kernel) (pa_cons (pv 1) (pa_cons (pe_bltn (v := .ty "list") (by rfl) T.z_list (by decide +kernel) rfl) pa_nil)))))
      (pss_one ps_never)
      pss_nil)
      (pss_cons (ps_asg (pe_call (ok_walk T) (hr.mono (by decide)) rfl T.g_walk T.F_walk.kp T.b_walk .nil pass0 (pa_cons (pv 0) (pa_cons (pe_call (ok_first_state T) (hr.mono (by decide)) rfl T.g_first_state T.F_first_state.kp T.b_first_state .nil pass0 (pa_cons (pv 0) pa_nil)) (pa_cons (pe_slice sl_list (pv 1) po_none (po_some (pe_glob rfl T.g_MOST_STEPS T.r_MOST_STEPS))) pa_nil)))) (pg_tup rfl (pgs_cons (pg_name (i := 2) sc_follow.nd rfl (Or.inl rfl)) (pgs_cons (pg_name (i := 3) sc_follow.nd rfl (Or.inl rfl)) pgs_nil))))
      (pss_cons (ps_if (pt_cmpR op_gt (pe_callB call_len_seq (by rfl) T.z_len (by decide +kernel) (pa_cons (pv 1) pa_nil)) (pe_glob rfl T.g_MOST_STEPS T.r_MOST_STEPS) (nomark _))
      (pss_one ps_never)
      pss_nil)
      (pss_one (ps_ret (pe_tupF (pa_cons (pv 2) (pa_cons (pv 3) pa_nil)))))))), ?_⟩
    refine fn_body lv o ?_ q
    refine Sv_then (Sv_if (b := false) (Et.eq (E_not (E_val (E_isi (E_var rfl) (kit_l (.lst []))))) rfl) (fun z => nomatch z) fun z => Sv_skip rfl) ?_
    refine Sv_asgT (vs := [2, 3]) (ρ1 := [.d (frD T.C_Frame T.C_Moment h), .d (.lst []), .d (.lst [(firstSt h).dt]), .d (.lst [])]) (E_callT (frD T.C_Frame T.C_Moment h, (firstSt h).dt) (E_cons (E_var rfl) (E_cons (E_callT h (E_cons (E_var rfl) E_nil) ok) (E_cons (E_slLTo (ds := []) (E_var rfl : Ep _ _ (.lst [])).l (E_int 200) (by decide)).p E_nil))) trivial) (G_tup (G_cons (G_name (by simp)) (G_cons (G_name (by simp)) G_nil))) ?_
    refine Sv_then (Sv_if (b := false) (E_test (E_gt (E_lenL (E_var rfl : Ep _ _ (.lst [])).l) (E_int 200))) (fun z => nomatch z) fun z => Sv_skip rfl) ?_
    exact Sv_ret (E_tup (E_cons (E_var rfl) (E_cons (E_var rfl) E_nil)) (by simp)) rfl
theorem ok_state_after (T : Txt K mg) : FnOk P w K mg base CX0 7 T.a_state_after T.d_state_after ["house", "run"] (spTy (fun h : Ho => [h.dt, .lst []]) (fun h => h.Ok 3) fun h => (firstSt h).dt) := by
  refine T.F_state_after.ok sc_state_after (fun vs H Q E h => ?_) (fun cdv A outer s H vs Q E hr h => ?_)
  · obtain ⟨S, a, o, _⟩ := h
    exact o.len
  · obtain ⟨S, h, o, lv, ok, q⟩ := h
    refine ⟨_, (pss_cons (ps_asg (pe_call (ok_follow T) (hr.mono (by decide)) rfl T.g_follow T.F_follow.kp T.b_follow .nil pass0 (pa_cons (pe_call (ok_frame_of T) (hr.mono (by decide)) rfl T.g_frame_of T.F_frame_of.kp T.b_frame_of .nil pass0 (pa_cons (pv 0) pa_nil)) (pa_cons (pv 1) pa_nil))) (pg_tup rfl (pgs_cons (pg_name (i := 2) sc_state_after.nd rfl (Or.inl rfl)) (pgs_cons (pg_name (i := 3) sc_state_after.nd rfl (Or.inl rfl)) pgs_nil))))
      (pss_one (ps_ret (pe_ix (ixL K) (pv 2) (pe_un un_neg pe_int) (fun _ _ => rfl))))), ?_⟩
    refine fn_body lv o ?_ q
    refine Sv_asgT (vs := [2, 3]) (ρ1 := [.d h.dt, .d (.lst []), .d (.lst [(firstSt h).dt]), .d (.lst [])]) (E_callT h (E_cons (E_callT h (E_cons (E_var rfl) E_nil) ok) (E_cons (E_var rfl) E_nil)) ok) (G_tup (G_cons (G_name (by simp)) (G_cons (G_name (by simp)) G_nil))) ?_
    exact Sv_ret (E_last (ds := []) (E_var rfl : Ep _ _ (.lst [(firstSt h).dt])).l) rfl
theorem ok_possible_steps (T : Txt K mg) : FnOk P w K mg base CX0 7 T.a_possible_steps T.d_possible_steps ["house", "run"] (spNw (fun h : Ho => [h.dt, .lst []]) (fun h => h.Ok 3) fun h => (stepsS h (firstSt h)).map encS) := by
  refine T.F_possible_steps.ok sc_possible_steps (fun vs H Q E h => ?_) (fun cdv A outer s H vs Q E hr h => ?_)
  · obtain ⟨S, a, o, _⟩ := h
    exact o.len
  · obtain ⟨S, h, o, lv, ok, q⟩ := h
    refine ⟨_, (pss_cons (ps_set (i := 2) sc_possible_steps.nd rfl (Or.inl rfl) (pe_call (ok_frame_of T) (hr.mono (by decide)) rfl T.g_frame_of T.F_frame_of.kp T.b_frame_of .nil pass0 (pa_cons (pv 0) pa_nil)))
      (pss_cons (ps_asg (pe_call (ok_follow T) (hr.mono (by decide)) rfl T.g_follow T.F_follow.kp T.b_follow .nil pass0 (pa_cons (pv 2) (pa_cons (pv 1) pa_nil))) (pg_tup rfl (pgs_cons (pg_name (i := 3) sc_possible_steps.nd rfl (Or.inl rfl)) (pgs_cons (pg_name (i := 4) sc_possible_steps.nd rfl (Or.inl rfl)) pgs_nil))))
      (pss_one (ps_ret (pe_call (ok_steps_in T) (hr.mono (by decide)) rfl T.g_steps_in T.F_steps_in.kp T.b_steps_in .nil pass0 (pa_cons (pv 2) (pa_cons (pe_ix (ixL K) (pv 3) (pe_un un_neg pe_int) (fun _ _ => rfl)) pa_nil))))))), ?_⟩
    refine fn_new lv o ?_ q
    refine Sn_setT (ρ1 := [.d h.dt, .d (.lst []), .d (frD T.C_Frame T.C_Moment h), .no, .no]) (E_callT h (E_cons (E_var rfl) E_nil) ok) rfl ?_
    refine Sn_asgT (vs := [3, 4]) (ρ1 := [.d h.dt, .d (.lst []), .d (frD T.C_Frame T.C_Moment h), .d (.lst [(firstSt h).dt]), .d (.lst [])]) (E_callT h (E_cons (E_var rfl) (E_cons (E_var rfl) E_nil)) ok) (G_tup (G_cons (G_name (by simp)) (G_cons (G_name (by simp)) G_nil))) ?_
    exact Sn_ret (E_callN (h, firstSt h) (E_cons (E_var rfl) (E_cons (E_last (ds := []) (E_var rfl : Ep _ _ (.lst [(firstSt h).dt])).l) E_nil)) ⟨ok, wf_first ok⟩)
theorem ok_events_of (T : Txt K mg) : FnOk P w K mg base CX0 7 T.a_events_of T.d_events_of ["house", "run"] (spNw (fun h : Ho => [h.dt, .lst []]) (fun h => h.Ok 3) fun h => []) := by
  refine T.F_events_of.ok sc_events_of (fun vs H Q E h => ?_) (fun cdv A outer s H vs Q E hr h => ?_)
  · obtain ⟨S, a, o, _⟩ := h
    exact o.len
  · obtain ⟨S, h, o, lv, ok, q⟩ := h
    refine ⟨_, (pss_cons (ps_asg (pe_call (ok_follow T) (hr.mono (by decide)) rfl T.g_follow T.F_follow.kp T.b_follow .nil pass0 (pa_cons (pe_call (ok_frame_of T) (hr.mono (by decide)) rfl T.g_frame_of T.F_frame_of.kp T.b_frame_of .nil pass0 (pa_cons (pv 0) pa_nil)) (pa_cons (pv 1) pa_nil))) (pg_tup rfl (pgs_cons (pg_name (i := 2) sc_events_of.nd rfl (Or.inl rfl)) (pgs_cons (pg_name (i := 3) sc_events_of.nd rfl (Or.inl rfl)) pgs_nil))))
      (pss_one (ps_ret (pe_lc2 (own := [("events", 4), ("event", 5)]) (vs1 := [5]) (g := gName 4) (g1 := gName 5) (tt := tYes) (tt1 := tYes) (by rfl) sc_events_of.nd (pi_list (pv 3)) (blkOk_by (own := [("events", 4), ("event", 5)]) (N := ["house", "run", "_", "happenings", "events", "event"]) (sc := defScope s_events_of) (by decide +kernel)) (by decide) (fun _ _ _ _ _ => (pg_name (i := 4) sc_events_of.nd rfl (Or.inl rfl))) (fun _ _ _ _ _ => pts_nil) (fun _ _ _ _ _ => (pi_listK K (pv 4))) (fun _ _ _ _ _ => (pg_name (i := 5) sc_events_of.nd rfl (Or.inl rfl))) (fun _ _ _ _ _ => pts_nil) (fun _ _ _ _ _ => (pv 5)))))), ?_⟩
    refine fn_new lv o ?_ q
    refine Sn_asgT (vs := [2, 3]) (ρ1 := [.d h.dt, .d (.lst []), .d (.lst [(firstSt h).dt]), .d (.lst []), .no, .no]) (E_callT h (E_cons (E_callT h (E_cons (E_var rfl) E_nil) ok) (E_cons (E_var rfl) E_nil)) ok) (G_tup (G_cons (G_name (by simp)) (G_cons (G_name (by simp)) G_nil))) ?_
    exact Sn_ret (Ef.eq (E_lc2 (n := 0) (m := fun _ => 0) (vs := [4, 5]) (f := fun _ ρ => ρ) (f1 := fun _ _ ρ => ρ) (b := fun _ => true) (r := fun _ _ => none) (Es_list (ds := []) (E_var rfl) fun i d h => nomatch h) (by omega) (fun i hi => absurd hi (Nat.not_lt_zero _)) (fun i hi => absurd hi (Nat.not_lt_zero _)) (fun i hi => absurd hi (Nat.not_lt_zero _)) fun i j hi => absurd hi (Nat.not_lt_zero _)) rfl)
end

inductive Okd : Nat → Dt → Prop where
  | bl {n : Nat} (b : Bool) : Okd n (.bl b)
  | int {n : Nat} (i : Int) : Okd n (.int i)
  | str {n : Nat} (s : Str) : Okd n (.str s)
  | tup {n : Nat} {z : Bool} {ds : List Dt} (l : ds.length ≤ 100000) (p : Dt.plAll ds = true) (h : ∀ d ∈ ds, Okd n d) : Okd (n + 1) (.tup z ds)
  | lst {n : Nat} {ds : List Dt} (l : ds.length ≤ 100000) (p : Dt.plAll ds = true) (h : ∀ d ∈ ds, Okd n d) : Okd (n + 1) (.lst ds)
def spSame : Nat → Sp
  | 0 => fun _ _ _ _ => False
  | n + 1 => spTy (fun d : Dt => [d, d]) (Okd n) fun _ => .bl true
theorem allT (n : Nat) : ((List.range n).filterMap fun _ => some (Dt.bl true)) = (List.replicate n true).map Dt.bl := by
  induction n with
  | zero => rfl
  | succ n ih => rw [List.range_succ, List.filterMap_append, ih, List.replicate_succ', List.map_append]; rfl
theorem allTT (n : Nat) : (List.replicate n true).all id = true := by
  rw [List.all_eq_true]; intro x hx; rw [List.eq_of_mem_replicate hx]; rfl
section
variable {P : Program} {w : World} {K : PySem.W.Frag} {mg : Str → Option Value} {base : Heap}
theorem ok_law_same (T : Txt K mg) : ∀ n, FnOk P w K mg base CX0 n T.a_law_same T.d_law_same ["_law_found", "_law_due"] (spSame n)
  | 0 => { len := fun _ _ _ _ h => h.elim, run := by intros; exact False.elim ‹_› }
  | n + 1 => by
    have ih := ok_law_same T n
    refine T.F_law_same.ok sc_law_same (fun vs H Q E h => ?_) (fun cdv A outer s H vs Q E hr h => ?_)
    · obtain ⟨S, a, o, _⟩ := h
      exact o.len
    · obtain ⟨S, d, o, lv, ok, q⟩ := h
      have ok : Okd n d := ok
      refine ⟨_, (pss_cons (ps_if (PW.pt (pw_or (pt_val (pe_callB call_isi (by rfl) T.z_isinstance (by decide +kernel) (pa_cons (pv 1) (pa_cons (pe_bltn (v := .ty "tuple") (by rfl) T.z_tuple (by decide +kernel) rfl) pa_nil)))) (pw_or1 (pt_val (pe_callB call_isi (by rfl) T.z_isinstance (by decide +kernel) (pa_cons (pv 1) (pa_cons (pe_bltn (v := .ty "list") (by rfl) T.z_list (by decide +kernel) rfl) pa_nil)))))))
      (pss_cons (ps_if (PW.pt (pw_or (pt_cmpR op_ne (pe_callB call_isi (by rfl) T.z_isinstance (by decide +kernel) (pa_cons (pv 0) (pa_cons (pe_bltn (v := .ty "tuple") (by rfl) T.z_tuple (by decide +kernel) rfl) pa_nil))) (pe_callB call_isi (by rfl) T.z_isinstance (by decide +kernel) (pa_cons (pv 1) (pa_cons (pe_bltn (v := .ty "tuple") (by rfl) T.z_tuple (by decide +kernel) rfl) pa_nil))) (nomark _)) (pw_or1 (pt_cmpR op_ne (pe_callB call_isi (by rfl) T.z_isinstance (by decide +kernel) (pa_cons (pv 0) (pa_cons (pe_bltn (v := .ty "list") (by rfl) T.z_list (by decide +kernel) rfl) pa_nil))) (pe_callB call_isi (by rfl) T.z_isinstance (by decide +kernel) (pa_cons (pv 1) (pa_cons (pe_bltn (v := .ty "list") (by rfl) T.z_list (by decide +kernel) rfl) pa_nil))) (nomark _)))))
      (pss_one (ps_ret pe_bl))
      pss_nil)
      (pss_cons (ps_if (pt_cmpR op_ne (pe_callB call_len_seq (by rfl) T.z_len (by decide +kernel) (pa_cons (pv 0) pa_nil)) (pe_callB call_len_seq (by rfl) T.z_len (by decide +kernel) (pa_cons (pv 1) pa_nil)) (nomark _))
      (pss_one (ps_ret pe_bl))
      pss_nil)
      (pss_one (ps_ret (pe_callB (cr_all rfl) (by rfl) T.z_all (by decide +kernel) (pa_cons (pe_lc (own := [("_law_k", 2)]) (g := gName 2) (tt := tYes) (by rfl) sc_law_same.nd (pi_range1 rfl T.z_range (pa_cons (pe_callB call_len_seq (by rfl) T.z_len (by decide +kernel) (pa_cons (pv 1) pa_nil)) pa_nil)) (blkOk_by (own := [("_law_k", 2)]) (N := ["_law_found", "_law_due", "_law_k"]) (sc := defScope s_law_same) (by decide +kernel)) (fun _ _ _ _ _ => (pg_name (i := 2) sc_law_same.nd rfl (Or.inl rfl))) (fun _ _ _ _ _ => pts_nil) (fun _ _ _ _ _ => (pe_call ih hr rfl T.g_law_same T.F_law_same.kp T.b_law_same .nil pass0 (pa_cons (pe_ix (ixB K) (pv 0) (pv 2) (fun _ _ => rfl)) (pa_cons (pe_ix (ixB K) (pv 1) (pv 2) (fun _ _ => rfl)) pa_nil))))) pa_nil))))))
      pss_nil)
      (pss_cons (ps_if (PW.pt (pw_or (pt_cmpR op_ne (pe_callB call_isi (by rfl) T.z_isinstance (by decide +kernel) (pa_cons (pv 0) (pa_cons (pe_bltn (v := .ty "bool") (by rfl) T.z_bool (by decide +kernel) rfl) pa_nil))) (pe_callB call_isi (by rfl) T.z_isinstance (by decide +kernel) (pa_cons (pv 1) (pa_cons (pe_bltn (v := .ty "bool") (by rfl) T.z_bool (by decide +kernel) rfl) pa_nil))) (nomark _)) (pw_or1 (pt_cmpR op_ne (pe_callB call_isi (by rfl) T.z_isinstance (by decide +kernel) (pa_cons (pv 0) (pa_cons (pe_bltn (v := .ty "int") (by rfl) T.z_int (by decide +kernel) rfl) pa_nil))) (pe_callB call_isi (by rfl) T.z_isinstance (by decide +kernel) (pa_cons (pv 1) (pa_cons (pe_bltn (v := .ty "int") (by rfl) T.z_int (by decide +kernel) rfl) pa_nil))) (nomark _)))))
      (pss_one (ps_ret pe_bl))
      pss_nil)
      (pss_one (ps_ret (pe_cmpR op_eq (pv 0) (pv 1) (nomark _)))))), ?_⟩
      refine fn_body (d := .bl true) lv o ?_ (fun v H2 k o => q v H2 k o)
      have C1 : ∀ {ρ : Rho} (j : Nat) (nm : String) (b : Bool), ρ[j]? = some (.d d) → d.pl = true → PySem.W.kitOne K (.type (tyName d)) (.type nm) = some b → Ep (tCB (rIsi K) (tCons (tVar j) (tCons (tC (.ty nm)) tNil))) ρ (.bl b) := fun j nm b hj p k => E_isi (E_var hj) k p
      have neB : ∀ b : Bool, (!decide (b = b)) = false := fun b => by simp
      have neI : ∀ b : Int, (!decide (b = b)) = false := fun b => by simp
      have pl : d.pl = true := by
        cases ok with
        | bl b => rfl
        | int b => rfl
        | str b => rfl
        | tup l p h => exact p
        | lst l p h => exact p
      refine Sv_seq (fun r => r = _ ∧ (isT d || isL d) = false) (Sv_if (b := isT d || isL d) (E_tor (E_val (C1 1 _ _ rfl pl (kit_t d))) fun _ => E_val (C1 1 _ _ rfl pl (kit_l d))) (fun z => ?_) fun z => Sv_skip ⟨rfl, z⟩) fun r hr => ?_
      · refine Sv_then (Sv_if (b := false) (Et.eq (E_tor (E_test (E_neB (C1 0 _ _ rfl pl (kit_t d)) (C1 1 _ _ rfl pl (kit_t d)))) fun _ => E_test (E_neB (C1 0 _ _ rfl pl (kit_l d)) (C1 1 _ _ rfl pl (kit_l d)))) (by simp)) (fun z => nomatch z) fun z => Sv_skip rfl) ?_
        cases ok with
        | bl b => exact nomatch z
        | int b => exact nomatch z
        | str b => exact nomatch z
        | @tup m z ds l p h =>
          refine Sv_then (Sv_if (b := false) (Et.eq (E_test (E_neI (E_lenT (E_var rfl)) (E_lenT (E_var rfl)))) (by simp)) (fun z => nomatch z) fun z => Sv_skip rfl) ?_
          refine Sv_ret (E_all (bs := List.replicate ds.length true) (El.eq (Ef.l (E_lcR (r := fun _ => some (.bl true)) (E_lenT (E_var rfl)) (by omega) fun i hi => C_map (E_callT (enc := fun d : Dt => [d, d]) (pre := Okd m) (F := fun _ => .bl true) ds[i] (E_cons (E_ixBT (E_var rfl) (E_var rfl) (List.getElem?_eq_getElem hi)) (E_cons (E_ixBT (E_var rfl) (E_var rfl) (List.getElem?_eq_getElem hi)) E_nil)) (h _ (List.getElem_mem _))))) (allT _))) (by rw [allTT])
        | @lst m ds l p h =>
          refine Sv_then (Sv_if (b := false) (Et.eq (E_test (E_neI (E_lenL (E_var rfl : Ep _ _ (.lst ds)).l) (E_lenL (E_var rfl : Ep _ _ (.lst ds)).l))) (by simp)) (fun z => nomatch z) fun z => Sv_skip rfl) ?_
          refine Sv_ret (E_all (bs := List.replicate ds.length true) (El.eq (Ef.l (E_lcR (r := fun _ => some (.bl true)) (E_lenL (E_var rfl : Ep _ _ (.lst ds)).l) (by omega) fun i hi => C_map (E_callT (enc := fun d : Dt => [d, d]) (pre := Okd m) (F := fun _ => .bl true) ds[i] (E_cons (E_ixBL (E_var rfl) (E_var rfl) (List.getElem?_eq_getElem hi)) (E_cons (E_ixBL (E_var rfl) (E_var rfl) (List.getElem?_eq_getElem hi)) E_nil)) (h _ (List.getElem_mem _))))) (allT _))) (by rw [allTT])
      · obtain ⟨rfl, z⟩ := hr
        refine Sv_then (Sv_if (b := false) (Et.eq (E_tor (E_test (E_neB (C1 0 _ _ rfl pl (kit_b d)) (C1 1 _ _ rfl pl (kit_b d)))) fun _ => E_test (E_neB (C1 0 _ _ rfl pl (kit_i d)) (C1 1 _ _ rfl pl (kit_i d)))) (by simp)) (fun z => nomatch z) fun z => Sv_skip rfl) ?_
        cases ok with
        | bl b => exact Sv_ret (E_eqV (E_var rfl) (E_var rfl)) (congrArg Dt.bl (decide_eq_true rfl))
        | int b => exact Sv_ret (E_eqV (E_var rfl) (E_var rfl)) (congrArg Dt.bl (decide_eq_true rfl))
        | str b => exact Sv_ret (E_eqV (E_var rfl) (E_var rfl)) (congrArg Dt.bl (decide_eq_true rfl))
        | tup l p h => exact nomatch z
        | lst l p h => exact nomatch z
end

/-! ### the steps of the first state -/
theorem rep_getD {α : Type} (n i : Nat) (a z : α) (h : z = a) : (List.replicate n a).getD i z = a := by
  rw [List.getD_eq_getElem?_getD, List.getElem?_replicate]
  split
  · rfl
  · exact h
theorem rep_zip {α : Type} (a : α) (n : Nat) : (List.replicate n a).zipIdx = (List.range n).map fun i => (a, i) := by
  refine List.ext_getElem (by simp) fun i h1 h2 => by simp
theorem filt_no {α : Type} (l : List α) (p : α → Bool) (h : ∀ a ∈ l, p a = false) : l.filter p = [] := by
  rw [List.filter_eq_nil_iff]
  intro a ha; rw [h a ha]; decide
theorem rdAt_first (h : Ho) {l : Int} (hl : l ∈ readI (doneW h (firstSt h)) h.cs) : rdAt (firstSt h).readers l = idleR h.nt := by
  obtain ⟨hb, _⟩ := mem_lanI.mp hl
  unfold rdAt firstSt
  rw [List.getD_eq_getElem?_getD, List.getElem?_replicate, if_pos (by omega)]; rfl
theorem lnAt_first (h : Ho) (l : Int) : lnAt (firstSt h).lanes l = [] := rep_getD _ _ _ _ rfl
theorem steps_first {h : Ho} (ok : h.Ok 3) : stepsS h (firstSt h) = ((List.range h.m.toNat).map fun i : Nat => (("learn" : Str), [((i : Nat) : Int)])) ++ [(("word" : Str), [])] := by
  have dn : doneW h (firstSt h) = [] := rfl
  have e1 : handS h (doneW h (firstSt h)) (firstSt h).readers = [] := by
    unfold handS
    split
    · rfl
    · rw [filt_no _ _ fun l hl => by rw [rdAt_first h hl]; simp]; rfl
  have e2 : noteS h (doneW h (firstSt h)) (firstSt h).lanes (firstSt h).readers = [] := by
    unfold noteS
    split
    · rename_i nb
      rw [filt_no _ _ fun l hl => by
        rw [rdAt_first h hl]
        have : idleR h.nt = .n 0 := by unfold idleR; rw [nb]; rfl
        rw [this]; simp]; rfl
    · split
      · rw [filt_no _ _ fun l hl => by rw [lnAt_first]; simp]; rfl
      · rfl
  have e3 : takeS h (doneW h (firstSt h)) (firstSt h).lanes (firstSt h).readers = [] := by
    unfold takeS
    split
    · rename_i nb
      rw [filt_no _ _ fun l hl => by
        rw [rdAt_first h hl]
        have : idleR h.nt = .e := by unfold idleR; rw [nb]; rfl
        rw [this]; simp]; rfl
    · rename_i nb
      rw [filt_no _ _ fun l hl => by
        rw [rdAt_first h hl, lnAt_first]
        have : idleR h.nt = .n 0 := by unfold idleR; rw [if_neg nb]
        rw [this]; rfl]; rfl
  have e4 : sendS h (firstSt h).held (firstSt h).way (firstSt h).back (firstSt h).sent = [] := by
    unfold sendS
    rw [List.flatMap_eq_nil_iff]
    intro i hi
    have hl : i < h.m.toNat := by
      have := List.mem_range.mp hi
      rwa [show (firstSt h).held = List.replicate h.m.toNat (-1) from rfl, List.length_replicate] at this
    rw [show (firstSt h).held = List.replicate h.m.toNat (-1) from rfl, List.getD_eq_getElem?_getD, List.getElem?_replicate, if_pos hl]; rfl
  have e5 : hearS h (firstSt h) = [] := by
    unfold hearS
    rw [filt_no _ _ fun q hq => by
      rw [show (firstSt h).held = List.replicate h.m.toNat (-1) from rfl, rep_zip, List.mem_map] at hq
      obtain ⟨i, _, rfl⟩ := hq
      rfl]; rfl
  have e6 : learnS h (firstSt h) = (List.range h.m.toNat).map fun i : Nat => (("learn" : Str), [((i : Nat) : Int)]) := by
    unfold learnS
    rw [show (firstSt h).held = List.replicate h.m.toNat (-1) from rfl, rep_zip, List.filter_eq_self.mpr ?_, List.map_map]
    · rfl
    · intro q hq
      rw [List.mem_map] at hq
      obtain ⟨i, _, rfl⟩ := hq
      rw [dn]; rfl
  have e7 : wordS h (firstSt h) = [(("word" : Str), [])] := by
    unfold wordS
    have wl : 0 < h.ws.length := by
      have := ok.c1
      unfold cntS at this
      have := List.countP_le_length (p := fun y => decide (y = ("show" : Str))) (l := h.ws)
      omega
    have ce : ∀ k, edsI k (firstSt h) = [] := fun k => by
      unfold edsI
      split
      · exact filt_no _ _ fun e he => by rw [List.eq_of_mem_replicate (show e ∈ List.replicate h.m.toNat (-1) from he)]; rfl
      · split
        · rfl
        · split
          · rw [List.flatMap_eq_nil_iff]
            intro l hl
            rw [List.eq_of_mem_replicate (show l ∈ List.replicate (maxL h.cs).toNat [] from hl)]; rfl
          · rfl
    rw [if_pos]
    have a1 : decide ((firstSt h).place < h.ws.length) = true := decide_eq_true wl
    rw [a1, Bool.true_and]
    unfold canB
    rw [ce]; simp
  have e8 : arriveS h (firstSt h).way = [] := by
    show arriveS h [] = []
    unfold arriveS sortA
    simp
  have e9 : againS (firstSt h).held (firstSt h).back = [] := rfl
  unfold stepsS
  rw [e1, e2, e3, e4, e5, e6, e7, e8, e9]; rfl
theorem okd_ints {n : Nat} (ns : List Int) (l : ns.length ≤ 100000) : Okd (n + 1) (intT' ns) := .tup (by rw [List.length_map]; exact l) (pl_ints ns) fun d hd => by
  obtain ⟨i, _, rfl⟩ := List.mem_map.mp hd
  exact .int i
theorem okd_nil {n : Nat} : Okd (n + 1) (.tup true []) := .tup (by simp) rfl fun d hd => nomatch hd
theorem st_pl (s : Stt) : s.dt.pl = true := by
  have e1 : (intT' s.held).pl = true := pl_ints _
  have e2 : (Dt.tup true (s.way.map enc4)).pl = true := pl_of_map q_4.pl _
  have e3 : (Dt.tup true (s.back.map enc4)).pl = true := pl_of_map q_4.pl _
  have e4 : (Dt.tup true (s.lanes.map encL)).pl = true := pl_of_map (f := encL) (fun a => (pl_of_map q_3.pl a : (encL a).pl = true)) _
  have e5 : (Dt.tup true (s.readers.map Rdr.dt)).pl = true := pl_of_map q_rdr.pl _
  have e6 : (intT' s.sent).pl = true := pl_ints _
  have e7 : (Dt.tup true (s.taken.map enc2)).pl = true := pl_of_map q_2.pl _
  have e8 : (Dt.tup true (s.lost.map enc2)).pl = true := pl_of_map q_2.pl _
  show Dt.plAll [Dt.int (s.place : Nat), intT' s.held, .tup true (s.way.map enc4), .tup true (s.back.map enc4), .tup true (s.lanes.map encL), .tup true (s.readers.map Rdr.dt), intT' s.sent, .tup true (s.taken.map enc2), .tup true (s.lost.map enc2)] = true
  simp only [Dt.plAll, e1, e2, e3, e4, e5, e6, e7, e8]; rfl
theorem okd_first {h : Ho} (ok : h.Ok 3) : Okd 3 (firstSt h).dt := by
  obtain ⟨mb1, mb2⟩ := max4 ok
  have m2 := ok.m2
  have o2 := ok.o2
  have l3 := ok.ll
  have wf := wf_first ok
  refine .tup (by simp) (st_pl (firstSt h)) fun d hd => ?_
  rcases List.mem_cons.mp hd with rfl | hd
  · exact .int _
  rcases List.mem_cons.mp hd with rfl | hd
  · exact okd_ints _ (by have := wf.sz.held; omega)
  rcases List.mem_cons.mp hd with rfl | hd
  · exact okd_nil
  rcases List.mem_cons.mp hd with rfl | hd
  · exact okd_nil
  rcases List.mem_cons.mp hd with rfl | hd
  · refine .tup (by rw [List.length_map]; have := wf.sz.lanes; omega) (pl_of_map (f := encL) (fun a => (pl_of_map q_3.pl a : (encL a).pl = true)) _ : (Dt.tup true _).pl = true) fun d hd => ?_
    obtain ⟨l, hl, rfl⟩ := List.mem_map.mp hd
    rw [List.eq_of_mem_replicate (show l ∈ List.replicate (maxL h.cs).toNat [] from hl)]
    exact okd_nil
  rcases List.mem_cons.mp hd with rfl | hd
  · refine .tup (by rw [List.length_map]; have := wf.rd.l2; omega) (pl_of_map q_rdr.pl _ : (Dt.tup true _).pl = true) fun d hd => ?_
    obtain ⟨l, hl, rfl⟩ := List.mem_map.mp hd
    rw [List.eq_of_mem_replicate (show l ∈ List.replicate (maxL h.cs).toNat (idleR h.nt) from hl)]
    unfold idleR
    split
    · exact okd_nil
    · exact .int 0
  rcases List.mem_cons.mp hd with rfl | hd
  · exact okd_ints _ (by have := wf.sent; omega)
  rcases List.mem_cons.mp hd with rfl | hd
  · exact okd_nil
  rcases List.mem_cons.mp hd with rfl | hd
  · exact okd_nil
  · cases hd
theorem pl_encS (a : Stp) : (encS a).pl = true := by
  show Dt.plAll (.str a.1 :: a.2.map Dt.int) = true
  rw [Dt.plAll]
  exact (by rw [show (Dt.str a.1).pl = true from rfl, Bool.true_and]; exact pl_ints a.2)
theorem okd_steps (l : List Stp) (hl : l.length ≤ 100000) (ha : ∀ a ∈ l, a.2.length ≤ 10) : Okd 3 (.lst (l.map encS)) := by
  refine .lst (by rw [List.length_map]; exact hl) (pl_of_map pl_encS l : (Dt.tup true _).pl = true) fun d hd => ?_
  obtain ⟨a, hm, rfl⟩ := List.mem_map.mp hd
  refine .tup (by have := ha a hm; simp only [List.length_cons, List.length_map]; omega) (pl_encS a) fun d hd => ?_
  rcases List.mem_cons.mp hd with rfl | hd
  · exact .str _
  · obtain ⟨i, _, rfl⟩ := List.mem_map.mp hd
    exact .int i

section
open PySem.W
variable {P : Program} {w : World} {K : PySem.W.Frag} {mg : Str → Option Value} {base : Heap}
def spLaw (K : PySem.W.Frag) : Sp := fun vs H Q _ => ∃ (a : Addr) (ns : List Int), vs = [.ref a] ∧ SqL K H a (ns.map V.int) ∧ ns.length ≤ 63 ∧ (∀ z ∈ ns, Builtin.Int.intBits z ≤ 1048576) ∧ ∀ H', Q (.bl true) H'
def noO : Rho → Bool
  | [] => true
  | .o _ :: _ => false
  | _ :: r => noO r
theorem noO_of : ∀ {ρ : Rho}, noO ρ = true → ∀ (i : Nat) (ds : List Dt), ρ[i]? ≠ some (.o ds)
  | [], _, _, _ => nofun
  | .o _ :: _, h, _, _ => nomatch h
  | .no :: r, h, 0, _ => nofun
  | .d _ :: r, h, 0, _ => nofun
  | .v _ :: r, h, 0, _ => nofun
  | .no :: r, h, i + 1, ds => noO_of (ρ := r) h i ds
  | .d _ :: r, h, i + 1, ds => noO_of (ρ := r) h i ds
  | .v _ :: r, h, i + 1, ds => noO_of (ρ := r) h i ds
theorem ok_law (T : Txt K mg) : FnOk P w K mg base CX0 8 T.a_law T.d_law ["_law_script"] (spLaw K) := by
  refine T.F_law.ok sc_law (fun vs H Q E h => ?_) (fun cdv A outer s₀ H vs Q E hr h => ?_)
  · obtain ⟨a, ns, rfl, _⟩ := h
    rfl
  · obtain ⟨x, ns, rfl, hS, hlen, hb, q⟩ := h
    refine ⟨_, (pss_cons (ps_set (i := 1) sc_law.nd rfl (Or.inl rfl) (pe_call (ok_law_source T) (hr.mono (by decide)) rfl T.g_law_source T.F_law_source.kp T.b_law_source .nil pass0 (pa_cons (pv 0) pa_nil)))
      (pss_cons (ps_set (i := 2) sc_law.nd rfl (Or.inl rfl) (pe_call (ok_law_house T) (hr.mono (by decide)) rfl T.g_law_house T.F_law_house.kp T.b_law_house .nil pass0 (pa_cons (pv 1) (pa_cons pe_int (pa_cons pe_int pa_nil)))))
      (pss_cons (ps_set (i := 3) sc_law.nd rfl (Or.inl rfl) (pe_callB (cr_maxT K rfl hr.units) (by rfl) T.z_max (by decide +kernel) (pa_cons (pe_ix (ixT K) (pv 2) pe_int (fun _ _ => rfl)) pa_nil)))
      (pss_cons (ps_set (i := 4) sc_law.nd rfl (Or.inr rfl) pe_int)
      (pss_cons (ps_if (pt_cmpR op_eq (pe_ix (ixT K) (pe_ix (ixT K) (pv 2) pe_int (fun _ _ => rfl)) pe_int (fun _ _ => rfl)) pe_str (nomark _))
      (pss_one (ps_set (i := 4) sc_law.nd rfl (Or.inr rfl) (pe_tupF pa_nil)))
      pss_nil)
      (pss_cons (ps_set (i := 5) sc_law.nd rfl (Or.inl rfl) (pe_tupleOfF (by rfl) T.z_tuple (pe_lc (own := [("_law_k", 13)]) (g := gName 13) (tt := tYes) (by rfl) sc_law.nd (pi_range1 rfl T.z_range (pa_cons (pv 3) pa_nil)) (blkOk_by (own := [("_law_k", 13)]) (N := ["_law_script", "_law_source_here", "_law_house_here", "_law_lanes", "_law_stand", "_law_empty", "_law_stands", "_law_nobody", "_law_due", "_law_steps", "_law_run", "_law_found", "_law_events", "_law_k"]) (sc := defScope s_law) (by decide +kernel)) (fun _ _ _ _ _ => (pg_name (i := 13) sc_law.nd rfl (Or.inl rfl))) (fun _ _ _ _ _ => pts_nil) (fun _ _ _ _ _ => (pe_tupF pa_nil)))))
      (pss_cons (ps_set (i := 6) sc_law.nd rfl (Or.inl rfl) (pe_tupleOfF (by rfl) T.z_tuple (pe_lc (own := [("_law_k", 13)]) (g := gName 13) (tt := tYes) (by rfl) sc_law.nd (pi_range1 rfl T.z_range (pa_cons (pv 3) pa_nil)) (blkOk_by (own := [("_law_k", 13)]) (N := ["_law_script", "_law_source_here", "_law_house_here", "_law_lanes", "_law_stand", "_law_empty", "_law_stands", "_law_nobody", "_law_due", "_law_steps", "_law_run", "_law_found", "_law_events", "_law_k"]) (sc := defScope s_law) (by decide +kernel)) (fun _ _ _ _ _ => (pg_name (i := 13) sc_law.nd rfl (Or.inl rfl))) (fun _ _ _ _ _ => pts_nil) (fun _ _ _ _ _ => (pv 4)))))
      (pss_cons (ps_set (i := 7) sc_law.nd rfl (Or.inl rfl) (pe_tupleOfF (by rfl) T.z_tuple (pe_lc (own := [("_law_k", 13)]) (g := gName 13) (tt := tYes) (by rfl) sc_law.nd (pi_range1 rfl T.z_range (pa_cons (pe_ix (ixT K) (pv 2) pe_int (fun _ _ => rfl)) pa_nil)) (blkOk_by (own := [("_law_k", 13)]) (N := ["_law_script", "_law_source_here", "_law_house_here", "_law_lanes", "_law_stand", "_law_empty", "_law_stands", "_law_nobody", "_law_due", "_law_steps", "_law_run", "_law_found", "_law_events", "_law_k"]) (sc := defScope s_law) (by decide +kernel)) (fun _ _ _ _ _ => (pg_name (i := 13) sc_law.nd rfl (Or.inl rfl))) (fun _ _ _ _ _ => pts_nil) (fun _ _ _ _ _ => (pe_un un_neg pe_int)))))
      (pss_cons (ps_set (i := 8) sc_law.nd rfl (Or.inl rfl) (pe_tupF (pa_cons pe_int (pa_cons (pv 7) (pa_cons (pe_tupF pa_nil) (pa_cons (pe_tupF pa_nil) (pa_cons (pv 5) (pa_cons (pv 6) (pa_cons (pe_tupleOfF (by rfl) T.z_tuple (pe_lc (own := [("_law_k", 13)]) (g := gName 13) (tt := tYes) (by rfl) sc_law.nd (pi_tup (pe_ix (ixT K) (pv 2) pe_int (fun _ _ => rfl))) (blkOk_by (own := [("_law_k", 13)]) (N := ["_law_script", "_law_source_here", "_law_house_here", "_law_lanes", "_law_stand", "_law_empty", "_law_stands", "_law_nobody", "_law_due", "_law_steps", "_law_run", "_law_found", "_law_events", "_law_k"]) (sc := defScope s_law) (by decide +kernel)) (fun _ _ _ _ _ => (pg_name (i := 13) sc_law.nd rfl (Or.inl rfl))) (fun _ _ _ _ _ => pts_nil) (fun _ _ _ _ _ => pe_int))) (pa_cons (pe_tupF pa_nil) (pa_cons (pe_tupF pa_nil) pa_nil)))))))))))
      (pss_cons (ps_set (i := 9) sc_law.nd rfl (Or.inl rfl) (pe_op op_cat (pe_lc (own := [("_law_k", 13)]) (g := gName 13) (tt := tYes) (by rfl) sc_law.nd (pi_range1 rfl T.z_range (pa_cons (pe_ix (ixT K) (pv 2) pe_int (fun _ _ => rfl)) pa_nil)) (blkOk_by (own := [("_law_k", 13)]) (N := ["_law_script", "_law_source_here", "_law_house_here", "_law_lanes", "_law_stand", "_law_empty", "_law_stands", "_law_nobody", "_law_due", "_law_steps", "_law_run", "_law_found", "_law_events", "_law_k"]) (sc := defScope s_law) (by decide +kernel)) (fun _ _ _ _ _ => (pg_name (i := 13) sc_law.nd rfl (Or.inl rfl))) (fun _ _ _ _ _ => pts_nil) (fun _ _ _ _ _ => (pe_tupF (pa_cons pe_str (pa_cons (pv 13) pa_nil))))) (pe_lst (pa_cons (pe_tupF (pa_cons pe_str pa_nil)) pa_nil))))
      (pss_cons (ps_set (i := 10) sc_law.nd rfl (Or.inl rfl) (pe_lst pa_nil))
      (pss_cons (ps_if (pt_not (pt_val (pe_call (ok_law_same T 4) (hr.mono (by decide)) rfl T.g_law_same T.F_law_same.kp T.b_law_same .nil pass0 (pa_cons (pe_call (ok_state_after T) (hr.mono (by decide)) rfl T.g_state_after T.F_state_after.kp T.b_state_after .nil pass0 (pa_cons (pv 2) (pa_cons (pv 10) pa_nil))) (pa_cons (pv 8) pa_nil)))))
      (pss_one (ps_ret pe_bl))
      pss_nil)
      (pss_cons (ps_set (i := 11) sc_law.nd rfl (Or.inl rfl) (pe_call (ok_possible_steps T) (hr.mono (by decide)) rfl T.g_possible_steps T.F_possible_steps.kp T.b_possible_steps .nil pass0 (pa_cons (pv 2) (pa_cons (pv 10) pa_nil))))
      (pss_cons (ps_set (i := 12) sc_law.nd rfl (Or.inl rfl) (pe_call (ok_events_of T) (hr.mono (by decide)) rfl T.g_events_of T.F_events_of.kp T.b_events_of .nil pass0 (pa_cons (pv 2) (pa_cons (pv 10) pa_nil))))
      (pss_cons (ps_if (PW.pt (pw_or (pt_not (pt_val (pe_call (ok_law_same T 4) (hr.mono (by decide)) rfl T.g_law_same T.F_law_same.kp T.b_law_same .nil pass0 (pa_cons (pv 11) (pa_cons (pv 9) pa_nil))))) (pw_or1 (pt_not (pt_val (pe_call (ok_law_same T 4) (hr.mono (by decide)) rfl T.g_law_same T.F_law_same.kp T.b_law_same .nil pass0 (pa_cons (pv 12) (pa_cons (pe_lst pa_nil) pa_nil))))))))
      (pss_one (ps_ret pe_bl))
      pss_nil)
      (pss_cons (ps_expr (pe_bm PySem.F.plainAttrs_list PySem.F.slot_list_append PySem.F.type_list_append mt_append (pv 11) (pa_cons (pe_tupF (pa_cons pe_str (pa_cons pe_int pa_nil))) pa_nil)))
      (pss_cons (ps_expr (pe_bm PySem.F.plainAttrs_list PySem.F.slot_list_append PySem.F.type_list_append mt_append (pv 12) (pa_cons (pe_tupF (pa_cons pe_str (pa_cons pe_int (pa_cons pe_int pa_nil)))) pa_nil)))
      (pss_cons (ps_if (PW.pt (pw_or (pt_truth (pv 10) (by intro _; rfl)) (pw_or1 (pt_not (pt_val (pe_call (ok_law_same T 4) (hr.mono (by decide)) rfl T.g_law_same T.F_law_same.kp T.b_law_same .nil pass0 (pa_cons (pe_call (ok_possible_steps T) (hr.mono (by decide)) rfl T.g_possible_steps T.F_possible_steps.kp T.b_possible_steps .nil pass0 (pa_cons (pv 2) (pa_cons (pv 10) pa_nil))) (pa_cons (pv 9) pa_nil))))))))
      (pss_one (ps_ret pe_bl))
      pss_nil)
      (pss_one (ps_ret (pe_and (pe_call (ok_law_same T 4) (hr.mono (by decide)) rfl T.g_law_same T.F_law_same.kp T.b_law_same .nil pass0 (pa_cons (pe_call (ok_events_of T) (hr.mono (by decide)) rfl T.g_events_of T.F_events_of.kp T.b_events_of .nil pass0 (pa_cons (pv 2) (pa_cons (pv 10) pa_nil))) (pa_cons (pe_lst pa_nil) pa_nil))) (pe_one (pe_call (ok_law_same T 4) (hr.mono (by decide)) rfl T.g_law_same T.F_law_same.kp T.b_law_same .nil pass0 (pa_cons (pe_call (ok_state_after T) (hr.mono (by decide)) rfl T.g_state_after T.F_state_after.kp T.b_state_after .nil pass0 (pa_cons (pv 2) (pa_cons (pv 10) pa_nil))) (pa_cons (pv 8) pa_nil))))))))))))))))))))))))), ?_⟩
    refine ⟨.ref x, rfl, x, ns, rfl, hS, hlen, hb, fun p H1 hp S1 k1 => ?_⟩
    have L1 : Live H1 (fun _ => False) := fun _ h => False.elim h
    refine ⟨.ref p, rfl, p, 0, 3, _, rfl, by decide, by decide, S1, L1, by decide, fun hv H2 h ok oh S2 B2 => ?_⟩
    have oc := oh.oc (ho_pl h)
    have en : En H2 (fun _ => False) [some (.ref x), some (.ref p), some hv, none, none, none, none, none, none, none, none, none, none, none] [.no, .no, .d h.dt, .no, .no, .no, .no, .no, .no, .no, .no, .no, .no, .no] := En.no (En.no (En.cons oc (En.no (En.no (En.no (En.no (En.no (En.no (En.no (En.no (En.no (En.no (En.no (En.nil fun _ z => z.elim))))))))))))))
    clear oc oh S2 B2 k1 S1 hS
    dsimp only [gName]
    refine (?_ : Sv H2 (fun _ => False) _ [.no, .no, .d h.dt, .no, .no, .no, .no, .no, .no, .no, .no, .no, .no, .no] ⟨fun _ => False, fun e => e = .bl true, fun _ => False, fun _ => False⟩) H2 _ _ _ en (Rl.refl (fun _ z => z.elim) (noO_of rfl)) (fun _ _ _ _ z => z.elim) (fun d v H3 e k o => ?_) (fun _ _ _ _ z => z.elim) (fun _ _ _ _ z => z.elim)
    · have cts := ok.cts
      obtain ⟨mb1, mb2⟩ := max4 ok
      have m1 := ok.m1
      have m2 := ok.m2
      have o2 := ok.o2
      have l3 := ok.ll
      have ev : ∀ {ρ : Rho}, ρ[2]? = some (.d h.dt) → Ep (tVar 2) ρ (.tup true [schemeT h.b0 h.b1 h.b2 h.r h.nt, strT h.ws, intT h.cs, .tup true (h.os.map intT), intT h.ls, .int h.m]) := fun e => E_var e
      have em : ((maxL h.cs).toNat : Int) = maxL h.cs := Int.toNat_of_nonneg (by omega)
      have eh : (h.m.toNat : Int) = h.m := Int.toNat_of_nonneg (by omega)
      have stp := steps_first ok
      have fe : ∀ n : Nat, ((List.range n).filterMap fun i : Nat => some (encS (("learn" : Str), [((i : Nat) : Int)]))) = (List.range n).map fun i : Nat => encS (("learn" : Str), [((i : Nat) : Int)]) := fun n => by rw [← List.filterMap_eq_map]; rfl
      have od := okd_first ok
      have os : Okd 3 (.lst ((stepsS h (firstSt h)).map encS)) := by
        rw [stp]
        refine okd_steps _ (by simp only [List.length_append, List.length_map, List.length_range, List.length_cons, List.length_nil]; omega) fun a ha => ?_
        rcases List.mem_append.mp ha with ha | ha
        · obtain ⟨i, _, rfl⟩ := List.mem_map.mp ha
          simp
        · rw [List.mem_singleton.mp ha]; simp
      have on : Okd 3 (.lst []) := .lst (by simp) rfl fun d hd => nomatch hd
      refine Sv_setT (d := .int (maxL h.cs)) (ρ1 := [.no, .no, .d h.dt, .d (.int (maxL h.cs)), .no, .no, .no, .no, .no, .no, .no, .no, .no, .no]) (E_maxT (ns := h.cs) (E_ixTi (i := 2) (ev rfl) (E_int 2) (by decide) rfl) cts.ne) rfl ?_
      refine Sv_setT (d := .int 0) (ρ1 := [.no, .no, .d h.dt, .d (.int (maxL h.cs)), .d (.int 0), .no, .no, .no, .no, .no, .no, .no, .no, .no]) (E_int 0) rfl ?_
      refine Sv_then (ρ1 := [.no, .no, .d h.dt, .d (.int (maxL h.cs)), .d (idleR h.nt).dt, .no, .no, .no, .no, .no, .no, .no, .no, .no]) (Sv_if (b := decide (h.nt = ("first" : Str))) (E_test (E_eqS (E_ixTi (i := 3) (E_ixTi (i := 0) (ev rfl) (E_int 0) (by decide) rfl : Ep _ _ (.tup true [.bl h.b0, .bl h.b1, .str h.r, .str h.nt, .bl h.b2])) (E_int 3) (by decide) rfl) (E_str _))) (fun z => Sv_set (d := .tup true []) (E_tup E_nil (by simp)) ?_) fun z => Sv_skip ?_) ?_
      · have e : idleR h.nt = .e := if_pos (of_decide_eq_true z)
        rw [e]; rfl
      · have e : idleR h.nt = .n 0 := if_neg (of_decide_eq_false z)
        rw [e]; rfl
      obtain ⟨dE, hE⟩ : ∃ d, d = Dt.tup true ((firstSt h).lanes.map encL) := ⟨_, rfl⟩
      obtain ⟨dS, hS⟩ : ∃ d, d = Dt.tup true ((firstSt h).readers.map Rdr.dt) := ⟨_, rfl⟩
      obtain ⟨dN, hN⟩ : ∃ d, d = intT' (firstSt h).held := ⟨_, rfl⟩
      obtain ⟨dD, hD⟩ : ∃ d, d = (firstSt h).dt := ⟨_, rfl⟩
      obtain ⟨dQ, hQ⟩ : ∃ d, d = Dt.lst ((stepsS h (firstSt h)).map encS) := ⟨_, rfl⟩
      refine Sv_setT (d := dE) (ρ1 := [.no, .no, .d h.dt, .d (.int (maxL h.cs)), .d (idleR h.nt).dt, .d dE, .no, .no, .no, .no, .no, .no, .no, .no]) (E_eq (E_tupOf (E_lcR (n := (maxL h.cs).toNat) (r := fun _ => some (.tup true [])) (E_eq (E_var rfl) (by rw [em])) (by omega) fun i hi => C_map (E_tup E_nil (by simp))).l) ?_) rfl ?_
      · rw [hE, rng_const]
        show _ = Dt.tup true ((List.replicate (maxL h.cs).toNat ([] : List R3T)).map encL)
        rw [List.map_replicate]; rfl
      refine Sv_setT (d := dS) (ρ1 := [.no, .no, .d h.dt, .d (.int (maxL h.cs)), .d (idleR h.nt).dt, .d dE, .d dS, .no, .no, .no, .no, .no, .no, .no]) (E_eq (E_tupOf (E_lcR (n := (maxL h.cs).toNat) (r := fun _ => some (idleR h.nt).dt) (E_eq (E_var rfl) (by rw [em])) (by omega) fun i hi => C_map (E_var rfl)).l) ?_) rfl ?_
      · rw [hS, rng_const]
        show _ = Dt.tup true ((List.replicate (maxL h.cs).toNat (idleR h.nt)).map Rdr.dt)
        rw [List.map_replicate]
      refine Sv_setT (d := dN) (ρ1 := [.no, .no, .d h.dt, .d (.int (maxL h.cs)), .d (idleR h.nt).dt, .d dE, .d dS, .d dN, .no, .no, .no, .no, .no, .no]) (E_eq (E_tupOf (E_lcR (n := h.m.toNat) (r := fun _ => some (.int (-1))) (E_eq (E_ixTi (i := 5) (ev rfl) (E_int 5) (by decide) rfl) (by rw [eh])) (by omega) fun i hi => C_map (E_neg (E_int 1))).l) ?_) rfl ?_
      · rw [hN, rng_const]
        show _ = Dt.tup true ((List.replicate h.m.toNat (-1 : Int)).map Dt.int)
        rw [List.map_replicate]
      refine Sv_setT (d := dD) (ρ1 := [.no, .no, .d h.dt, .d (.int (maxL h.cs)), .d (idleR h.nt).dt, .d dE, .d dS, .d dN, .d dD, .no, .no, .no, .no, .no]) (E_eq (E_tup (ds := [.int 0, dN, .tup true [], .tup true [], dE, dS, intT' (firstSt h).sent, .tup true [], .tup true []]) (E_cons (E_int 0) (E_cons (E_var rfl) (E_cons (E_tup E_nil (by simp)) (E_cons (E_tup E_nil (by simp)) (E_cons (E_var rfl) (E_cons (E_var rfl) (E_cons (E_eq (E_tupOf (E_lcT (r := fun _ => some (.int 0)) (E_ixTi (i := 4) (ev rfl) (E_int 4) (by decide) rfl : Ep _ _ (.tup true (h.ls.map Dt.int))) (by rw [List.length_map]; omega) fun d hd => C_map (E_int 0)).l) ?_) (E_cons (E_tup E_nil (by simp)) (E_cons (E_tup E_nil (by simp)) E_nil))))))))) (by simp)) ?_) rfl ?_
      · rw [fm_const, List.length_map]
        show _ = Dt.tup true ((List.replicate h.ls.length (0 : Int)).map Dt.int)
        rw [List.map_replicate]
      · rw [hD, hN, hE, hS]; rfl
      refine Sv_setT (d := dQ) (ρ1 := [.no, .no, .d h.dt, .d (.int (maxL h.cs)), .d (idleR h.nt).dt, .d dE, .d dS, .d dN, .d dD, .d dQ, .no, .no, .no, .no]) (E_eq (E_catL (E_lcR (n := h.m.toNat) (r := fun i => some (encS (("learn" : Str), [((i : Nat) : Int)]))) (E_eq (E_ixTi (i := 5) (ev rfl) (E_int 5) (by decide) rfl) (by rw [eh])) (by omega) fun i hi => C_map (E_tup (E_cons (E_str _) (E_cons (E_var rfl) E_nil)) (by simp))).l (E_lst (E_cons (E_tup (E_cons (E_str _) E_nil) (by simp)) E_nil) (by simp)).l ?_).p ?_) rfl ?_
      · rw [fe, List.length_map, List.length_range]
        simp only [List.length_cons, List.length_nil]; omega
      · rw [hQ, stp, fe, List.map_append, List.map_map]; rfl
      refine Sv_setT (d := .lst []) (ρ1 := [.no, .no, .d h.dt, .d (.int (maxL h.cs)), .d (idleR h.nt).dt, .d dE, .d dS, .d dN, .d dD, .d dQ, .d (.lst []), .no, .no, .no]) (E_lst E_nil (by simp)).p rfl ?_
      refine Sv_then (Sv_if (b := false) (Et.eq (E_not (E_val (E_callT (enc := fun d : Dt => [d, d]) (pre := Okd 3) (F := fun _ => .bl true) dD (E_cons (E_eq (E_callT h (E_cons (E_var rfl) (E_cons (E_var rfl) E_nil)) ok) hD.symm) (E_cons (E_var rfl) E_nil)) (hD ▸ od)))) rfl) (fun z => nomatch z) fun z => Sv_skip rfl) ?_
      refine Sv_newT (ds := (stepsS h (firstSt h)).map encS) (ρ1 := [.no, .no, .d h.dt, .d (.int (maxL h.cs)), .d (idleR h.nt).dt, .d dE, .d dS, .d dN, .d dD, .d dQ, .d (.lst []), .o ((stepsS h (firstSt h)).map encS), .no, .no]) (E_callN h (E_cons (E_var rfl) (E_cons (E_var rfl) E_nil)) ok) rfl ?_
      refine Sv_newT (ds := []) (ρ1 := [.no, .no, .d h.dt, .d (.int (maxL h.cs)), .d (idleR h.nt).dt, .d dE, .d dS, .d dN, .d dD, .d dQ, .d (.lst []), .o ((stepsS h (firstSt h)).map encS), .o [], .no]) (E_callN h (E_cons (E_var rfl) (E_cons (E_var rfl) E_nil)) ok) rfl ?_
      refine Sv_then (Sv_if (b := false) (Et.eq (E_tor (E_not (E_val (E_callW (enc := fun d : Dt => [d, d]) (pre := Okd 3) (F := fun _ => .bl true) (.lst ((stepsS h (firstSt h)).map encS)) (W_own rfl (W_cons (E_eq (E_var rfl) hQ) W_nil)) os))) fun _ => E_not (E_val (E_callW (enc := fun d : Dt => [d, d]) (pre := Okd 3) (F := fun _ => .bl true) (.lst []) (W_own rfl (W_cons (E_lst E_nil (by simp)).p W_nil)) on))) rfl) (fun z => nomatch z) fun z => Sv_skip rfl) ?_
      have sl : ((stepsS h (firstSt h)).map encS).length < 1000000 := by
        rw [stp]; simp only [List.length_append, List.length_map, List.length_range, List.length_cons, List.length_nil]; omega
      refine Sv_then (ρ1 := [.no, .no, .d h.dt, .d (.int (maxL h.cs)), .d (idleR h.nt).dt, .d dE, .d dS, .d dN, .d dD, .d dQ, .d (.lst []), .o ((stepsS h (firstSt h)).map encS ++ [.tup true [.str "take", .int 0]]), .o [], .no]) (Sv_app rfl (E_tup (E_cons (E_str _) (E_cons (E_int 0) E_nil)) (by simp)) sl rfl) ?_
      refine Sv_then (ρ1 := [.no, .no, .d h.dt, .d (.int (maxL h.cs)), .d (idleR h.nt).dt, .d dE, .d dS, .d dN, .d dD, .d dQ, .d (.lst []), .o ((stepsS h (firstSt h)).map encS ++ [.tup true [.str "take", .int 0]]), .o [.tup true [.str "lost", .int 0, .int 0]], .no]) (Sv_app (ds := []) rfl (E_tup (E_cons (E_str _) (E_cons (E_int 0) (E_cons (E_int 0) E_nil))) (by simp)) (by simp) rfl) ?_
      refine Sv_then (Sv_if (b := false) (Et.eq (E_tor (E_truL (ds := []) (E_var rfl)) fun _ => E_not (E_val (E_callT (enc := fun d : Dt => [d, d]) (pre := Okd 3) (F := fun _ => .bl true) (.lst ((stepsS h (firstSt h)).map encS)) (E_cons (E_callN h (E_cons (E_var rfl) (E_cons (E_var rfl) E_nil)) ok).p (E_cons (E_eq (E_var rfl) hQ) E_nil)) os))) rfl) (fun z => nomatch z) fun z => Sv_skip rfl) ?_
      exact Sv_ret (E_and (b := true) (c := true) (E_callT (enc := fun d : Dt => [d, d]) (pre := Okd 3) (F := fun _ => .bl true) (.lst []) (E_cons (E_callN h (E_cons (E_var rfl) (E_cons (E_var rfl) E_nil)) ok).p (E_cons (E_lst E_nil (by simp)).p E_nil)) on) fun _ => E_callT (enc := fun d : Dt => [d, d]) (pre := Okd 3) (F := fun _ => .bl true) dD (E_cons (E_eq (E_callT h (E_cons (E_var rfl) (E_cons (E_var rfl) E_nil)) ok) hD.symm) (E_cons (E_var rfl) E_nil)) (hD ▸ od)) rfl
    · subst e
      have e := o.bl_inv
      subst e
      exact q _
end

theorem all_mk {P : Program} {w : World} {K : PySem.W.Frag} {h : Heap} {mg : Str → Option Value} {fa f_after_step f_is_whole f_is_word f_is_row f_is_counts f_is_course f_is_house f_is_frame f_are_fitting f_is_scheme f_is_plan f_are_keys f_frame_of f_shown_at_last f_is_served f_first_state f_can_take f_steps_in f_again_steps f_arrive_steps f_may_learn f_send_steps f_hand_steps f_note_steps f_take_steps f_word_steps f_can_do f_possible_steps f_events_of f_state_after f_follow f_walk f_law_source f_law_draw f_law_words f_law_scheme f_law_house f_law_same c_REFUSALS c_NOTINGS c_WORDS : Addr}
    (X : K.In h) (G : h.Ns mainGlobals mg) (hfa : mg "law" = some (.ref fa))
    {oc_after_step kV_after_step dc_after_step pm_after_step cd_after_step ct_after_step : Value} {od_after_step an_after_step : Option Addr} {sl_after_step : Array (Option Value)}
    (a_after_step : PySem.W.nsIn K mainGlobals "after_step" = some (some (.ref f_after_step)))
    (l_after_step : K.lookup f_after_step = some ⟨oc_after_step, od_after_step, .func (PySem.W.fnOf "after_step" "after_step" (defArgs s_after_step) (defBody s_after_step) (defScope s_after_step) .none kV_after_step dc_after_step pm_after_step an_after_step cd_after_step ct_after_step), sl_after_step⟩)
    (c_after_step : PySem.W.codeIn K cd_after_step "after_step" = true) (k_after_step : PySem.W.keepIn K (.ref f_after_step) = true)
    {oc_is_whole kV_is_whole dc_is_whole pm_is_whole cd_is_whole ct_is_whole : Value} {od_is_whole an_is_whole : Option Addr} {sl_is_whole : Array (Option Value)}
    (a_is_whole : PySem.W.nsIn K mainGlobals "is_whole" = some (some (.ref f_is_whole)))
    (l_is_whole : K.lookup f_is_whole = some ⟨oc_is_whole, od_is_whole, .func (PySem.W.fnOf "is_whole" "is_whole" (defArgs s_is_whole) (defBody s_is_whole) (defScope s_is_whole) .none kV_is_whole dc_is_whole pm_is_whole an_is_whole cd_is_whole ct_is_whole), sl_is_whole⟩)
    (c_is_whole : PySem.W.codeIn K cd_is_whole "is_whole" = true) (k_is_whole : PySem.W.keepIn K (.ref f_is_whole) = true)
    {oc_is_word kV_is_word dc_is_word pm_is_word cd_is_word ct_is_word : Value} {od_is_word an_is_word : Option Addr} {sl_is_word : Array (Option Value)}
    (a_is_word : PySem.W.nsIn K mainGlobals "is_word" = some (some (.ref f_is_word)))
    (l_is_word : K.lookup f_is_word = some ⟨oc_is_word, od_is_word, .func (PySem.W.fnOf "is_word" "is_word" (defArgs s_is_word) (defBody s_is_word) (defScope s_is_word) .none kV_is_word dc_is_word pm_is_word an_is_word cd_is_word ct_is_word), sl_is_word⟩)
    (c_is_word : PySem.W.codeIn K cd_is_word "is_word" = true) (k_is_word : PySem.W.keepIn K (.ref f_is_word) = true)
    {oc_is_row kV_is_row dc_is_row pm_is_row cd_is_row ct_is_row : Value} {od_is_row an_is_row : Option Addr} {sl_is_row : Array (Option Value)}
    (a_is_row : PySem.W.nsIn K mainGlobals "is_row" = some (some (.ref f_is_row)))
    (l_is_row : K.lookup f_is_row = some ⟨oc_is_row, od_is_row, .func (PySem.W.fnOf "is_row" "is_row" (defArgs s_is_row) (defBody s_is_row) (defScope s_is_row) .none kV_is_row dc_is_row pm_is_row an_is_row cd_is_row ct_is_row), sl_is_row⟩)
    (c_is_row : PySem.W.codeIn K cd_is_row "is_row" = true) (k_is_row : PySem.W.keepIn K (.ref f_is_row) = true)
    {oc_is_counts kV_is_counts dc_is_counts pm_is_counts cd_is_counts ct_is_counts : Value} {od_is_counts an_is_counts : Option Addr} {sl_is_counts : Array (Option Value)}
    (a_is_counts : PySem.W.nsIn K mainGlobals "is_counts" = some (some (.ref f_is_counts)))
    (l_is_counts : K.lookup f_is_counts = some ⟨oc_is_counts, od_is_counts, .func (PySem.W.fnOf "is_counts" "is_counts" (defArgs s_is_counts) (defBody s_is_counts) (defScope s_is_counts) .none kV_is_counts dc_is_counts pm_is_counts an_is_counts cd_is_counts ct_is_counts), sl_is_counts⟩)
    (c_is_counts : PySem.W.codeIn K cd_is_counts "is_counts" = true) (k_is_counts : PySem.W.keepIn K (.ref f_is_counts) = true)
    {oc_is_course kV_is_course dc_is_course pm_is_course cd_is_course ct_is_course : Value} {od_is_course an_is_course : Option Addr} {sl_is_course : Array (Option Value)}
    (a_is_course : PySem.W.nsIn K mainGlobals "is_course" = some (some (.ref f_is_course)))
    (l_is_course : K.lookup f_is_course = some ⟨oc_is_course, od_is_course, .func (PySem.W.fnOf "is_course" "is_course" (defArgs s_is_course) (defBody s_is_course) (defScope s_is_course) .none kV_is_course dc_is_course pm_is_course an_is_course cd_is_course ct_is_course), sl_is_course⟩)
    (c_is_course : PySem.W.codeIn K cd_is_course "is_course" = true) (k_is_course : PySem.W.keepIn K (.ref f_is_course) = true)
    {oc_is_house kV_is_house dc_is_house pm_is_house cd_is_house ct_is_house : Value} {od_is_house an_is_house : Option Addr} {sl_is_house : Array (Option Value)}
    (a_is_house : PySem.W.nsIn K mainGlobals "is_house" = some (some (.ref f_is_house)))
    (l_is_house : K.lookup f_is_house = some ⟨oc_is_house, od_is_house, .func (PySem.W.fnOf "is_house" "is_house" (defArgs s_is_house) (defBody s_is_house) (defScope s_is_house) .none kV_is_house dc_is_house pm_is_house an_is_house cd_is_house ct_is_house), sl_is_house⟩)
    (c_is_house : PySem.W.codeIn K cd_is_house "is_house" = true) (k_is_house : PySem.W.keepIn K (.ref f_is_house) = true)
    {oc_is_frame kV_is_frame dc_is_frame pm_is_frame cd_is_frame ct_is_frame : Value} {od_is_frame an_is_frame : Option Addr} {sl_is_frame : Array (Option Value)}
    (a_is_frame : PySem.W.nsIn K mainGlobals "is_frame" = some (some (.ref f_is_frame)))
    (l_is_frame : K.lookup f_is_frame = some ⟨oc_is_frame, od_is_frame, .func (PySem.W.fnOf "is_frame" "is_frame" (defArgs s_is_frame) (defBody s_is_frame) (defScope s_is_frame) .none kV_is_frame dc_is_frame pm_is_frame an_is_frame cd_is_frame ct_is_frame), sl_is_frame⟩)
    (c_is_frame : PySem.W.codeIn K cd_is_frame "is_frame" = true) (k_is_frame : PySem.W.keepIn K (.ref f_is_frame) = true)
    {oc_are_fitting kV_are_fitting dc_are_fitting pm_are_fitting cd_are_fitting ct_are_fitting : Value} {od_are_fitting an_are_fitting : Option Addr} {sl_are_fitting : Array (Option Value)}
    (a_are_fitting : PySem.W.nsIn K mainGlobals "are_fitting" = some (some (.ref f_are_fitting)))
    (l_are_fitting : K.lookup f_are_fitting = some ⟨oc_are_fitting, od_are_fitting, .func (PySem.W.fnOf "are_fitting" "are_fitting" (defArgs s_are_fitting) (defBody s_are_fitting) (defScope s_are_fitting) .none kV_are_fitting dc_are_fitting pm_are_fitting an_are_fitting cd_are_fitting ct_are_fitting), sl_are_fitting⟩)
    (c_are_fitting : PySem.W.codeIn K cd_are_fitting "are_fitting" = true) (k_are_fitting : PySem.W.keepIn K (.ref f_are_fitting) = true)
    {oc_is_scheme kV_is_scheme dc_is_scheme pm_is_scheme cd_is_scheme ct_is_scheme : Value} {od_is_scheme an_is_scheme : Option Addr} {sl_is_scheme : Array (Option Value)}
    (a_is_scheme : PySem.W.nsIn K mainGlobals "is_scheme" = some (some (.ref f_is_scheme)))
    (l_is_scheme : K.lookup f_is_scheme = some ⟨oc_is_scheme, od_is_scheme, .func (PySem.W.fnOf "is_scheme" "is_scheme" (defArgs s_is_scheme) (defBody s_is_scheme) (defScope s_is_scheme) .none kV_is_scheme dc_is_scheme pm_is_scheme an_is_scheme cd_is_scheme ct_is_scheme), sl_is_scheme⟩)
    (c_is_scheme : PySem.W.codeIn K cd_is_scheme "is_scheme" = true) (k_is_scheme : PySem.W.keepIn K (.ref f_is_scheme) = true)
    {oc_is_plan kV_is_plan dc_is_plan pm_is_plan cd_is_plan ct_is_plan : Value} {od_is_plan an_is_plan : Option Addr} {sl_is_plan : Array (Option Value)}
    (a_is_plan : PySem.W.nsIn K mainGlobals "is_plan" = some (some (.ref f_is_plan)))
    (l_is_plan : K.lookup f_is_plan = some ⟨oc_is_plan, od_is_plan, .func (PySem.W.fnOf "is_plan" "is_plan" (defArgs s_is_plan) (defBody s_is_plan) (defScope s_is_plan) .none kV_is_plan dc_is_plan pm_is_plan an_is_plan cd_is_plan ct_is_plan), sl_is_plan⟩)
    (c_is_plan : PySem.W.codeIn K cd_is_plan "is_plan" = true) (k_is_plan : PySem.W.keepIn K (.ref f_is_plan) = true)
    {oc_are_keys kV_are_keys dc_are_keys pm_are_keys cd_are_keys ct_are_keys : Value} {od_are_keys an_are_keys : Option Addr} {sl_are_keys : Array (Option Value)}
    (a_are_keys : PySem.W.nsIn K mainGlobals "are_keys" = some (some (.ref f_are_keys)))
    (l_are_keys : K.lookup f_are_keys = some ⟨oc_are_keys, od_are_keys, .func (PySem.W.fnOf "are_keys" "are_keys" (defArgs s_are_keys) (defBody s_are_keys) (defScope s_are_keys) .none kV_are_keys dc_are_keys pm_are_keys an_are_keys cd_are_keys ct_are_keys), sl_are_keys⟩)
    (c_are_keys : PySem.W.codeIn K cd_are_keys "are_keys" = true) (k_are_keys : PySem.W.keepIn K (.ref f_are_keys) = true)
    {oc_frame_of kV_frame_of dc_frame_of pm_frame_of cd_frame_of ct_frame_of : Value} {od_frame_of an_frame_of : Option Addr} {sl_frame_of : Array (Option Value)}
    (a_frame_of : PySem.W.nsIn K mainGlobals "frame_of" = some (some (.ref f_frame_of)))
    (l_frame_of : K.lookup f_frame_of = some ⟨oc_frame_of, od_frame_of, .func (PySem.W.fnOf "frame_of" "frame_of" (defArgs s_frame_of) (defBody s_frame_of) (defScope s_frame_of) .none kV_frame_of dc_frame_of pm_frame_of an_frame_of cd_frame_of ct_frame_of), sl_frame_of⟩)
    (c_frame_of : PySem.W.codeIn K cd_frame_of "frame_of" = true) (k_frame_of : PySem.W.keepIn K (.ref f_frame_of) = true)
    {oc_shown_at_last kV_shown_at_last dc_shown_at_last pm_shown_at_last cd_shown_at_last ct_shown_at_last : Value} {od_shown_at_last an_shown_at_last : Option Addr} {sl_shown_at_last : Array (Option Value)}
    (a_shown_at_last : PySem.W.nsIn K mainGlobals "shown_at_last" = some (some (.ref f_shown_at_last)))
    (l_shown_at_last : K.lookup f_shown_at_last = some ⟨oc_shown_at_last, od_shown_at_last, .func (PySem.W.fnOf "shown_at_last" "shown_at_last" (defArgs s_shown_at_last) (defBody s_shown_at_last) (defScope s_shown_at_last) .none kV_shown_at_last dc_shown_at_last pm_shown_at_last an_shown_at_last cd_shown_at_last ct_shown_at_last), sl_shown_at_last⟩)
    (c_shown_at_last : PySem.W.codeIn K cd_shown_at_last "shown_at_last" = true) (k_shown_at_last : PySem.W.keepIn K (.ref f_shown_at_last) = true)
    {oc_is_served kV_is_served dc_is_served pm_is_served cd_is_served ct_is_served : Value} {od_is_served an_is_served : Option Addr} {sl_is_served : Array (Option Value)}
    (a_is_served : PySem.W.nsIn K mainGlobals "is_served" = some (some (.ref f_is_served)))
    (l_is_served : K.lookup f_is_served = some ⟨oc_is_served, od_is_served, .func (PySem.W.fnOf "is_served" "is_served" (defArgs s_is_served) (defBody s_is_served) (defScope s_is_served) .none kV_is_served dc_is_served pm_is_served an_is_served cd_is_served ct_is_served), sl_is_served⟩)
    (c_is_served : PySem.W.codeIn K cd_is_served "is_served" = true) (k_is_served : PySem.W.keepIn K (.ref f_is_served) = true)
    {oc_first_state kV_first_state dc_first_state pm_first_state cd_first_state ct_first_state : Value} {od_first_state an_first_state : Option Addr} {sl_first_state : Array (Option Value)}
    (a_first_state : PySem.W.nsIn K mainGlobals "first_state" = some (some (.ref f_first_state)))
    (l_first_state : K.lookup f_first_state = some ⟨oc_first_state, od_first_state, .func (PySem.W.fnOf "first_state" "first_state" (defArgs s_first_state) (defBody s_first_state) (defScope s_first_state) .none kV_first_state dc_first_state pm_first_state an_first_state cd_first_state ct_first_state), sl_first_state⟩)
    (c_first_state : PySem.W.codeIn K cd_first_state "first_state" = true) (k_first_state : PySem.W.keepIn K (.ref f_first_state) = true)
    {oc_can_take kV_can_take dc_can_take pm_can_take cd_can_take ct_can_take : Value} {od_can_take an_can_take : Option Addr} {sl_can_take : Array (Option Value)}
    (a_can_take : PySem.W.nsIn K mainGlobals "can_take" = some (some (.ref f_can_take)))
    (l_can_take : K.lookup f_can_take = some ⟨oc_can_take, od_can_take, .func (PySem.W.fnOf "can_take" "can_take" (defArgs s_can_take) (defBody s_can_take) (defScope s_can_take) .none kV_can_take dc_can_take pm_can_take an_can_take cd_can_take ct_can_take), sl_can_take⟩)
    (c_can_take : PySem.W.codeIn K cd_can_take "can_take" = true) (k_can_take : PySem.W.keepIn K (.ref f_can_take) = true)
    {oc_steps_in kV_steps_in dc_steps_in pm_steps_in cd_steps_in ct_steps_in : Value} {od_steps_in an_steps_in : Option Addr} {sl_steps_in : Array (Option Value)}
    (a_steps_in : PySem.W.nsIn K mainGlobals "steps_in" = some (some (.ref f_steps_in)))
    (l_steps_in : K.lookup f_steps_in = some ⟨oc_steps_in, od_steps_in, .func (PySem.W.fnOf "steps_in" "steps_in" (defArgs s_steps_in) (defBody s_steps_in) (defScope s_steps_in) .none kV_steps_in dc_steps_in pm_steps_in an_steps_in cd_steps_in ct_steps_in), sl_steps_in⟩)
    (c_steps_in : PySem.W.codeIn K cd_steps_in "steps_in" = true) (k_steps_in : PySem.W.keepIn K (.ref f_steps_in) = true)
    {oc_again_steps kV_again_steps dc_again_steps pm_again_steps cd_again_steps ct_again_steps : Value} {od_again_steps an_again_steps : Option Addr} {sl_again_steps : Array (Option Value)}
    (a_again_steps : PySem.W.nsIn K mainGlobals "again_steps" = some (some (.ref f_again_steps)))
    (l_again_steps : K.lookup f_again_steps = some ⟨oc_again_steps, od_again_steps, .func (PySem.W.fnOf "again_steps" "again_steps" (defArgs s_again_steps) (defBody s_again_steps) (defScope s_again_steps) .none kV_again_steps dc_again_steps pm_again_steps an_again_steps cd_again_steps ct_again_steps), sl_again_steps⟩)
    (c_again_steps : PySem.W.codeIn K cd_again_steps "again_steps" = true) (k_again_steps : PySem.W.keepIn K (.ref f_again_steps) = true)
    {oc_arrive_steps kV_arrive_steps dc_arrive_steps pm_arrive_steps cd_arrive_steps ct_arrive_steps : Value} {od_arrive_steps an_arrive_steps : Option Addr} {sl_arrive_steps : Array (Option Value)}
    (a_arrive_steps : PySem.W.nsIn K mainGlobals "arrive_steps" = some (some (.ref f_arrive_steps)))
    (l_arrive_steps : K.lookup f_arrive_steps = some ⟨oc_arrive_steps, od_arrive_steps, .func (PySem.W.fnOf "arrive_steps" "arrive_steps" (defArgs s_arrive_steps) (defBody s_arrive_steps) (defScope s_arrive_steps) .none kV_arrive_steps dc_arrive_steps pm_arrive_steps an_arrive_steps cd_arrive_steps ct_arrive_steps), sl_arrive_steps⟩)
    (c_arrive_steps : PySem.W.codeIn K cd_arrive_steps "arrive_steps" = true) (k_arrive_steps : PySem.W.keepIn K (.ref f_arrive_steps) = true)
    {oc_may_learn kV_may_learn dc_may_learn pm_may_learn cd_may_learn ct_may_learn : Value} {od_may_learn an_may_learn : Option Addr} {sl_may_learn : Array (Option Value)}
    (a_may_learn : PySem.W.nsIn K mainGlobals "may_learn" = some (some (.ref f_may_learn)))
    (l_may_learn : K.lookup f_may_learn = some ⟨oc_may_learn, od_may_learn, .func (PySem.W.fnOf "may_learn" "may_learn" (defArgs s_may_learn) (defBody s_may_learn) (defScope s_may_learn) .none kV_may_learn dc_may_learn pm_may_learn an_may_learn cd_may_learn ct_may_learn), sl_may_learn⟩)
    (c_may_learn : PySem.W.codeIn K cd_may_learn "may_learn" = true) (k_may_learn : PySem.W.keepIn K (.ref f_may_learn) = true)
    {oc_send_steps kV_send_steps dc_send_steps pm_send_steps cd_send_steps ct_send_steps : Value} {od_send_steps an_send_steps : Option Addr} {sl_send_steps : Array (Option Value)}
    (a_send_steps : PySem.W.nsIn K mainGlobals "send_steps" = some (some (.ref f_send_steps)))
    (l_send_steps : K.lookup f_send_steps = some ⟨oc_send_steps, od_send_steps, .func (PySem.W.fnOf "send_steps" "send_steps" (defArgs s_send_steps) (defBody s_send_steps) (defScope s_send_steps) .none kV_send_steps dc_send_steps pm_send_steps an_send_steps cd_send_steps ct_send_steps), sl_send_steps⟩)
    (c_send_steps : PySem.W.codeIn K cd_send_steps "send_steps" = true) (k_send_steps : PySem.W.keepIn K (.ref f_send_steps) = true)
    {oc_hand_steps kV_hand_steps dc_hand_steps pm_hand_steps cd_hand_steps ct_hand_steps : Value} {od_hand_steps an_hand_steps : Option Addr} {sl_hand_steps : Array (Option Value)}
    (a_hand_steps : PySem.W.nsIn K mainGlobals "hand_steps" = some (some (.ref f_hand_steps)))
    (l_hand_steps : K.lookup f_hand_steps = some ⟨oc_hand_steps, od_hand_steps, .func (PySem.W.fnOf "hand_steps" "hand_steps" (defArgs s_hand_steps) (defBody s_hand_steps) (defScope s_hand_steps) .none kV_hand_steps dc_hand_steps pm_hand_steps an_hand_steps cd_hand_steps ct_hand_steps), sl_hand_steps⟩)
    (c_hand_steps : PySem.W.codeIn K cd_hand_steps "hand_steps" = true) (k_hand_steps : PySem.W.keepIn K (.ref f_hand_steps) = true)
    {oc_note_steps kV_note_steps dc_note_steps pm_note_steps cd_note_steps ct_note_steps : Value} {od_note_steps an_note_steps : Option Addr} {sl_note_steps : Array (Option Value)}
    (a_note_steps : PySem.W.nsIn K mainGlobals "note_steps" = some (some (.ref f_note_steps)))
    (l_note_steps : K.lookup f_note_steps = some ⟨oc_note_steps, od_note_steps, .func (PySem.W.fnOf "note_steps" "note_steps" (defArgs s_note_steps) (defBody s_note_steps) (defScope s_note_steps) .none kV_note_steps dc_note_steps pm_note_steps an_note_steps cd_note_steps ct_note_steps), sl_note_steps⟩)
    (c_note_steps : PySem.W.codeIn K cd_note_steps "note_steps" = true) (k_note_steps : PySem.W.keepIn K (.ref f_note_steps) = true)
    {oc_take_steps kV_take_steps dc_take_steps pm_take_steps cd_take_steps ct_take_steps : Value} {od_take_steps an_take_steps : Option Addr} {sl_take_steps : Array (Option Value)}
    (a_take_steps : PySem.W.nsIn K mainGlobals "take_steps" = some (some (.ref f_take_steps)))
    (l_take_steps : K.lookup f_take_steps = some ⟨oc_take_steps, od_take_steps, .func (PySem.W.fnOf "take_steps" "take_steps" (defArgs s_take_steps) (defBody s_take_steps) (defScope s_take_steps) .none kV_take_steps dc_take_steps pm_take_steps an_take_steps cd_take_steps ct_take_steps), sl_take_steps⟩)
    (c_take_steps : PySem.W.codeIn K cd_take_steps "take_steps" = true) (k_take_steps : PySem.W.keepIn K (.ref f_take_steps) = true)
    {oc_word_steps kV_word_steps dc_word_steps pm_word_steps cd_word_steps ct_word_steps : Value} {od_word_steps an_word_steps : Option Addr} {sl_word_steps : Array (Option Value)}
    (a_word_steps : PySem.W.nsIn K mainGlobals "word_steps" = some (some (.ref f_word_steps)))
    (l_word_steps : K.lookup f_word_steps = some ⟨oc_word_steps, od_word_steps, .func (PySem.W.fnOf "word_steps" "word_steps" (defArgs s_word_steps) (defBody s_word_steps) (defScope s_word_steps) .none kV_word_steps dc_word_steps pm_word_steps an_word_steps cd_word_steps ct_word_steps), sl_word_steps⟩)
    (c_word_steps : PySem.W.codeIn K cd_word_steps "word_steps" = true) (k_word_steps : PySem.W.keepIn K (.ref f_word_steps) = true)
    {oc_can_do kV_can_do dc_can_do pm_can_do cd_can_do ct_can_do : Value} {od_can_do an_can_do : Option Addr} {sl_can_do : Array (Option Value)}
    (a_can_do : PySem.W.nsIn K mainGlobals "can_do" = some (some (.ref f_can_do)))
    (l_can_do : K.lookup f_can_do = some ⟨oc_can_do, od_can_do, .func (PySem.W.fnOf "can_do" "can_do" (defArgs s_can_do) (defBody s_can_do) (defScope s_can_do) .none kV_can_do dc_can_do pm_can_do an_can_do cd_can_do ct_can_do), sl_can_do⟩)
    (c_can_do : PySem.W.codeIn K cd_can_do "can_do" = true) (k_can_do : PySem.W.keepIn K (.ref f_can_do) = true)
    {oc_possible_steps kV_possible_steps dc_possible_steps pm_possible_steps cd_possible_steps ct_possible_steps : Value} {od_possible_steps an_possible_steps : Option Addr} {sl_possible_steps : Array (Option Value)}
    (a_possible_steps : PySem.W.nsIn K mainGlobals "possible_steps" = some (some (.ref f_possible_steps)))
    (l_possible_steps : K.lookup f_possible_steps = some ⟨oc_possible_steps, od_possible_steps, .func (PySem.W.fnOf "possible_steps" "possible_steps" (defArgs s_possible_steps) (defBody s_possible_steps) (defScope s_possible_steps) .none kV_possible_steps dc_possible_steps pm_possible_steps an_possible_steps cd_possible_steps ct_possible_steps), sl_possible_steps⟩)
    (c_possible_steps : PySem.W.codeIn K cd_possible_steps "possible_steps" = true) (k_possible_steps : PySem.W.keepIn K (.ref f_possible_steps) = true)
    {oc_events_of kV_events_of dc_events_of pm_events_of cd_events_of ct_events_of : Value} {od_events_of an_events_of : Option Addr} {sl_events_of : Array (Option Value)}
    (a_events_of : PySem.W.nsIn K mainGlobals "events_of" = some (some (.ref f_events_of)))
    (l_events_of : K.lookup f_events_of = some ⟨oc_events_of, od_events_of, .func (PySem.W.fnOf "events_of" "events_of" (defArgs s_events_of) (defBody s_events_of) (defScope s_events_of) .none kV_events_of dc_events_of pm_events_of an_events_of cd_events_of ct_events_of), sl_events_of⟩)
    (c_events_of : PySem.W.codeIn K cd_events_of "events_of" = true) (k_events_of : PySem.W.keepIn K (.ref f_events_of) = true)
    {oc_state_after kV_state_after dc_state_after pm_state_after cd_state_after ct_state_after : Value} {od_state_after an_state_after : Option Addr} {sl_state_after : Array (Option Value)}
    (a_state_after : PySem.W.nsIn K mainGlobals "state_after" = some (some (.ref f_state_after)))
    (l_state_after : K.lookup f_state_after = some ⟨oc_state_after, od_state_after, .func (PySem.W.fnOf "state_after" "state_after" (defArgs s_state_after) (defBody s_state_after) (defScope s_state_after) .none kV_state_after dc_state_after pm_state_after an_state_after cd_state_after ct_state_after), sl_state_after⟩)
    (c_state_after : PySem.W.codeIn K cd_state_after "state_after" = true) (k_state_after : PySem.W.keepIn K (.ref f_state_after) = true)
    {oc_follow kV_follow dc_follow pm_follow cd_follow ct_follow : Value} {od_follow an_follow : Option Addr} {sl_follow : Array (Option Value)}
    (a_follow : PySem.W.nsIn K mainGlobals "follow" = some (some (.ref f_follow)))
    (l_follow : K.lookup f_follow = some ⟨oc_follow, od_follow, .func (PySem.W.fnOf "follow" "follow" (defArgs s_follow) (defBody s_follow) (defScope s_follow) .none kV_follow dc_follow pm_follow an_follow cd_follow ct_follow), sl_follow⟩)
    (c_follow : PySem.W.codeIn K cd_follow "follow" = true) (k_follow : PySem.W.keepIn K (.ref f_follow) = true)
    {oc_walk kV_walk dc_walk pm_walk cd_walk ct_walk : Value} {od_walk an_walk : Option Addr} {sl_walk : Array (Option Value)}
    (a_walk : PySem.W.nsIn K mainGlobals "walk" = some (some (.ref f_walk)))
    (l_walk : K.lookup f_walk = some ⟨oc_walk, od_walk, .func (PySem.W.fnOf "walk" "walk" (defArgs s_walk) (defBody s_walk) (defScope s_walk) .none kV_walk dc_walk pm_walk an_walk cd_walk ct_walk), sl_walk⟩)
    (c_walk : PySem.W.codeIn K cd_walk "walk" = true) (k_walk : PySem.W.keepIn K (.ref f_walk) = true)
    {oc_law_source kV_law_source dc_law_source pm_law_source cd_law_source ct_law_source : Value} {od_law_source an_law_source : Option Addr} {sl_law_source : Array (Option Value)}
    (a_law_source : PySem.W.nsIn K mainGlobals "_law_source" = some (some (.ref f_law_source)))
    (l_law_source : K.lookup f_law_source = some ⟨oc_law_source, od_law_source, .func (PySem.W.fnOf "_law_source" "_law_source" (defArgs s_law_source) (defBody s_law_source) (defScope s_law_source) .none kV_law_source dc_law_source pm_law_source an_law_source cd_law_source ct_law_source), sl_law_source⟩)
    (c_law_source : PySem.W.codeIn K cd_law_source "_law_source" = true) (k_law_source : PySem.W.keepIn K (.ref f_law_source) = true)
    {oc_law_draw kV_law_draw dc_law_draw pm_law_draw cd_law_draw ct_law_draw : Value} {od_law_draw an_law_draw : Option Addr} {sl_law_draw : Array (Option Value)}
    (a_law_draw : PySem.W.nsIn K mainGlobals "_law_draw" = some (some (.ref f_law_draw)))
    (l_law_draw : K.lookup f_law_draw = some ⟨oc_law_draw, od_law_draw, .func (PySem.W.fnOf "_law_draw" "_law_draw" (defArgs s_law_draw) (defBody s_law_draw) (defScope s_law_draw) .none kV_law_draw dc_law_draw pm_law_draw an_law_draw cd_law_draw ct_law_draw), sl_law_draw⟩)
    (c_law_draw : PySem.W.codeIn K cd_law_draw "_law_draw" = true) (k_law_draw : PySem.W.keepIn K (.ref f_law_draw) = true)
    {oc_law_words kV_law_words dc_law_words pm_law_words cd_law_words ct_law_words : Value} {od_law_words an_law_words : Option Addr} {sl_law_words : Array (Option Value)}
    (a_law_words : PySem.W.nsIn K mainGlobals "_law_words" = some (some (.ref f_law_words)))
    (l_law_words : K.lookup f_law_words = some ⟨oc_law_words, od_law_words, .func (PySem.W.fnOf "_law_words" "_law_words" (defArgs s_law_words) (defBody s_law_words) (defScope s_law_words) .none kV_law_words dc_law_words pm_law_words an_law_words cd_law_words ct_law_words), sl_law_words⟩)
    (c_law_words : PySem.W.codeIn K cd_law_words "_law_words" = true) (k_law_words : PySem.W.keepIn K (.ref f_law_words) = true)
    {oc_law_scheme kV_law_scheme dc_law_scheme pm_law_scheme cd_law_scheme ct_law_scheme : Value} {od_law_scheme an_law_scheme : Option Addr} {sl_law_scheme : Array (Option Value)}
    (a_law_scheme : PySem.W.nsIn K mainGlobals "_law_scheme" = some (some (.ref f_law_scheme)))
    (l_law_scheme : K.lookup f_law_scheme = some ⟨oc_law_scheme, od_law_scheme, .func (PySem.W.fnOf "_law_scheme" "_law_scheme" (defArgs s_law_scheme) (defBody s_law_scheme) (defScope s_law_scheme) .none kV_law_scheme dc_law_scheme pm_law_scheme an_law_scheme cd_law_scheme ct_law_scheme), sl_law_scheme⟩)
    (c_law_scheme : PySem.W.codeIn K cd_law_scheme "_law_scheme" = true) (k_law_scheme : PySem.W.keepIn K (.ref f_law_scheme) = true)
    {oc_law_house kV_law_house dc_law_house pm_law_house cd_law_house ct_law_house : Value} {od_law_house an_law_house : Option Addr} {sl_law_house : Array (Option Value)}
    (a_law_house : PySem.W.nsIn K mainGlobals "_law_house" = some (some (.ref f_law_house)))
    (l_law_house : K.lookup f_law_house = some ⟨oc_law_house, od_law_house, .func (PySem.W.fnOf "_law_house" "_law_house" (defArgs s_law_house) (defBody s_law_house) (defScope s_law_house) .none kV_law_house dc_law_house pm_law_house an_law_house cd_law_house ct_law_house), sl_law_house⟩)
    (c_law_house : PySem.W.codeIn K cd_law_house "_law_house" = true) (k_law_house : PySem.W.keepIn K (.ref f_law_house) = true)
    {oc_law_same kV_law_same dc_law_same pm_law_same cd_law_same ct_law_same : Value} {od_law_same an_law_same : Option Addr} {sl_law_same : Array (Option Value)}
    (a_law_same : PySem.W.nsIn K mainGlobals "_law_same" = some (some (.ref f_law_same)))
    (l_law_same : K.lookup f_law_same = some ⟨oc_law_same, od_law_same, .func (PySem.W.fnOf "_law_same" "_law_same" (defArgs s_law_same) (defBody s_law_same) (defScope s_law_same) .none kV_law_same dc_law_same pm_law_same an_law_same cd_law_same ct_law_same), sl_law_same⟩)
    (c_law_same : PySem.W.codeIn K cd_law_same "_law_same" = true) (k_law_same : PySem.W.keepIn K (.ref f_law_same) = true)
    {f_law : Addr}
    {oc_law kV_law dc_law pm_law cd_law ct_law : Value} {od_law an_law : Option Addr} {sl_law : Array (Option Value)}
    (a_law : PySem.W.nsIn K mainGlobals "law" = some (some (.ref f_law)))
    (l_law : K.lookup f_law = some ⟨oc_law, od_law, .func (PySem.W.fnOf "law" "law" (defArgs s_law) (defBody s_law) (defScope s_law) .none kV_law dc_law pm_law an_law cd_law ct_law), sl_law⟩)
    (c_law : PySem.W.codeIn K cd_law "law" = true) (k_law : PySem.W.keepIn K (.ref f_law) = true)
    (z_all : PySem.W.nsIn K mainGlobals "all" = some none)
    (z_any : PySem.W.nsIn K mainGlobals "any" = some none)
    (z_bool : PySem.W.nsIn K mainGlobals "bool" = some none)
    (z_enumerate : PySem.W.nsIn K mainGlobals "enumerate" = some none)
    (z_int : PySem.W.nsIn K mainGlobals "int" = some none)
    (z_isinstance : PySem.W.nsIn K mainGlobals "isinstance" = some none)
    (z_len : PySem.W.nsIn K mainGlobals "len" = some none)
    (z_list : PySem.W.nsIn K mainGlobals "list" = some none)
    (z_max : PySem.W.nsIn K mainGlobals "max" = some none)
    (z_min : PySem.W.nsIn K mainGlobals "min" = some none)
    (z_range : PySem.W.nsIn K mainGlobals "range" = some none)
    (z_row : PySem.W.nsIn K mainGlobals "row" = some none)
    (z_sorted : PySem.W.nsIn K mainGlobals "sorted" = some none)
    (z_str : PySem.W.nsIn K mainGlobals "str" = some none)
    (z_tuple : PySem.W.nsIn K mainGlobals "tuple" = some none)
    (z_zip : PySem.W.nsIn K mainGlobals "zip" = some none)
    {t_GREATEST_OF_COUNTS : Tok} (a_GREATEST_OF_COUNTS : PySem.W.nsIn K mainGlobals "GREATEST_OF_COUNTS" = some (some (.int 4 t_GREATEST_OF_COUNTS)))
    {od_REFUSALS : Option Addr} {ns_REFUSALS : Nat} {sl_REFUSALS : Array (Option Value)} {t0_REFUSALS : Tok} {t1_REFUSALS : Tok}
    (a_REFUSALS : PySem.W.nsIn K mainGlobals "REFUSALS" = some (some (.ref c_REFUSALS)))
    (l_REFUSALS : K.lookup c_REFUSALS = some ⟨.type "tuple", od_REFUSALS, .seq #[.str "back" t0_REFUSALS, .str "lost" t1_REFUSALS] ns_REFUSALS, sl_REFUSALS⟩)
    {od_NOTINGS : Option Addr} {ns_NOTINGS : Nat} {sl_NOTINGS : Array (Option Value)} {t0_NOTINGS : Tok} {t1_NOTINGS : Tok} {t2_NOTINGS : Tok}
    (a_NOTINGS : PySem.W.nsIn K mainGlobals "NOTINGS" = some (some (.ref c_NOTINGS)))
    (l_NOTINGS : K.lookup c_NOTINGS = some ⟨.type "tuple", od_NOTINGS, .seq #[.str "behind" t0_NOTINGS, .str "first" t1_NOTINGS, .str "with" t2_NOTINGS] ns_NOTINGS, sl_NOTINGS⟩)
    {od_WORDS : Option Addr} {ns_WORDS : Nat} {sl_WORDS : Array (Option Value)} {t0_WORDS : Tok} {t1_WORDS : Tok} {t2_WORDS : Tok} {t3_WORDS : Tok} {t4_WORDS : Tok} {t5_WORDS : Tok} {t6_WORDS : Tok} {t7_WORDS : Tok} {t8_WORDS : Tok}
    (a_WORDS : PySem.W.nsIn K mainGlobals "WORDS" = some (some (.ref c_WORDS)))
    (l_WORDS : K.lookup c_WORDS = some ⟨.type "tuple", od_WORDS, .seq #[.str "show" t0_WORDS, .str "tell" t1_WORDS, .str "agree" t2_WORDS, .str "close" t3_WORDS, .str "clear" t4_WORDS, .str "drain" t5_WORDS, .str "copy" t6_WORDS, .str "open" t7_WORDS, .str "drop" t8_WORDS] ns_WORDS, sl_WORDS⟩)
    {t_MOST_WORDS : Tok} (a_MOST_WORDS : PySem.W.nsIn K mainGlobals "MOST_WORDS" = some (some (.int 15 t_MOST_WORDS)))
    {t_MOST_SHOWS : Tok} (a_MOST_SHOWS : PySem.W.nsIn K mainGlobals "MOST_SHOWS" = some (some (.int 2 t_MOST_SHOWS)))
    {t_MOST_KEYS : Tok} (a_MOST_KEYS : PySem.W.nsIn K mainGlobals "MOST_KEYS" = some (some (.int 3 t_MOST_KEYS)))
    {t_MOST_LETTERS : Tok} (a_MOST_LETTERS : PySem.W.nsIn K mainGlobals "MOST_LETTERS" = some (some (.int 3 t_MOST_LETTERS)))
    {t_MOST_SENDERS : Tok} (a_MOST_SENDERS : PySem.W.nsIn K mainGlobals "MOST_SENDERS" = some (some (.int 3 t_MOST_SENDERS)))
    {t_MOST_STEPS : Tok} (a_MOST_STEPS : PySem.W.nsIn K mainGlobals "MOST_STEPS" = some (some (.int 200 t_MOST_STEPS)))
    {a_init_Frame a_init_Moment C_Frame C_Moment : Addr}
    {oc_init_Frame kV_init_Frame dc_init_Frame pm_init_Frame cd_init_Frame ct_init_Frame : Value} {od_init_Frame an_init_Frame : Option Addr} {sl_init_Frame : Array (Option Value)}
    (l_init_Frame : K.lookup a_init_Frame = some ⟨oc_init_Frame, od_init_Frame, .func (PySem.W.fnOf "__init__" "Frame.__init__" (defArgs s_init_Frame) (defBody s_init_Frame) (defScope s_init_Frame) .none kV_init_Frame dc_init_Frame pm_init_Frame an_init_Frame cd_init_Frame ct_init_Frame), sl_init_Frame⟩)
    (c_init_Frame : PySem.W.codeIn K cd_init_Frame "Frame.__init__" = true) (k_init_Frame : PySem.W.keepIn K (.ref a_init_Frame) = true)
    (ag_Frame : PySem.W.nsIn K mainGlobals "Frame" = some (some (.ref C_Frame)))
    (mk_Frame : PySem.W.makesIn K C_Frame = true) (ic_Frame : PySem.W.findIn K (.ref C_Frame) "__init__" = some (some (.ref a_init_Frame))) (fn_Frame : PySem.W.isFn K (.ref a_init_Frame) = true) (kc_Frame : PySem.W.keepIn K (.ref C_Frame) = true)
    (pg_Frame : PySem.W.plainGet K C_Frame Str.empty = true) (hd_Frame : PySem.W.hasDictIn K C_Frame = true) (po_Frame : PySem.W.plainOver K C_Frame = true) (sa_Frame : PySem.W.findIn K (.ref C_Frame) "__setattr__" = some (some (.builtin "object.__setattr__")))
    (n_Frame_asks : PySem.W.findIn K (.ref C_Frame) "asks" = some none)
    (n_Frame_paced : PySem.W.findIn K (.ref C_Frame) "paced" = some none)
    (n_Frame_refused : PySem.W.findIn K (.ref C_Frame) "refused" = some none)
    (n_Frame_notes : PySem.W.findIn K (.ref C_Frame) "notes" = some none)
    (n_Frame_steady : PySem.W.findIn K (.ref C_Frame) "steady" = some none)
    (n_Frame_plan : PySem.W.findIn K (.ref C_Frame) "plan" = some none)
    (n_Frame_counts : PySem.W.findIn K (.ref C_Frame) "counts" = some none)
    (n_Frame_courses : PySem.W.findIn K (.ref C_Frame) "courses" = some none)
    (n_Frame_letters : PySem.W.findIn K (.ref C_Frame) "letters" = some none)
    (n_Frame_senders : PySem.W.findIn K (.ref C_Frame) "senders" = some none)
    (n_Frame_idle : PySem.W.findIn K (.ref C_Frame) "idle" = some none)
    (n_Frame_moments : PySem.W.findIn K (.ref C_Frame) "moments" = some none)
    {oc_init_Moment kV_init_Moment dc_init_Moment pm_init_Moment cd_init_Moment ct_init_Moment : Value} {od_init_Moment an_init_Moment : Option Addr} {sl_init_Moment : Array (Option Value)}
    (l_init_Moment : K.lookup a_init_Moment = some ⟨oc_init_Moment, od_init_Moment, .func (PySem.W.fnOf "__init__" "Moment.__init__" (defArgs s_init_Moment) (defBody s_init_Moment) (defScope s_init_Moment) .none kV_init_Moment dc_init_Moment pm_init_Moment an_init_Moment cd_init_Moment ct_init_Moment), sl_init_Moment⟩)
    (c_init_Moment : PySem.W.codeIn K cd_init_Moment "Moment.__init__" = true) (k_init_Moment : PySem.W.keepIn K (.ref a_init_Moment) = true)
    (ag_Moment : PySem.W.nsIn K mainGlobals "Moment" = some (some (.ref C_Moment)))
    (mk_Moment : PySem.W.makesIn K C_Moment = true) (ic_Moment : PySem.W.findIn K (.ref C_Moment) "__init__" = some (some (.ref a_init_Moment))) (fn_Moment : PySem.W.isFn K (.ref a_init_Moment) = true) (kc_Moment : PySem.W.keepIn K (.ref C_Moment) = true)
    (pg_Moment : PySem.W.plainGet K C_Moment Str.empty = true) (hd_Moment : PySem.W.hasDictIn K C_Moment = true) (po_Moment : PySem.W.plainOver K C_Moment = true) (sa_Moment : PySem.W.findIn K (.ref C_Moment) "__setattr__" = some (some (.builtin "object.__setattr__")))
    (n_Moment_shown : PySem.W.findIn K (.ref C_Moment) "shown" = some none)
    (n_Moment_told : PySem.W.findIn K (.ref C_Moment) "told" = some none)
    (n_Moment_closed : PySem.W.findIn K (.ref C_Moment) "closed" = some none)
    (n_Moment_opened : PySem.W.findIn K (.ref C_Moment) "opened" = some none)
    (n_Moment_drained : PySem.W.findIn K (.ref C_Moment) "drained" = some none)
    (n_Moment_dropped : PySem.W.findIn K (.ref C_Moment) "dropped" = some none)
    (n_Moment_newest : PySem.W.findIn K (.ref C_Moment) "newest" = some none)
    (n_Moment_readable : PySem.W.findIn K (.ref C_Moment) "readable" = some none)
    (n_Moment_dead : PySem.W.findIn K (.ref C_Moment) "dead" = some none) :
    ∃ fd : FuncData, (∀ (s : Shared) (v : Value), BindsTo s fd ⟨[v], []⟩ [("_law_script", v)]) ∧ ∀ base : Heap, K.In base → base.Ns mainGlobals mg → FnOk P w K mg base CX0 8 fa fd ["_law_script"] (spLaw K) := by
  have e := hfa.symm.trans (PySem.W.mg_of X G a_law)
  cases e
  have F_after_step := fun_mk (st := s_after_step) l_after_step c_after_step k_after_step
  have b_after_step := F_after_step.binds (ps := ["frame", "state", "step"]) fun _ _ _ _ _ _ us hl => match us, hl with | [_, _, _], _ => rfl
  have F_is_whole := fun_mk (st := s_is_whole) l_is_whole c_is_whole k_is_whole
  have b_is_whole := F_is_whole.binds (ps := ["thing", "low", "high"]) fun _ _ _ _ _ _ us hl => match us, hl with | [_, _, _], _ => rfl
  have F_is_word := fun_mk (st := s_is_word) l_is_word c_is_word k_is_word
  have b_is_word := F_is_word.binds (ps := ["thing", "words"]) fun _ _ _ _ _ _ us hl => match us, hl with | [_, _], _ => rfl
  have F_is_row := fun_mk (st := s_is_row) l_is_row c_is_row k_is_row
  have b_is_row := F_is_row.binds (ps := ["thing", "low", "high"]) fun _ _ _ _ _ _ us hl => match us, hl with | [_, _, _], _ => rfl
  have F_is_counts := fun_mk (st := s_is_counts) l_is_counts c_is_counts k_is_counts
  have b_is_counts := F_is_counts.binds (ps := ["thing"]) fun _ _ _ _ _ _ us hl => match us, hl with | [_], _ => rfl
  have F_is_course := fun_mk (st := s_is_course) l_is_course c_is_course k_is_course
  have b_is_course := F_is_course.binds (ps := ["thing", "counts"]) fun _ _ _ _ _ _ us hl => match us, hl with | [_, _], _ => rfl
  have F_is_house := fun_mk (st := s_is_house) l_is_house c_is_house k_is_house
  have b_is_house := F_is_house.binds (ps := ["thing"]) fun _ _ _ _ _ _ us hl => match us, hl with | [_], _ => rfl
  have F_is_frame := fun_mk (st := s_is_frame) l_is_frame c_is_frame k_is_frame
  have b_is_frame := F_is_frame.binds (ps := ["scheme", "plan", "counts"]) fun _ _ _ _ _ _ us hl => match us, hl with | [_, _, _], _ => rfl
  have F_are_fitting := fun_mk (st := s_are_fitting) l_are_fitting c_are_fitting k_are_fitting
  have b_are_fitting := F_are_fitting.binds (ps := ["counts", "plan"]) fun _ _ _ _ _ _ us hl => match us, hl with | [_, _], _ => rfl
  have F_is_scheme := fun_mk (st := s_is_scheme) l_is_scheme c_is_scheme k_is_scheme
  have b_is_scheme := F_is_scheme.binds (ps := ["thing"]) fun _ _ _ _ _ _ us hl => match us, hl with | [_], _ => rfl
  have F_is_plan := fun_mk (st := s_is_plan) l_is_plan c_is_plan k_is_plan
  have b_is_plan := F_is_plan.binds (ps := ["thing"]) fun _ _ _ _ _ _ us hl => match us, hl with | [_], _ => rfl
  have F_are_keys := fun_mk (st := s_are_keys) l_are_keys c_are_keys k_are_keys
  have b_are_keys := F_are_keys.binds (ps := ["courses", "letters", "counts"]) fun _ _ _ _ _ _ us hl => match us, hl with | [_, _, _], _ => rfl
  have F_frame_of := fun_mk (st := s_frame_of) l_frame_of c_frame_of k_frame_of
  have b_frame_of := F_frame_of.binds (ps := ["house"]) fun _ _ _ _ _ _ us hl => match us, hl with | [_], _ => rfl
  have F_shown_at_last := fun_mk (st := s_shown_at_last) l_shown_at_last c_shown_at_last k_shown_at_last
  have b_shown_at_last := F_shown_at_last.binds (ps := ["done", "word"]) fun _ _ _ _ _ _ us hl => match us, hl with | [_, _], _ => rfl
  have F_is_served := fun_mk (st := s_is_served) l_is_served c_is_served k_is_served
  have b_is_served := F_is_served.binds (ps := ["lane", "counts"]) fun _ _ _ _ _ _ us hl => match us, hl with | [_, _], _ => rfl
  have F_first_state := fun_mk (st := s_first_state) l_first_state c_first_state k_first_state
  have b_first_state := F_first_state.binds (ps := ["frame"]) fun _ _ _ _ _ _ us hl => match us, hl with | [_], _ => rfl
  have F_can_take := fun_mk (st := s_can_take) l_can_take c_can_take k_can_take
  have b_can_take := F_can_take.binds (ps := ["frame", "state", "thing"]) fun _ _ _ _ _ _ us hl => match us, hl with | [_, _, _], _ => rfl
  have F_steps_in := fun_mk (st := s_steps_in) l_steps_in c_steps_in k_steps_in
  have b_steps_in := F_steps_in.binds (ps := ["frame", "state"]) fun _ _ _ _ _ _ us hl => match us, hl with | [_, _], _ => rfl
  have F_again_steps := fun_mk (st := s_again_steps) l_again_steps c_again_steps k_again_steps
  have b_again_steps := F_again_steps.binds (ps := ["held", "back"]) fun _ _ _ _ _ _ us hl => match us, hl with | [_, _], _ => rfl
  have F_arrive_steps := fun_mk (st := s_arrive_steps) l_arrive_steps c_arrive_steps k_arrive_steps
  have b_arrive_steps := F_arrive_steps.binds (ps := ["frame", "way"]) fun _ _ _ _ _ _ us hl => match us, hl with | [_, _], _ => rfl
  have F_may_learn := fun_mk (st := s_may_learn) l_may_learn c_may_learn k_may_learn
  have b_may_learn := F_may_learn.binds (ps := ["frame", "moment", "edition"]) fun _ _ _ _ _ _ us hl => match us, hl with | [_, _, _], _ => rfl
  have F_send_steps := fun_mk (st := s_send_steps) l_send_steps c_send_steps k_send_steps
  have b_send_steps := F_send_steps.binds (ps := ["frame", "held", "way", "back", "sent"]) fun _ _ _ _ _ _ us hl => match us, hl with | [_, _, _, _, _], _ => rfl
  have F_hand_steps := fun_mk (st := s_hand_steps) l_hand_steps c_hand_steps k_hand_steps
  have b_hand_steps := F_hand_steps.binds (ps := ["frame", "moment", "readers"]) fun _ _ _ _ _ _ us hl => match us, hl with | [_, _, _], _ => rfl
  have F_note_steps := fun_mk (st := s_note_steps) l_note_steps c_note_steps k_note_steps
  have b_note_steps := F_note_steps.binds (ps := ["frame", "moment", "lanes", "readers"]) fun _ _ _ _ _ _ us hl => match us, hl with | [_, _, _, _], _ => rfl
  have F_take_steps := fun_mk (st := s_take_steps) l_take_steps c_take_steps k_take_steps
  have b_take_steps := F_take_steps.binds (ps := ["frame", "moment", "lanes", "readers"]) fun _ _ _ _ _ _ us hl => match us, hl with | [_, _, _, _], _ => rfl
  have F_word_steps := fun_mk (st := s_word_steps) l_word_steps c_word_steps k_word_steps
  have b_word_steps := F_word_steps.binds (ps := ["frame", "moment", "state"]) fun _ _ _ _ _ _ us hl => match us, hl with | [_, _, _], _ => rfl
  have F_can_do := fun_mk (st := s_can_do) l_can_do c_can_do k_can_do
  have b_can_do := F_can_do.binds (ps := ["moment", "state", "word"]) fun _ _ _ _ _ _ us hl => match us, hl with | [_, _, _], _ => rfl
  have F_possible_steps := fun_mk (st := s_possible_steps) l_possible_steps c_possible_steps k_possible_steps
  have b_possible_steps := F_possible_steps.binds (ps := ["house", "run"]) fun _ _ _ _ _ _ us hl => match us, hl with | [_, _], _ => rfl
  have F_events_of := fun_mk (st := s_events_of) l_events_of c_events_of k_events_of
  have b_events_of := F_events_of.binds (ps := ["house", "run"]) fun _ _ _ _ _ _ us hl => match us, hl with | [_, _], _ => rfl
  have F_state_after := fun_mk (st := s_state_after) l_state_after c_state_after k_state_after
  have b_state_after := F_state_after.binds (ps := ["house", "run"]) fun _ _ _ _ _ _ us hl => match us, hl with | [_, _], _ => rfl
  have F_follow := fun_mk (st := s_follow) l_follow c_follow k_follow
  have b_follow := F_follow.binds (ps := ["frame", "run"]) fun _ _ _ _ _ _ us hl => match us, hl with | [_, _], _ => rfl
  have F_walk := fun_mk (st := s_walk) l_walk c_walk k_walk
  have b_walk := F_walk.binds (ps := ["frame", "start", "steps"]) fun _ _ _ _ _ _ us hl => match us, hl with | [_, _, _], _ => rfl
  have F_law_source := fun_mk (st := s_law_source) l_law_source c_law_source k_law_source
  have b_law_source := F_law_source.binds (ps := ["_law_script"]) fun _ _ _ _ _ _ us hl => match us, hl with | [_], _ => rfl
  have F_law_draw := fun_mk (st := s_law_draw) l_law_draw c_law_draw k_law_draw
  have b_law_draw := F_law_draw.binds (ps := ["_law_source_here", "_law_limit"]) fun _ _ _ _ _ _ us hl => match us, hl with | [_, _], _ => rfl
  have F_law_words := fun_mk (st := s_law_words) l_law_words c_law_words k_law_words
  have b_law_words := F_law_words.binds (ps := ["_law_source_here", "_law_room"]) fun _ _ _ _ _ _ us hl => match us, hl with | [_, _], _ => rfl
  have F_law_scheme := fun_mk (st := s_law_scheme) l_law_scheme c_law_scheme k_law_scheme
  have b_law_scheme := F_law_scheme.binds (ps := ["_law_source_here"]) fun _ _ _ _ _ _ us hl => match us, hl with | [_], _ => rfl
  have F_law_house := fun_mk (st := s_law_house) l_law_house c_law_house k_law_house
  have b_law_house := F_law_house.binds (ps := ["_law_source_here", "_law_least", "_law_keys"]) fun _ _ _ _ _ _ us hl => match us, hl with | [_, _, _], _ => rfl
  have F_law_same := fun_mk (st := s_law_same) l_law_same c_law_same k_law_same
  have b_law_same := F_law_same.binds (ps := ["_law_found", "_law_due"]) fun _ _ _ _ _ _ us hl => match us, hl with | [_, _], _ => rfl
  have F_law := fun_mk (st := s_law) l_law c_law k_law
  have b_law := F_law.binds (ps := ["_law_script"]) fun _ _ _ _ _ _ us hl => match us, hl with | [_], _ => rfl
  exact ⟨PySem.W.fnOf "law" "law" (defArgs s_law) (defBody s_law) (defScope s_law) .none kV_law dc_law pm_law an_law cd_law ct_law, fun s v => .of_eq rfl, fun base _ _ => ok_law (P := P) (w := w) (mg := mg) (base := base) ({ a_after_step := _, d_after_step := _, F_after_step := F_after_step, g_after_step := PySem.W.mg_of X G a_after_step, b_after_step := b_after_step, a_is_whole := _, d_is_whole := _, F_is_whole := F_is_whole, g_is_whole := PySem.W.mg_of X G a_is_whole, b_is_whole := b_is_whole, a_is_word := _, d_is_word := _, F_is_word := F_is_word, g_is_word := PySem.W.mg_of X G a_is_word, b_is_word := b_is_word, a_is_row := _, d_is_row := _, F_is_row := F_is_row, g_is_row := PySem.W.mg_of X G a_is_row, b_is_row := b_is_row, a_is_counts := _, d_is_counts := _, F_is_counts := F_is_counts, g_is_counts := PySem.W.mg_of X G a_is_counts, b_is_counts := b_is_counts, a_is_course := _, d_is_course := _, F_is_course := F_is_course, g_is_course := PySem.W.mg_of X G a_is_course, b_is_course := b_is_course, a_is_house := _, d_is_house := _, F_is_house := F_is_house, g_is_house := PySem.W.mg_of X G a_is_house, b_is_house := b_is_house, a_is_frame := _, d_is_frame := _, F_is_frame := F_is_frame, g_is_frame := PySem.W.mg_of X G a_is_frame, b_is_frame := b_is_frame, a_are_fitting := _, d_are_fitting := _, F_are_fitting := F_are_fitting, g_are_fitting := PySem.W.mg_of X G a_are_fitting, b_are_fitting := b_are_fitting, a_is_scheme := _, d_is_scheme := _, F_is_scheme := F_is_scheme, g_is_scheme := PySem.W.mg_of X G a_is_scheme, b_is_scheme := b_is_scheme, a_is_plan := _, d_is_plan := _, F_is_plan := F_is_plan, g_is_plan := PySem.W.mg_of X G a_is_plan, b_is_plan := b_is_plan, a_are_keys := _, d_are_keys := _, F_are_keys := F_are_keys, g_are_keys := PySem.W.mg_of X G a_are_keys, b_are_keys := b_are_keys, a_frame_of := _, d_frame_of := _, F_frame_of := F_frame_of, g_frame_of := PySem.W.mg_of X G a_frame_of, b_frame_of := b_frame_of, a_shown_at_last := _, d_shown_at_last := _, F_shown_at_last := F_shown_at_last, g_shown_at_last := PySem.W.mg_of X G a_shown_at_last, b_shown_at_last := b_shown_at_last, a_is_served := _, d_is_served := _, F_is_served := F_is_served, g_is_served := PySem.W.mg_of X G a_is_served, b_is_served := b_is_served, a_first_state := _, d_first_state := _, F_first_state := F_first_state, g_first_state := PySem.W.mg_of X G a_first_state, b_first_state := b_first_state, a_can_take := _, d_can_take := _, F_can_take := F_can_take, g_can_take := PySem.W.mg_of X G a_can_take, b_can_take := b_can_take, a_steps_in := _, d_steps_in := _, F_steps_in := F_steps_in, g_steps_in := PySem.W.mg_of X G a_steps_in, b_steps_in := b_steps_in, a_again_steps := _, d_again_steps := _, F_again_steps := F_again_steps, g_again_steps := PySem.W.mg_of X G a_again_steps, b_again_steps := b_again_steps, a_arrive_steps := _, d_arrive_steps := _, F_arrive_steps := F_arrive_steps, g_arrive_steps := PySem.W.mg_of X G a_arrive_steps, b_arrive_steps := b_arrive_steps, a_may_learn := _, d_may_learn := _, F_may_learn := F_may_learn, g_may_learn := PySem.W.mg_of X G a_may_learn, b_may_learn := b_may_learn, a_send_steps := _, d_send_steps := _, F_send_steps := F_send_steps, g_send_steps := PySem.W.mg_of X G a_send_steps, b_send_steps := b_send_steps, a_hand_steps := _, d_hand_steps := _, F_hand_steps := F_hand_steps, g_hand_steps := PySem.W.mg_of X G a_hand_steps, b_hand_steps := b_hand_steps, a_note_steps := _, d_note_steps := _, F_note_steps := F_note_steps, g_note_steps := PySem.W.mg_of X G a_note_steps, b_note_steps := b_note_steps, a_take_steps := _, d_take_steps := _, F_take_steps := F_take_steps, g_take_steps := PySem.W.mg_of X G a_take_steps, b_take_steps := b_take_steps, a_word_steps := _, d_word_steps := _, F_word_steps := F_word_steps, g_word_steps := PySem.W.mg_of X G a_word_steps, b_word_steps := b_word_steps, a_can_do := _, d_can_do := _, F_can_do := F_can_do, g_can_do := PySem.W.mg_of X G a_can_do, b_can_do := b_can_do, a_possible_steps := _, d_possible_steps := _, F_possible_steps := F_possible_steps, g_possible_steps := PySem.W.mg_of X G a_possible_steps, b_possible_steps := b_possible_steps, a_events_of := _, d_events_of := _, F_events_of := F_events_of, g_events_of := PySem.W.mg_of X G a_events_of, b_events_of := b_events_of, a_state_after := _, d_state_after := _, F_state_after := F_state_after, g_state_after := PySem.W.mg_of X G a_state_after, b_state_after := b_state_after, a_follow := _, d_follow := _, F_follow := F_follow, g_follow := PySem.W.mg_of X G a_follow, b_follow := b_follow, a_walk := _, d_walk := _, F_walk := F_walk, g_walk := PySem.W.mg_of X G a_walk, b_walk := b_walk, a_law_source := _, d_law_source := _, F_law_source := F_law_source, g_law_source := PySem.W.mg_of X G a_law_source, b_law_source := b_law_source, a_law_draw := _, d_law_draw := _, F_law_draw := F_law_draw, g_law_draw := PySem.W.mg_of X G a_law_draw, b_law_draw := b_law_draw, a_law_words := _, d_law_words := _, F_law_words := F_law_words, g_law_words := PySem.W.mg_of X G a_law_words, b_law_words := b_law_words, a_law_scheme := _, d_law_scheme := _, F_law_scheme := F_law_scheme, g_law_scheme := PySem.W.mg_of X G a_law_scheme, b_law_scheme := b_law_scheme, a_law_house := _, d_law_house := _, F_law_house := F_law_house, g_law_house := PySem.W.mg_of X G a_law_house, b_law_house := b_law_house, a_law_same := _, d_law_same := _, F_law_same := F_law_same, g_law_same := PySem.W.mg_of X G a_law_same, b_law_same := b_law_same, a_law := _, d_law := _, F_law := F_law, g_law := PySem.W.mg_of X G a_law, b_law := b_law, z_all := PySem.W.mg_none_of X G z_all, z_any := PySem.W.mg_none_of X G z_any, z_bool := PySem.W.mg_none_of X G z_bool, z_enumerate := PySem.W.mg_none_of X G z_enumerate, z_int := PySem.W.mg_none_of X G z_int, z_isinstance := PySem.W.mg_none_of X G z_isinstance, z_len := PySem.W.mg_none_of X G z_len, z_list := PySem.W.mg_none_of X G z_list, z_max := PySem.W.mg_none_of X G z_max, z_min := PySem.W.mg_none_of X G z_min, z_range := PySem.W.mg_none_of X G z_range, z_row := PySem.W.mg_none_of X G z_row, z_sorted := PySem.W.mg_none_of X G z_sorted, z_str := PySem.W.mg_none_of X G z_str, z_tuple := PySem.W.mg_none_of X G z_tuple, z_zip := PySem.W.mg_none_of X G z_zip, u_GREATEST_OF_COUNTS := _, g_GREATEST_OF_COUNTS := PySem.W.mg_of X G a_GREATEST_OF_COUNTS, r_GREATEST_OF_COUNTS := ⟨_, rfl⟩, c_REFUSALS := _, g_REFUSALS := PySem.W.mg_of X G a_REFUSALS, r_REFUSALS := rfl, q_REFUSALS := fun _ => .inr ⟨_, _, _, l_REFUSALS, rfl, rfl, by show 2 ≤ sizeLine; decide, .cons ⟨_, rfl⟩ (.cons ⟨_, rfl⟩ (.nil))⟩, c_NOTINGS := _, g_NOTINGS := PySem.W.mg_of X G a_NOTINGS, r_NOTINGS := rfl, q_NOTINGS := fun _ => .inr ⟨_, _, _, l_NOTINGS, rfl, rfl, by show 3 ≤ sizeLine; decide, .cons ⟨_, rfl⟩ (.cons ⟨_, rfl⟩ (.cons ⟨_, rfl⟩ (.nil)))⟩, c_WORDS := _, g_WORDS := PySem.W.mg_of X G a_WORDS, r_WORDS := rfl, q_WORDS := fun _ => .inr ⟨_, _, _, l_WORDS, rfl, rfl, by show 9 ≤ sizeLine; decide, .cons ⟨_, rfl⟩ (.cons ⟨_, rfl⟩ (.cons ⟨_, rfl⟩ (.cons ⟨_, rfl⟩ (.cons ⟨_, rfl⟩ (.cons ⟨_, rfl⟩ (.cons ⟨_, rfl⟩ (.cons ⟨_, rfl⟩ (.cons ⟨_, rfl⟩ (.nil)))))))))⟩, u_MOST_WORDS := _, g_MOST_WORDS := PySem.W.mg_of X G a_MOST_WORDS, r_MOST_WORDS := ⟨_, rfl⟩, u_MOST_SHOWS := _, g_MOST_SHOWS := PySem.W.mg_of X G a_MOST_SHOWS, r_MOST_SHOWS := ⟨_, rfl⟩, u_MOST_KEYS := _, g_MOST_KEYS := PySem.W.mg_of X G a_MOST_KEYS, r_MOST_KEYS := ⟨_, rfl⟩, u_MOST_LETTERS := _, g_MOST_LETTERS := PySem.W.mg_of X G a_MOST_LETTERS, r_MOST_LETTERS := ⟨_, rfl⟩, u_MOST_SENDERS := _, g_MOST_SENDERS := PySem.W.mg_of X G a_MOST_SENDERS, r_MOST_SENDERS := ⟨_, rfl⟩, u_MOST_STEPS := _, g_MOST_STEPS := PySem.W.mg_of X G a_MOST_STEPS, r_MOST_STEPS := ⟨_, rfl⟩, a_init_Frame := _, d_init_Frame := _, F_init_Frame := fun_mk (st := s_init_Frame) l_init_Frame c_init_Frame k_init_Frame, b_init_Frame := (fun_mk (st := s_init_Frame) l_init_Frame c_init_Frame k_init_Frame).binds (ps := ["self", "house"]) fun _ _ _ _ _ _ us hl => match us, hl with | [_, _], _ => rfl, C_Frame := _, g_Frame := PySem.W.mg_of X G ag_Frame, M_Frame := ⟨mk_Frame, ic_Frame, fn_Frame, kc_Frame⟩, L_Frame := ⟨pg_Frame, hd_Frame, po_Frame, sa_Frame⟩, n_Frame_asks := n_Frame_asks, n_Frame_paced := n_Frame_paced, n_Frame_refused := n_Frame_refused, n_Frame_notes := n_Frame_notes, n_Frame_steady := n_Frame_steady, n_Frame_plan := n_Frame_plan, n_Frame_counts := n_Frame_counts, n_Frame_courses := n_Frame_courses, n_Frame_letters := n_Frame_letters, n_Frame_senders := n_Frame_senders, n_Frame_idle := n_Frame_idle, n_Frame_moments := n_Frame_moments, a_init_Moment := _, d_init_Moment := _, F_init_Moment := fun_mk (st := s_init_Moment) l_init_Moment c_init_Moment k_init_Moment, b_init_Moment := (fun_mk (st := s_init_Moment) l_init_Moment c_init_Moment k_init_Moment).binds (ps := ["self", "done", "counts"]) fun _ _ _ _ _ _ us hl => match us, hl with | [_, _, _], _ => rfl, C_Moment := _, g_Moment := PySem.W.mg_of X G ag_Moment, M_Moment := ⟨mk_Moment, ic_Moment, fn_Moment, kc_Moment⟩, L_Moment := ⟨pg_Moment, hd_Moment, po_Moment, sa_Moment⟩, n_Moment_shown := n_Moment_shown, n_Moment_told := n_Moment_told, n_Moment_closed := n_Moment_closed, n_Moment_opened := n_Moment_opened, n_Moment_drained := n_Moment_drained, n_Moment_dropped := n_Moment_dropped, n_Moment_newest := n_Moment_newest, n_Moment_readable := n_Moment_readable, n_Moment_dead := n_Moment_dead } : Txt K mg)⟩
end K10
open PySem PySem.W PyProof.Rows
set_option maxRecDepth 100000 in
set_option maxHeartbeats 0 in
theorem PySem.Challenge.cw_lanescounted_k10_nothing_done_yet_holds : PySem.Challenge.rw_lanescounted_k10_nothing_done_yet.Holds := by
  w_on; o_law; k_head; (case hw => w_witness2)
  k_fill
  refine L2.walk_ofB (l := PySem.Challenge.rw_lanescounted_k10_nothing_done_yet) (n := 63) (k := 8) (x := "_law_script") (CX := fun w => L2.CX0) (sp := fun w => K10.spLaw _) rfl (by decide) rfl ⟨rfl, by decide, by decide⟩ (fun w h Y => PySem.W.km_in_of Y) ?F (fun _ _ a ns hl hb _ hS => ⟨a, ns, rfl, hS, hl, hb, fun _ => rfl⟩) (fun _ _ _ _ _ h => h)
  case F =>
    intro w mg fa h KX G hmg
    refine' K10.all_mk KX G hmg ?a_after_step ?l_after_step ?c_after_step ?k_after_step ?a_is_whole ?l_is_whole ?c_is_whole ?k_is_whole ?a_is_word ?l_is_word ?c_is_word ?k_is_word ?a_is_row ?l_is_row ?c_is_row ?k_is_row ?a_is_counts ?l_is_counts ?c_is_counts ?k_is_counts ?a_is_course ?l_is_course ?c_is_course ?k_is_course ?a_is_house ?l_is_house ?c_is_house ?k_is_house ?a_is_frame ?l_is_frame ?c_is_frame ?k_is_frame ?a_are_fitting ?l_are_fitting ?c_are_fitting ?k_are_fitting ?a_is_scheme ?l_is_scheme ?c_is_scheme ?k_is_scheme ?a_is_plan ?l_is_plan ?c_is_plan ?k_is_plan ?a_are_keys ?l_are_keys ?c_are_keys ?k_are_keys ?a_frame_of ?l_frame_of ?c_frame_of ?k_frame_of ?a_shown_at_last ?l_shown_at_last ?c_shown_at_last ?k_shown_at_last ?a_is_served ?l_is_served ?c_is_served ?k_is_served ?a_first_state ?l_first_state ?c_first_state ?k_first_state ?a_can_take ?l_can_take ?c_can_take ?k_can_take ?a_steps_in ?l_steps_in ?c_steps_in ?k_steps_in ?a_again_steps ?l_again_steps ?c_again_steps ?k_again_steps ?a_arrive_steps ?l_arrive_steps ?c_arrive_steps ?k_arrive_steps ?a_may_learn ?l_may_learn ?c_may_learn ?k_may_learn ?a_send_steps ?l_send_steps ?c_send_steps ?k_send_steps ?a_hand_steps ?l_hand_steps ?c_hand_steps ?k_hand_steps ?a_note_steps ?l_note_steps ?c_note_steps ?k_note_steps ?a_take_steps ?l_take_steps ?c_take_steps ?k_take_steps ?a_word_steps ?l_word_steps ?c_word_steps ?k_word_steps ?a_can_do ?l_can_do ?c_can_do ?k_can_do ?a_possible_steps ?l_possible_steps ?c_possible_steps ?k_possible_steps ?a_events_of ?l_events_of ?c_events_of ?k_events_of ?a_state_after ?l_state_after ?c_state_after ?k_state_after ?a_follow ?l_follow ?c_follow ?k_follow ?a_walk ?l_walk ?c_walk ?k_walk ?a_law_source ?l_law_source ?c_law_source ?k_law_source ?a_law_draw ?l_law_draw ?c_law_draw ?k_law_draw ?a_law_words ?l_law_words ?c_law_words ?k_law_words ?a_law_scheme ?l_law_scheme ?c_law_scheme ?k_law_scheme ?a_law_house ?l_law_house ?c_law_house ?k_law_house ?a_law_same ?l_law_same ?c_law_same ?k_law_same ?a_law ?l_law ?c_law ?k_law ?z_all ?z_any ?z_bool ?z_enumerate ?z_int ?z_isinstance ?z_len ?z_list ?z_max ?z_min ?z_range ?z_row ?z_sorted ?z_str ?z_tuple ?z_zip ?a_GREATEST_OF_COUNTS ?a_REFUSALS ?l_REFUSALS ?a_NOTINGS ?l_NOTINGS ?a_WORDS ?l_WORDS ?a_MOST_WORDS ?a_MOST_SHOWS ?a_MOST_KEYS ?a_MOST_LETTERS ?a_MOST_SENDERS ?a_MOST_STEPS ?l_init_Frame ?c_init_Frame ?k_init_Frame ?ag_Frame ?mk_Frame ?ic_Frame ?fn_Frame ?kc_Frame ?pg_Frame ?hd_Frame ?po_Frame ?sa_Frame ?n_Frame_asks ?n_Frame_paced ?n_Frame_refused ?n_Frame_notes ?n_Frame_steady ?n_Frame_plan ?n_Frame_counts ?n_Frame_courses ?n_Frame_letters ?n_Frame_senders ?n_Frame_idle ?n_Frame_moments ?l_init_Moment ?c_init_Moment ?k_init_Moment ?ag_Moment ?mk_Moment ?ic_Moment ?fn_Moment ?kc_Moment ?pg_Moment ?hd_Moment ?po_Moment ?sa_Moment ?n_Moment_shown ?n_Moment_told ?n_Moment_closed ?n_Moment_opened ?n_Moment_drained ?n_Moment_dropped ?n_Moment_newest ?n_Moment_readable ?n_Moment_dead
    (case a_after_step => k_is)
    (case l_after_step => k_is)
    (case c_after_step => k_is)
    (case k_after_step => k_is)
    (case a_is_whole => k_is)
    (case l_is_whole => k_is)
    (case c_is_whole => k_is)
    (case k_is_whole => k_is)
    (case a_is_word => k_is)
    (case l_is_word => k_is)
    (case c_is_word => k_is)
    (case k_is_word => k_is)
    (case a_is_row => k_is)
    (case l_is_row => k_is)
    (case c_is_row => k_is)
    (case k_is_row => k_is)
    (case a_is_counts => k_is)
    (case l_is_counts => k_is)
    (case c_is_counts => k_is)
    (case k_is_counts => k_is)
    (case a_is_course => k_is)
    (case l_is_course => k_is)
    (case c_is_course => k_is)
    (case k_is_course => k_is)
    (case a_is_house => k_is)
    (case l_is_house => k_is)
    (case c_is_house => k_is)
    (case k_is_house => k_is)
    (case a_is_frame => k_is)
    (case l_is_frame => k_is)
    (case c_is_frame => k_is)
    (case k_is_frame => k_is)
    (case a_are_fitting => k_is)
    (case l_are_fitting => k_is)
    (case c_are_fitting => k_is)
    (case k_are_fitting => k_is)
    (case a_is_scheme => k_is)
    (case l_is_scheme => k_is)
    (case c_is_scheme => k_is)
    (case k_is_scheme => k_is)
    (case a_is_plan => k_is)
    (case l_is_plan => k_is)
    (case c_is_plan => k_is)
    (case k_is_plan => k_is)
    (case a_are_keys => k_is)
    (case l_are_keys => k_is)
    (case c_are_keys => k_is)
    (case k_are_keys => k_is)
    (case a_frame_of => k_is)
    (case l_frame_of => k_is)
    (case c_frame_of => k_is)
    (case k_frame_of => k_is)
    (case a_shown_at_last => k_is)
    (case l_shown_at_last => k_is)
    (case c_shown_at_last => k_is)
    (case k_shown_at_last => k_is)
    (case a_is_served => k_is)
    (case l_is_served => k_is)
    (case c_is_served => k_is)
    (case k_is_served => k_is)
    (case a_first_state => k_is)
    (case l_first_state => k_is)
    (case c_first_state => k_is)
    (case k_first_state => k_is)
    (case a_can_take => k_is)
    (case l_can_take => k_is)
    (case c_can_take => k_is)
    (case k_can_take => k_is)
    (case a_steps_in => k_is)
    (case l_steps_in => k_is)
    (case c_steps_in => k_is)
    (case k_steps_in => k_is)
    (case a_again_steps => k_is)
    (case l_again_steps => k_is)
    (case c_again_steps => k_is)
    (case k_again_steps => k_is)
    (case a_arrive_steps => k_is)
    (case l_arrive_steps => k_is)
    (case c_arrive_steps => k_is)
    (case k_arrive_steps => k_is)
    (case a_may_learn => k_is)
    (case l_may_learn => k_is)
    (case c_may_learn => k_is)
    (case k_may_learn => k_is)
    (case a_send_steps => k_is)
    (case l_send_steps => k_is)
    (case c_send_steps => k_is)
    (case k_send_steps => k_is)
    (case a_hand_steps => k_is)
    (case l_hand_steps => k_is)
    (case c_hand_steps => k_is)
    (case k_hand_steps => k_is)
    (case a_note_steps => k_is)
    (case l_note_steps => k_is)
    (case c_note_steps => k_is)
    (case k_note_steps => k_is)
    (case a_take_steps => k_is)
    (case l_take_steps => k_is)
    (case c_take_steps => k_is)
    (case k_take_steps => k_is)
    (case a_word_steps => k_is)
    (case l_word_steps => k_is)
    (case c_word_steps => k_is)
    (case k_word_steps => k_is)
    (case a_can_do => k_is)
    (case l_can_do => k_is)
    (case c_can_do => k_is)
    (case k_can_do => k_is)
    (case a_possible_steps => k_is)
    (case l_possible_steps => k_is)
    (case c_possible_steps => k_is)
    (case k_possible_steps => k_is)
    (case a_events_of => k_is)
    (case l_events_of => k_is)
    (case c_events_of => k_is)
    (case k_events_of => k_is)
    (case a_state_after => k_is)
    (case l_state_after => k_is)
    (case c_state_after => k_is)
    (case k_state_after => k_is)
    (case a_follow => k_is)
    (case l_follow => k_is)
    (case c_follow => k_is)
    (case k_follow => k_is)
    (case a_walk => k_is)
    (case l_walk => k_is)
    (case c_walk => k_is)
    (case k_walk => k_is)
    (case a_law_source => k_is)
    (case l_law_source => k_is)
    (case c_law_source => k_is)
    (case k_law_source => k_is)
    (case a_law_draw => k_is)
    (case l_law_draw => k_is)
    (case c_law_draw => k_is)
    (case k_law_draw => k_is)
    (case a_law_words => k_is)
    (case l_law_words => k_is)
    (case c_law_words => k_is)
    (case k_law_words => k_is)
    (case a_law_scheme => k_is)
    (case l_law_scheme => k_is)
    (case c_law_scheme => k_is)
    (case k_law_scheme => k_is)
    (case a_law_house => k_is)
    (case l_law_house => k_is)
    (case c_law_house => k_is)
    (case k_law_house => k_is)
    (case a_law_same => k_is)
    (case l_law_same => k_is)
    (case c_law_same => k_is)
    (case k_law_same => k_is)
    (case a_law => k_is)
    (case l_law => k_is)
    (case c_law => k_is)
    (case k_law => k_is)
    (case z_all => k_is)
    (case z_any => k_is)
    (case z_bool => k_is)
    (case z_enumerate => k_is)
    (case z_int => k_is)
    (case z_isinstance => k_is)
    (case z_len => k_is)
    (case z_list => k_is)
    (case z_max => k_is)
    (case z_min => k_is)
    (case z_range => k_is)
    (case z_row => k_is)
    (case z_sorted => k_is)
    (case z_str => k_is)
    (case z_tuple => k_is)
    (case z_zip => k_is)
    (case a_GREATEST_OF_COUNTS => k_is)
    (case a_REFUSALS => k_is)
    (case l_REFUSALS => k_is)
    (case a_NOTINGS => k_is)
    (case l_NOTINGS => k_is)
    (case a_WORDS => k_is)
    (case l_WORDS => k_is)
    (case a_MOST_WORDS => k_is)
    (case a_MOST_SHOWS => k_is)
    (case a_MOST_KEYS => k_is)
    (case a_MOST_LETTERS => k_is)
    (case a_MOST_SENDERS => k_is)
    (case a_MOST_STEPS => k_is)
    (case ag_Frame => k_is)
    (case ag_Moment => k_is)
    (case ic_Frame => k_is)
    (case ic_Moment => k_is)
    (case l_init_Frame => k_is)
    (case c_init_Frame => k_is)
    (case k_init_Frame => k_is)
    (case mk_Frame => k_is)
    (case fn_Frame => k_is)
    (case kc_Frame => k_is)
    (case pg_Frame => k_is)
    (case hd_Frame => k_is)
    (case po_Frame => k_is)
    (case sa_Frame => k_is)
    (case n_Frame_asks => k_is)
    (case n_Frame_paced => k_is)
    (case n_Frame_refused => k_is)
    (case n_Frame_notes => k_is)
    (case n_Frame_steady => k_is)
    (case n_Frame_plan => k_is)
    (case n_Frame_counts => k_is)
    (case n_Frame_courses => k_is)
    (case n_Frame_letters => k_is)
    (case n_Frame_senders => k_is)
    (case n_Frame_idle => k_is)
    (case n_Frame_moments => k_is)
    (case l_init_Moment => k_is)
    (case c_init_Moment => k_is)
    (case k_init_Moment => k_is)
    (case mk_Moment => k_is)
    (case fn_Moment => k_is)
    (case kc_Moment => k_is)
    (case pg_Moment => k_is)
    (case hd_Moment => k_is)
    (case po_Moment => k_is)
    (case sa_Moment => k_is)
    (case n_Moment_shown => k_is)
    (case n_Moment_told => k_is)
    (case n_Moment_closed => k_is)
    (case n_Moment_opened => k_is)
    (case n_Moment_drained => k_is)
    (case n_Moment_dropped => k_is)
    (case n_Moment_newest => k_is)
    (case n_Moment_readable => k_is)
    (case n_Moment_dead => k_is)
